import PyProof.Rows.All
import Wide.All
import OpenK.AllK
import Wide.FinOn
import HandS.ForMost
import HandS.IsInst
import HandS.Style
import HandS.Walk
import HandS.TupMul
import HandS.TupAny
import HandS.Evl
import HandS.Strs
import HandS.SortInts
import PyProof.P3Eq
import HandS.ForExc
import HandS.ExcIs
import HandS.FStr
import HandS.RaiseMore
import KE.GoesMore
import KE.GoesEnum
import HandS.Rev
import HandS.Comp
import HandS.HotCalls
import HandS.ExcCtx
import HandS.SuiteRaise
import HandS.WordsExc
import HandS.TryMany
import HandS.RaiseFrom
import HandS.Dict
import HandS.More
import HandS.Iter
import HandS.CallLocal
import HandS.Conv
import HandS.SetKeys
import HandS.Codes
import PyProof.StrOps2
import HandS.AnyAll
import HandS.EndOwn
import KE.KDictZip
import KE.GoesZip
import HandS.GenList
import HandS.SetFor
import HandS.Text
import PySem.Challenge.RW_lydite_k15_deep_terms
set_option Elab.async false
set_option linter.all false
set_option maxRecDepth 100000
namespace Ly
open PySem PySem.Spec PyProof.Rows L2 Evl

section
variable {K : PySem.W.Frag} {σ : L2.St} {H H' H0 : Hp} {Q : VK} {D : Ends} {ta tb tc te to : TE} {tA : TA} {t u : TT} {s1 s2 : TS} {g : TG}
theorem w_var {i : Nat} {v : V} (h : σ[i]? = some (some v)) (q : Q v H) : tVar i σ H Q := ⟨v, h, q⟩
theorem w_c {v : V} (q : Q v H) : tC v σ H Q := q
theorem w_op {r : R2} (h : ta σ H fun x H1 => tb σ H1 fun y H2 => r x y H2 Q) : tOp r ta tb σ H Q := h
theorem w_un {r : V → Hp → VK → Prop} (h : ta σ H fun x H1 => r x H1 Q) : tUn r ta σ H Q := h
theorem w_I0 {f : Int → Int → V} {i j : Int} (q : Q (f i j) H) : rI0 f (.int i) (.int j) H Q := ⟨i, j, rfl, rfl, q⟩
theorem w_I {C : Int → Int → Prop} {f : Int → Int → V} {i j : Int} (c : C i j) (q : Q (f i j) H) : rI C f (.int i) (.int j) H Q := ⟨i, j, rfl, rfl, c, q⟩
theorem w_U {f : Int → V} {i : Int} (q : Q (f i) H) : rU f (.int i) H Q := ⟨i, rfl, q⟩
theorem w_eq {x y : V} (s : scal x y = true) (q : Q (.bl (decide (x = y))) H) : rEq x y H Q := ⟨s, q⟩
theorem w_ne {x y : V} (s : scal x y = true) (q : Q (.bl (!decide (x = y))) H) : rNe x y H Q := ⟨s, q⟩
theorem w_isB {a b : Bool} (q : Q (.bl (decide (a = b))) H) : rIsB (.bl a) (.bl b) H Q := ⟨a, b, rfl, rfl, q⟩
theorem w_notB {a b : Bool} (q : Q (.bl (!decide (a = b))) H) : rNotB (.bl a) (.bl b) H Q := ⟨a, b, rfl, rfl, q⟩
theorem w_nil {R : List V → Hp → Prop} (q : R [] H) : tNil σ H R := q
theorem w_cons {R : List V → Hp → Prop} {tr : TA} (h : ta σ H fun x H1 => tr σ H1 fun xs H2 => R (x :: xs) H2) : tCons ta tr σ H R := h
theorem w_tup (h : tA σ H fun xs H1 => xs.length ≤ sizeLine ∧ ∀ p, H1 p = none → Q (.ref p) (upd H1 p (.tup xs))) : tTup tA σ H Q := h
theorem w_lst (h : tA σ H fun xs H1 => xs.length ≤ sizeLine ∧ ∀ p, H1 p = none → Q (.ref p) (upd H1 p (.lst xs))) : tLst tA σ H Q := h
theorem w_cb {r : List V → Hp → VK → Prop} (h : tA σ H fun vs H1 => r vs H1 Q) : tCB r tA σ H Q := h
theorem w_call {sp : Sp} {dvs : List V} {E : XK} (h : tA σ H fun vs H1 => sp (vs ++ dvs) H1 Q E) : tCall sp dvs E tA σ H Q := h
theorem w_isi {x : V} {n : String} {t : Value} {b : Bool} (h : TyX K H x t) (k : PySem.W.kitOne K t (.type n) = some b) (q : Q (.bl b) H) : rIsi K [x, .ty n] H Q :=
  ⟨x, .ty n, t, .type n, b, rfl, .ty n, h, k, q⟩
theorem w_bm {T : String} {r : V → List V → Hp → VK → Prop} (h : to σ H fun x H1 => tyV K T x H1 ∧ tA σ H1 fun xs H2 => r x xs H2 Q) : tBM K T r to tA σ H Q := h
theorem w_bm0 {T : String} {r : V → List V → Hp → VK → Prop} (h : to σ H fun x H1 => tyV K T x H1 ∧ r x [] H1 Q) : tBM0 K T r to σ H Q := h
theorem w_app {l : Addr} {xs : List V} {y : V} (h : H l = some (.lst xs)) (z : xs.length < sizeLine) (q : Q .non (upd H l (.lst (xs ++ [y])))) : rAppend (.ref l) [y] H Q := ⟨l, xs, y, rfl, rfl, h, z, q⟩
theorem w_popA {l : Addr} {xs : List V} {y : V} (h : H l = some (.lst (xs ++ [y]))) (q : Q y (upd H l (.lst xs))) : rPop (.ref l) [] H Q :=
  ⟨l, xs ++ [y], y, rfl, rfl, h, by simp, by rw [List.dropLast_concat]; exact q⟩
theorem w_sadd {w : World} {a : Addr} {k : Int} {S : Int → Bool} {n : Nat} (h : H a = some (SetO w a S n)) (r : n + 1 < 4096) (q : Q .non (upd H a (SetO w a (fun j => S j || decide (j = k)) (if S k = true then n else n + 1)))) : rSAdd w (.ref a) [.int k] H Q := ⟨a, k, S, n, rfl, rfl, h, r, q⟩
theorem w_tsadd {w : World} (h : ta σ H fun x H1 => (∃ a S n, x = V.ref a ∧ H1 a = some (SetO w a S n)) ∧ tA σ H1 fun xs H2 => rSAdd w x xs H2 Q) : tSAdd w ta tA σ H Q := h
theorem w_tsadd1 {w : World} {a : Addr} {S : Int → Bool} {n : Nat} {B : Prop} (h : H a = some (SetO w a S n)) (q : B) : (∃ b S' n', V.ref a = V.ref b ∧ H b = some (SetO w b S' n')) ∧ B := ⟨⟨a, S, n, rfl, h⟩, q⟩
theorem w_ext {l b : Addr} {xs zs : List V} (h : H l = some (.lst xs)) (h2 : H b = some (.lst zs)) (z : xs.length + zs.length ≤ sizeLine) (q : Q .non (upd H l (.lst (xs ++ zs)))) : rExtend (.ref l) [.ref b] H Q := ⟨l, b, xs, zs, rfl, rfl, h, h2, z, q⟩
theorem w_ixL {p : Addr} {xs : List V} {i : Int} {v : V} (h : SqL K H p xs) (a : atI xs i = some v) (q : Q v H) : rIxL K (.ref p) (.int i) H Q := ⟨p, xs, i, v, rfl, rfl, h, a, q⟩
theorem w_ixT {p : Addr} {xs : List V} {i : Int} {v : V} (h : SqT K H p xs) (a : atI xs i = some v) (q : Q v H) : rIxT K (.ref p) (.int i) H Q := ⟨p, xs, i, v, rfl, rfl, h, a, q⟩
theorem w_cat {a b : Addr} {xs ys : List V} (h : H a = some (.lst xs)) (h2 : H b = some (.lst ys)) (z : xs.length + ys.length ≤ sizeLine) (q : ∀ p, H p = none → Q (.ref p) (upd H p (.lst (xs ++ ys)))) : rCat (.ref a) (.ref b) H Q := ⟨a, b, xs, ys, rfl, rfl, h, h2, z, q⟩
theorem w_test {R : Bool → Hp → Prop} (h : te σ H fun x H1 => ∃ k, x = .bl k ∧ R k H1) : tTest te σ H R := h
theorem w_tB {R : Bool → Hp → Prop} (h : te σ H fun x H1 => ∃ k, x = .bl k ∧ R k H1) : tB te σ H R := h
theorem w_bl {A : Bool → Prop} {k : Bool} (h : A k) : ∃ c, V.bl k = .bl c ∧ A c := ⟨k, rfl, h⟩
theorem w_and {R : Bool → Hp → Prop} (h : t σ H fun c H1 => if c = true then u σ H1 R else R false H1) : tAnd t u σ H R := h
theorem w_or {R : Bool → Hp → Prop} (h : t σ H fun c H1 => if c = true then R true H1 else u σ H1 R) : tOr t u σ H R := h
theorem w_not {R : Bool → Hp → Prop} (h : t σ H fun c H1 => R (!c) H1) : tNot t σ H R := h
theorem w_andV (h : ta σ H fun x H1 => ∃ c, x = .bl c ∧ if c = true then tb σ H1 Q else Q (.bl false) H1) : tAndV ta tb σ H Q := h
theorem w_orV (h : ta σ H fun x H1 => ∃ c, x = .bl c ∧ if c = true then Q (.bl true) H1 else tb σ H1 Q) : tOrV ta tb σ H Q := h
theorem w_notV (h : ta σ H fun x H1 => ∃ c, x = .bl c ∧ Q (.bl (!c)) H1) : tNotV ta σ H Q := h
theorem w_ifE (h : t σ H fun c H1 => if c = true then ta σ H1 Q else tb σ H1 Q) : tIf t ta tb σ H Q := h
theorem w_ch {r r' : R2} (h : ta σ H fun x H1 => tb σ H1 fun y H2 => r x y H2 fun z H3 => ∃ k, z = .bl k ∧ (if k = true then tc σ H3 fun w' H4 => r' y w' H4 Q else Q (.bl false) H3)) : tChain r r' ta tb tc σ H Q := h
-- statements
theorem sl_of {t : TS} {D : Ends} {σ σ2 : L2.St} {H : Hp} (e : σ = σ2) (h : t D σ2 H) : t D σ H := by
  rw [e]
  exact h
theorem w_seq (h : s1 { D with nx := s2 D } σ H) : tSeq s1 s2 D σ H := h
theorem w_cut {M : L2.St → Hp → Prop} (h : s1 { D with nx := M } σ H) (q : ∀ σ' H', M σ' H' → s2 D σ' H') : tCut s1 s2 D σ H := ⟨M, h, q⟩
theorem w_while (W : Nat → L2.St → Hp → Prop) (m0 : Nat) (h0 : W m0 σ H) (hs : ∀ m σ H, W m σ H → t σ H fun b H1 => if b = true then ∃ N : L2.St → Hp → Prop, (∀ σ' H', N σ' H' → ∃ m', m' < m ∧ W m' σ' H') ∧ s1 { D with nx := N, ct := N, bk := D.nx } σ H1 else D.nx σ H1) : tWhile t s1 D σ H := ⟨W, ⟨m0, h0⟩, hs⟩
theorem w_truL {l : Addr} {xs : List V} {A : Bool → Prop} (h : SqL K H l xs) (q : A (!xs.isEmpty)) : ∃ k, TruV K (.ref l) H k ∧ A k := ⟨_, .inl ⟨xs, h, rfl⟩, q⟩
theorem w_next (h : D.nx σ H) : tNext D σ H := h
theorem w_drop (h : te σ H fun _ H1 => D.nx σ H1) : tDrop te D σ H := h
theorem w_ret (h : te σ H D.rt) : tRet te D σ H := h
theorem w_asg (h : te σ H fun x H1 => g x σ H1 D.nx) : tAsg te g D σ H := h
theorem w_if (h : t σ H fun b H1 => if b = true then s1 D σ H1 else s2 D σ H1) : tIfS t s1 s2 D σ H := h
theorem w_name {v : V} {i : Nat} {R : L2.St → Hp → Prop} (h : R (σ.set i (some v)) H) : gName i v σ H R := h
theorem w_sub {v : V} {st : TSet} {R : L2.St → Hp → Prop} (h : ta σ H fun o H1 => tb σ H1 fun i H2 => st o i v H2 fun H3 => R σ H3) : gSub ta tb st v σ H R := h
theorem w_setL {R : Hp → Prop} {p : Addr} {xs : List V} {k : Int} {j : Nat} {v : V} (h : H p = some (.lst xs)) (a : ixN xs.length k = some j) (q : R (upd H p (.lst (xs.set j v)))) : rSetL (.ref p) (.int k) v H R := ⟨p, xs, k, j, rfl, rfl, h, a, q⟩
theorem w_aug {i : Nat} {x : V} {ti : TIp} (h : σ[i]? = some (some x)) (q : te σ H fun y H1 => ti x y H1 fun z H2 => D.nx (σ.set i (some z)) H2) : tAug i te ti D σ H := ⟨x, h, q⟩
theorem w_ipI {f : Int → Int → Int} {i j : Int} (q : Q (.int (f i j)) H) : ipI f (.int i) (.int j) H Q := ⟨i, j, rfl, rfl, q⟩
end

def ForB (J : It) (g : TG) (tb : TS) (D : Ends) (σ : L2.St) (H1 : Hp) : Prop := ∃ W : Nat → Nat → L2.St → Hp → Prop, (∃ m, W 0 m σ H1) ∧ ∀ i m σ H, W i m σ H →
  (J.stop i H ∧ D.nx σ H) ∨ (J.go i H ∧ ∃ N : L2.St → Hp → Prop, (∀ σ' H', N σ' H' → ∃ m', m' < m ∧ W (i + 1) m' σ' H') ∧ ∀ x H', J.yld i H x H' → g x σ H' fun σ2 H2 => tb { D with nx := N, ct := N, bk := D.nx } σ2 H2)
def LcB (J : It) (g : TG) (tt : TT) (te : TE) (vs : List Nat) (Q : VK) (σ : L2.St) (H1 : Hp) (Dl : Addr) : Prop := ∃ W : Nat → Nat → Hp → Prop, (∃ m, W 0 m (upd H1 Dl (.lst []))) ∧ ∀ i m H, W i m H →
  (J.stop i H ∧ Q (.ref Dl) H) ∨ (J.go i H ∧ ∃ Nx : Hp → Prop, (∀ H', Nx H' → ∃ m', m' < m ∧ W (i + 1) m' H') ∧ ∀ x H', J.yld i H x H' → g x (wipe σ vs) H' fun σ2 H2 => wipe σ2 vs = wipe σ vs ∧ tt σ2 H2 fun b H3 =>
    if b = true then te σ2 H3 fun y H4 => ∃ acc, H4 Dl = some (.lst acc) ∧ acc.length < sizeLine ∧ Nx (upd H4 Dl (.lst (acc ++ [y]))) else Nx H3)
section
variable {K : PySem.W.Frag} {σ : L2.St} {H : Hp} {D : Ends} {ta tb : TE} {tA : TA} {g : TG} {s1 : TS} {wi : TI} {R : It → Hp → Prop}
theorem w_for (h : wi σ H fun J H1 => ForB J g s1 D σ H1) : tFor wi g s1 D σ H := h
theorem w_iL (h : ta σ H fun x H1 => ∃ a, x = .ref a ∧ (∃ xs, SqL K H1 a xs) ∧ R (Itl K a) H1) : iList K ta σ H R := h
theorem w_iL1 {a : Addr} {xs : List V} {B : Addr → Prop} (h : SqL K H a xs) (q : B a) : ∃ b, V.ref a = .ref b ∧ (∃ ys, SqL K H b ys) ∧ B b := ⟨a, rfl, ⟨xs, h⟩, q⟩
theorem w_iT (h : ta σ H fun x H1 => ∃ a, x = .ref a ∧ (∃ xs, SqT K H1 a xs) ∧ R (Itt K a) H1) : iTup K ta σ H R := h
theorem w_iT1 {a : Addr} {xs : List V} {B : Addr → Prop} (h : SqT K H a xs) (q : B a) : ∃ b, V.ref a = .ref b ∧ (∃ ys, SqT K H b ys) ∧ B b := ⟨a, rfl, ⟨xs, h⟩, q⟩
theorem w_iR (h : tA σ H fun vs H1 => ∃ j : Int, vs = [.int j] ∧ -(2 ^ 62) ≤ j ∧ j < 2 ^ 62 ∧ R (Itr 0 j.toNat) H1) : iRng1 tA σ H R := h
theorem w_iR1 {j : Int} {B : Int → Prop} (h1 : -(2 ^ 62) ≤ j) (h2 : j < 2 ^ 62) (q : B j) : ∃ k, [V.int j] = [V.int k] ∧ -(2 ^ 62) ≤ k ∧ k < 2 ^ 62 ∧ B k := ⟨j, rfl, h1, h2, q⟩
theorem w_yes {R : Bool → Hp → Prop} (h : R true H) : tYes σ H R := h
theorem w_wipe {σ2 : L2.St} {vs : List Nat} {B : Prop} (e : wipe σ2 vs = wipe σ vs) (q : B) : wipe σ2 vs = wipe σ vs ∧ B := ⟨e, q⟩
theorem w_lc {tt : TT} {te : TE} {vs : List Nat} {Q : VK} (h : wi σ H fun J H1 => ∀ Dl, H1 Dl = none → LcB J g tt te vs Q σ H1 Dl) : tLc wi g tt te vs σ H Q := h
end

def Fr (s : Addr) (H H' : Hp) : Prop := ∀ a o, a ≠ s → H a = some o → H' a = some o
section
variable {K : PySem.W.Frag} {H H' H0 H1 H2 : Hp} {a p s : Addr} {o : HO} {xs ys : List V}
theorem Fr.refl (s : Addr) (H : Hp) : Fr s H H := fun _ _ _ h => h
theorem Fr.ex (e : Ex H H') : Fr s H H' := fun a o _ h => e a o h
theorem Fr.trans (a : Fr s H H1) (b : Fr s H1 H2) : Fr s H H2 := fun x o n h => b x o n (a x o n h)
theorem Fr.new (e : Fr s H H') (h : H' p = none) : Fr s H (upd H' p o) := fun x u n ha => by
  have q := e x u n ha
  rw [upd_ne (ne_of_none q h)]
  exact q
theorem Fr.mut (e : Fr s H H') (h : H p = none) : Fr s H (upd H' p o) := fun x u n ha => by
  rw [upd_ne (ne_of_none ha h)]
  exact e x u n ha
theorem Fr.own (e : Fr s H H') : Fr s H (upd H' s o) := fun x u n ha => by
  rw [upd_ne n]
  exact e x u n ha
theorem Fr.free (e : Fr s H H') (hs : H s = some o) (h : H' p = none) (h2 : p ≠ s) : H p = none := by
  cases q : H p with
  | none => rfl
  | some u =>
    rw [e p u h2 q] at h
    cases h
theorem ex_upd (e : Ex H H') (h : H p = none) : Ex H (upd H' p o) := e.mut h
theorem ex_new (e : Ex H H') (h : H' p = none) : Ex H (upd H' p o) := e.trans (Ex.new h)
theorem ly_at (e : Ex H H') (h : H a = some o) : H' a = some o := e a o h
theorem ly_atF (e : Fr s H H') (n : a ≠ s) (h : H a = some o) : H' a = some o := e a o n h
theorem ly_mulL {i j : Int} (h1 : -(2 ^ 64) < i) (h2 : i < 2 ^ 64) : CMul i j := .inl ⟨h1, h2⟩
theorem ly_mulR {i j : Int} (h1 : -(2 ^ 64) < j) (h2 : j < 2 ^ 64) : CMul i j := .inr ⟨h1, h2⟩
end
section
variable {K : PySem.W.Frag} {H : Hp} {Q : VK} {p : Addr} {xs : List V}
theorem w_int {i : Int} {A : Int → Prop} {B : Prop} (q : A i) : (∃ j, [V.int i] = [V.int j] ∧ A j) ∨ B := .inl ⟨i, rfl, q⟩
theorem w_intB {k : Bool} {A : Prop} {B : Bool → Prop} (q : B k) : A ∨ ∃ c, [V.bl k] = [V.bl c] ∧ B c := .inr ⟨k, rfl, q⟩
theorem w_abs {i : Int} {A : Int → Prop} (q : A i) : ∃ j, [V.int i] = [V.int j] ∧ A j := ⟨i, rfl, q⟩
theorem w_lenL {A : Addr → List V → Prop} (h : SqL K H p xs) (q : A p xs) : ∃ a ys, [V.ref p] = [V.ref a] ∧ (SqL K H a ys ∨ SqT K H a ys) ∧ A a ys := ⟨p, xs, rfl, .inl h, q⟩
theorem w_lenT {A : Addr → List V → Prop} (h : SqT K H p xs) (q : A p xs) : ∃ a ys, [V.ref p] = [V.ref a] ∧ (SqL K H a ys ∨ SqT K H a ys) ∧ A a ys := ⟨p, xs, rfl, .inr h, q⟩
theorem w_tupL {A B : Addr → List V → Prop} (h : SqL K H p xs) (q : A p xs) : ∃ a ys, [V.ref p] = [V.ref a] ∧ ((SqL K H a ys ∧ A a ys) ∨ (SqT K H a ys ∧ B a ys)) := ⟨p, xs, rfl, .inl ⟨h, q⟩⟩
theorem w_tupT {A B : Addr → List V → Prop} (h : SqT K H p xs) (q : B p xs) : ∃ a ys, [V.ref p] = [V.ref a] ∧ ((SqL K H a ys ∧ A a ys) ∨ (SqT K H a ys ∧ B a ys)) := ⟨p, xs, rfl, .inr ⟨h, q⟩⟩
theorem w_nT {A B : Prop} (h : B) : if (!true) = true then A else B := iteF h
theorem w_nF {A B : Prop} (h : A) : if (!false) = true then A else B := iteT h
theorem w_br {c A B : Prop} [Decidable c] (h1 : c → A) (h2 : ¬ c → B) : if decide c = true then A else B := ite2 (fun h => h1 (of_decide_eq_true h)) (fun h => h2 (fun z => h (decide_eq_true z)))
theorem w_deIS {i : Int} {x : Str} {A B : Prop} (h : B) : if decide (V.int i = V.str x) = true then A else B := iteF h
theorem w_deSI {i : Int} {x : Str} {A B : Prop} (h : B) : if decide (V.str x = V.int i) = true then A else B := iteF h
theorem w_deST {x y : Str} {A B : Prop} (e : x = y) (h : A) : if decide (V.str x = V.str y) = true then A else B := by
  rw [decide_eq_true (by rw [e])]
  exact iteT h
theorem w_deSF {x y : Str} {A B : Prop} (e : x ≠ y) (h : B) : if decide (V.str x = V.str y) = true then A else B := by
  rw [decide_eq_false (fun z => e (V.str.inj z))]
  exact iteF h
theorem w_deISn {i : Int} {x : Str} {A B : Prop} (h : A) : if (!decide (V.int i = V.str x)) = true then A else B := iteT h
theorem w_deSTn {x y : Str} {A B : Prop} (e : x = y) (h : B) : if (!decide (V.str x = V.str y)) = true then A else B := by
  rw [decide_eq_true (by rw [e])]
  exact iteF h
theorem w_deSFn {x y : Str} {A B : Prop} (e : x ≠ y) (h : A) : if (!decide (V.str x = V.str y)) = true then A else B := by
  rw [decide_eq_false (fun z => e (V.str.inj z))]
  exact iteT h
theorem w_neS {x : V} {A B : Prop} (h : B) : if (!decide (x = x)) = true then A else B := by
  rw [decide_eq_true rfl]
  exact iteF h
theorem w_eqS {x : V} {A B : Prop} (h : A) : if decide (x = x) = true then A else B := by
  rw [decide_eq_true rfl]
  exact iteT h
theorem w_neSb {x : Bool} {A B : Prop} (h : B) : if (!decide (x = x)) = true then A else B := by
  rw [decide_eq_true rfl]
  exact iteF h
theorem w_eqSb {x : Bool} {A B : Prop} (h : A) : if decide (x = x) = true then A else B := by
  rw [decide_eq_true rfl]
  exact iteT h
theorem w_neG {α : Type} {x : α} [Decidable (x = x)] {A B : Prop} (h : B) : if (!decide (x = x)) = true then A else B := by
  rw [decide_eq_true rfl]
  exact iteF h
theorem w_eqG {α : Type} {x : α} [Decidable (x = x)] {A B : Prop} (h : A) : if decide (x = x) = true then A else B := by
  rw [decide_eq_true rfl]
  exact iteT h
theorem w_nn {B : Prop} (q : B) : V.non = V.non ∧ B := ⟨rfl, q⟩
theorem w_nnT {A B : Prop} (h : B) : if (!decide (V.non = V.non)) = true then A else B := iteF h
theorem w_nnR {a : Addr} {A B : Prop} (h : A) : if (!decide (V.ref a = V.non)) = true then A else B := iteT h
theorem w_brI {i j : Int} {A B : Prop} (h1 : i = j → A) (h2 : i ≠ j → B) : if decide (V.int i = V.int j) = true then A else B := w_br (fun h => h1 (V.int.inj h)) (fun h => h2 (fun z => h (by rw [z])))
theorem w_brSn {i j : Str} {A B : Prop} (h1 : i ≠ j → A) (h2 : i = j → B) : if (!decide (V.str i = V.str j)) = true then A else B := by
  by_cases e : i = j
  · rw [e, decide_eq_true rfl]
    exact iteF (h2 e)
  · rw [decide_eq_false (fun z => e (V.str.inj z))]
    exact iteT (h1 e)
theorem w_disp {R : Addr → Prop} (z : xs.length ≤ sizeLine) (q : ∀ p, H p = none → R p) : xs.length ≤ sizeLine ∧ ∀ p, H p = none → R p := ⟨z, q⟩
theorem w_tyL {R : Prop} (h : SqL K H p xs) (q : R) : tyV K "list" (.ref p) H ∧ R := ⟨.inl ⟨rfl, xs, h⟩, q⟩
end
theorem kcls_mk {K : PySem.W.Frag} {t : Value} {C : Addr} {r : Bool} (d : PySem.W.hasDictIn K C = true) (ty : PySem.W.typeIn K (.ref C) = some (.type "type")) (s : PySem.W.subIn K t (.ref C) = some r) : PySem.W.kitCls K t (.ref C) = some r := by
  have h : ((PySem.W.clsIn K C).isSome && PySem.W.typeIn K (.ref C) == some (.type "type")) = true := by
    obtain ⟨cd, hc, _⟩ := PySem.W.any_some d
    rw [hc, ty]
    simp
  show (if ((PySem.W.clsIn K C).isSome && PySem.W.typeIn K (.ref C) == some (.type "type")) = true then PySem.W.subIn K t (.ref C) else none) = some r
  rw [if_pos h, s]
theorem exm_mk {K : PySem.W.Frag} {t : Value} {C : Addr} {r : Bool} (b : PySem.W.subIn K (.ref C) (.type "BaseException") = some true) (d : PySem.W.hasDictIn K C = true) (ty : PySem.W.typeIn K (.ref C) = some (.type "type")) (s : PySem.W.subIn K t (.ref C) = some r) : PySem.W.exmOne K t (.ref C) = some r := by
  unfold PySem.W.exmOne
  rw [b]
  simp [kcls_mk d ty s]
section
variable {K : PySem.W.Frag} {σ : L2.St} {H : Hp} {Q : VK} {te : TE} {tA : TA}
theorem w_js {ts : List TE} {acc : Str} {R : Str → Hp → Prop} (h : te σ H fun x H1 => ∃ y : Str, x = .str y ∧ (acc ++ y).length ≤ sizeLine ∧ tJs ts (acc ++ y) σ H1 R) : tJs (te :: ts) acc σ H R := h
theorem w_jsn {acc : Str} {R : Str → Hp → Prop} (h : R acc H) : tJs [] acc σ H R := h
theorem w_js1 {z acc : Str} {A : Str → Prop} (hl : (acc ++ z).length ≤ sizeLine) (q : A z) : ∃ y : Str, V.str z = .str y ∧ (acc ++ y).length ≤ sizeLine ∧ A y := ⟨z, rfl, hl, q⟩
theorem w_fmt (h : te σ H fun x H1 => (∃ y : Str, x = .str y ∧ y.length ≤ sizeLine ∧ Q (.str y) H1) ∨ ∃ i : Int, x = .int i ∧ i.natAbs.log2 < 1920 ∧ Q (.str (toString i)) H1) : tFmt te σ H Q := h
theorem w_fmt1 {i : Int} {A : Prop} {B : Int → Prop} (hl : i.natAbs.log2 < 1920) (q : B i) : A ∨ ∃ j : Int, V.int i = .int j ∧ j.natAbs.log2 < 1920 ∧ B j := .inr ⟨i, rfl, hl, q⟩
theorem w_callS {sp : Sp} {E : L2.St → XK} (h : tA σ H fun vs H1 => sp vs H1 Q (E σ)) : tCallS sp E tA σ H Q := h
end
section
variable {K : PySem.W.Frag} {H H' : Hp} {Q : VK} {a b p : Addr} {xs ys : List V}
theorem w_catA (h : SqT K H a xs) (h2 : SqT K H b ys) (z : xs.length + ys.length ≤ sizeLine) (q : ∀ p H', Ex H H' → SqT K H' p (xs ++ ys) → Q (.ref p) H') : rCatA K (.ref a) (.ref b) H Q :=
  ⟨a, b, xs, ys, rfl, rfl, h, h2, z, fun e => q b H (Ex.refl H) (by rw [e]; exact h2), fun _ e => q a H (Ex.refl H) (by rw [e, List.append_nil]; exact h), fun _ _ p hp => q p _ (Ex.new hp) (SqT.of upd_same)⟩
theorem w_slA {lo hi : Option Int} (h : SqT K H a xs) (q : ∀ p H', Ex H H' → SqT K H' p (cutV xs lo hi) → Q (.ref p) H') : rSlA K (.ref a) lo hi H Q := by
  refine ⟨a, xs, rfl, h, fun e => q a H (Ex.refl H) ?_, fun _ p hp => q p _ (Ex.new hp) (SqT.of upd_same)⟩
  unfold cutV
  rw [e.1, e.2]
  simpa using h
theorem tyx_t (h : SqT K H a xs) : TyX K H (.ref a) (.type "tuple") := by
  rcases h with (h | ⟨o, h⟩) | ⟨o, _, _, h, c, _⟩
  · exact .base (.tup h)
  · exact .fTuple h
  · exact .kTuple h c
theorem tyx_l (h : SqL K H a xs) : TyX K H (.ref a) (.type "list") := by
  rcases h with (h | ⟨o, h⟩) | ⟨o, _, _, h, c, _⟩
  · exact .base (.lst h)
  · exact .base (.frz h)
  · exact .kList h c
end
set_option maxHeartbeats 4000000 in
theorem mul_one_meets (l : Addr) (items : Array Value) (n : Nat) (di : Option Addr) (ss : Array (Option Value)) (u : Tok) :
    Meets (Builtin.«tuple.__mul__» ⟨[.ref l, .int 1 u], []⟩) (fun _ R s => s.heap.get? l = some { cls := .type "tuple", dict := di, data := .seq items n, slots := ss } ∧ R (.ok (.ret (Value.ref l))) s) :=
  .of_wp fun prog w A R s ⟨hl, h⟩ => by
    obtain ⟨hp, g, d, tk, os⟩ := s
    have idx := AutoSeq1.idx_int
    have c1 : (items.isEmpty || (1 : Int) == 1) = true := by simp
    have c0 : (decide ((1 : Int) < -(2 ^ 63)) || decide ((1 : Int) ≥ 2 ^ 63)) = false := by decide
    wp_walk using wpAny_loadPart' hl
    repeat (first
      | (refine wpAny_ite_false (decide_eq_false (fun z => by rw [c0] at z; cases z)) ?_; wp_walk using wpAny_loadPart' hl)
      | (refine wpAny_ite_true (decide_eq_true (by simp)) ?_; wp_walk using wpAny_loadPart' hl))
    exact ⟨_, rfl, h⟩
set_option maxHeartbeats 4000000 in
theorem mul_zero_meets (l : Addr) (items : Array Value) (n : Nat) (di : Option Addr) (ss : Array (Option Value)) (u : Tok) (em : items.isEmpty = false) :
    Meets (Builtin.«tuple.__mul__» ⟨[.ref l, .int 0 u], []⟩) (fun _ R s => s.heap.get? l = some { cls := .type "tuple", dict := di, data := .seq items n, slots := ss } ∧
      R (.ok (.ret (Value.ref s.heap.objs.size))) { s with heap := s.heap.push { cls := Value.type "tuple", data := Data.seq #[] }, toks := s.toks }) :=
  .of_wp fun prog w A R s ⟨hl, h⟩ => by
    obtain ⟨hp, g, d, tk, os⟩ := s
    have idx := AutoSeq1.idx_int
    have c1 : (items.isEmpty || (0 : Int) == 1) = false := by rw [em]; rfl
    have c2 : (decide ((0 : Int) ≤ 0) || items.isEmpty) = true := by simp
    have c0 : (decide ((0 : Int) < -(2 ^ 63)) || decide ((0 : Int) ≥ 2 ^ 63)) = false := by decide
    wp_walk using wpAny_loadPart' hl
    repeat (first
      | (refine wpAny_ite_false (decide_eq_false (fun z => by rw [c0] at z; cases z)) ?_; wp_walk using wpAny_loadPart' hl)
      | (refine wpAny_ite_false (decide_eq_false (fun z => by rw [c1] at z; cases z)) ?_; wp_walk using wpAny_loadPart' hl)
      | (refine wpAny_ite_true (decide_eq_true c2) ?_; wp_walk using wpAny_loadPart' hl))
    exact ⟨_, rfl, h⟩
def rRepB (K : PySem.W.Frag) : R2 := fun x y H Q => ∃ (l : Addr) (k : Int) (xs : List V), x = .ref l ∧ y = .int k ∧ SqT K H l xs ∧ xs ≠ [] ∧ 0 ≤ k ∧ k ≤ 3000 ∧ xs.length ≤ 1000 ∧ (k = 1 → Q (.ref l) H) ∧ (k ≠ 1 → ∀ p, H p = none → Q (.ref p) (upd H p (.tup (List.replicate k.toNat xs).flatten)))
theorem op_repB {X : Cx} : OpR X (binaryOp .Mult) (rRepB X.K) := by
  intro pins s σ H x y v u Q I rx ry ⟨l, k, xs, ex, ey, hT, hne, k0, k3, hz, q1, q⟩
  subst ex ey
  cases rx
  obtain ⟨tt, eu⟩ := ry
  subst eu
  obtain ⟨its, r, ⟨⟨cl, di, da, ss⟩, hob, hcl, n, hda⟩, _⟩ := I.tuple hT
  simp only at hcl hda
  subst hcl hda
  have el : its.length = xs.length := r.length.symm
  have es : its.toArray.size = xs.length := by rw [List.size_toArray, el]
  have pos : 0 < xs.length := List.length_pos_iff.mpr hne
  have em : its.toArray.isEmpty = false := by
    rw [Array.isEmpty_eq_false_iff_exists_mem]
    obtain ⟨a0, ha0⟩ := List.exists_mem_of_length_pos (l := its) (by omega)
    exact ⟨a0, by simpa using ha0⟩
  have big : k.toNat * xs.length ≤ 3000 * 1000 := Nat.mul_le_mul (by omega) hz
  have prod : ((its.toArray.size : Nat) : Int) * k = ((k.toNat * xs.length : Nat) : Int) := by
    rw [es, Int.natCast_mul, Int.toNat_of_nonneg (by omega), Int.mul_comm]
  have fl : (List.replicate k.toNat its).flatten.length = k.toNat * xs.length := by rw [PyProof.Rows.lm_len_rep_flat, el]
  have sl := sizeLine_eq
  have d0 : (decide (k < -(2 ^ 63)) || decide (k ≥ 2 ^ 63)) = false := by simp; omega
  refine wpAny_binaryOp_repeat_ref (T := "tuple") (U := "int") (by decide) ⟨_, hob, rfl⟩ (fun z => typeIs_int z k tt) noFill_tuple_mul F.fills_int_mul F.slot_int_rmul repeat_tuple F.slot_int_index.lookup (call_meets F.slot_int_rmul (typeIs_int s k tt) F.entry_int_rmul (F.args_int_rmul_2 _ _)
    (int_rmul_tuple k tt l its.toArray n di ss) ⟨hob, rfl, ⟨_, hob, rfl⟩, ?_⟩)
  have made : ∀ (xs2 : List V) (us : List Value), Vals xs2 us → xs2.length ≤ 3000000 → (∀ p, H p = none → Q (.ref p) (upd H p (.tup xs2))) → EP X pins σ Q (.ref s.heap.objs.size) { s with heap := s.heap.push { cls := Value.type "tuple", data := Data.seq us.toArray }, toks := s.toks } := fun xs2 us rv hlen q2 =>
    ⟨.ref s.heap.objs.size, _, I.laid (t' := s.toks) (o := .tup xs2) (fun _ _ z => Heap.get?_push_of_some _ z) (Nat.le_refl _) ⟨by omega, _, rv, IsTup.new _ _⟩, rfl, q2 _ (I.hok.fresh (Nat.le_refl _))⟩
  by_cases h1 : k = 1
  · subst h1
    exact call_meets F.slot_tuple_mul ⟨_, hob, rfl⟩ F.entry_tuple_mul (F.args_tuple_mul_2 _ _) (mul_one_meets l its.toArray n di ss tt) ⟨hob, .ref l, H, I, rfl, q1 rfl⟩
  · by_cases h2 : k = 0
    · subst h2
      exact call_meets F.slot_tuple_mul ⟨_, hob, rfl⟩ F.entry_tuple_mul (F.args_tuple_mul_2 _ _) (mul_zero_meets l its.toArray n di ss tt em) ⟨hob, made [] [] .nil (by simp) (q h1)⟩
    · have d1 : (its.toArray.isEmpty || k == 1) = false := by rw [em]; simp; omega
      have d2 : (decide (k ≤ 0) || its.toArray.isEmpty) = false := by rw [em]; simp; omega
      have d4 : Builtin.Tuple.tupleTooMany (((its.toArray.size : Nat) : Int) * k) = false := by
        rw [prod]
        unfold Builtin.Tuple.tupleTooMany
        exact decide_eq_false (by omega)
      have tm : Meets _ _ := tuple_mulW l its.toArray n di ss k tt d0 d1 d2 (by rw [prod]; omega) d4 (by rw [size_rep, List.size_toArray, fl]; omega)
      refine call_meets F.slot_tuple_mul ⟨_, hob, rfl⟩ F.entry_tuple_mul (F.args_tuple_mul_2 _ _) tm ⟨hob, ?_⟩
      rw [size_rep]
      exact made _ _ (r.rep k.toNat) (by rw [PyProof.Rows.lm_len_rep_flat]; omega) (q h1)
theorem w_repB {K : PySem.W.Frag} {H : Hp} {Q : VK} {l : Addr} {k : Int} {xs : List V} (h : SqT K H l xs) (hne : xs ≠ []) (h2 : 0 ≤ k) (h3 : k ≤ 3000) (hz : xs.length ≤ 1000) (q : ∀ p H', Ex H H' → SqT K H' p (List.replicate k.toNat xs).flatten → Q (.ref p) H') : rRepB K (.ref l) (.int k) H Q := by
  refine ⟨l, k, xs, rfl, rfl, h, hne, h2, h3, hz, fun e => q l H (Ex.refl H) ?_, fun _ p hp => q p _ (Ex.new hp) (SqT.of upd_same)⟩
  subst e
  simpa using h
section
variable {X : Cx} {K : PySem.W.Frag}
theorem ix_listK (e : X.K = K) : IxR X (rIxL K) := by
  rw [← e]
  exact ix_list
end
def Kp (H H' : Hp) : Prop := (∀ a xs, H a = some (.lst xs) → ∃ ys, H' a = some (.lst ys)) ∧ ∀ a xs, H a = some (.tup xs) → H' a = some (.tup xs)
section
variable {K : PySem.W.Frag} {H H' H1 : Hp} {a s l : Addr} {xs ys : List V}
theorem Kp.refl (H : Hp) : Kp H H := ⟨fun _ xs h => ⟨xs, h⟩, fun _ _ h => h⟩
theorem Kp.trans (e : Kp H H1) (f : Kp H1 H') : Kp H H' := ⟨fun a xs h => by
  obtain ⟨ys, h1⟩ := e.1 a xs h
  exact f.1 a ys h1, fun a xs h => f.2 a xs (e.2 a xs h)⟩
theorem Kp.ex (e : Ex H H') : Kp H H' := ⟨fun a xs h => ⟨xs, e a _ h⟩, fun a xs h => e a _ h⟩
theorem Kp.fr (e : Fr s H H') (h : H s = some (.lst xs)) (h2 : H' s = some (.lst ys)) : Kp H H' := ⟨fun a zs q => by
  by_cases z : a = s
  · rw [z]
    exact ⟨_, h2⟩
  · exact ⟨_, e a _ z q⟩, fun a zs q => e a _ (fun z => by rw [z, h] at q; cases q) q⟩
theorem Kp.put (h : H l = some (.lst xs)) : Kp H (upd H l (.lst ys)) := ⟨fun a zs q => by
  by_cases z : a = l
  · rw [z]
    exact ⟨_, upd_same⟩
  · exact ⟨zs, by rw [upd_ne z]; exact q⟩, fun a zs q => by
  rw [upd_ne (fun z => by rw [z, h] at q; cases q)]
  exact q⟩
/-- the values of the law that asks is_term -/
inductive Kd (H : Hp) : V → Prop
  | int (i : Int) : Kd H (.int i)
  | str (x : Str) : Kd H (.str x)
  | bl (b : Bool) : Kd H (.bl b)
  | non : Kd H .non
  | lst {a : Addr} {xs : List V} (h : H a = some (.lst xs)) : Kd H (.ref a)
  | tup {a : Addr} {xs : List V} (h : H a = some (.tup xs)) : Kd H (.ref a)
theorem Kd.mono {v : V} (h : Kd H v) (e : Kp H H') : Kd H' v := by
  cases h with
  | int i => exact .int i
  | str x => exact .str x
  | bl b => exact .bl b
  | non => exact .non
  | lst h =>
    obtain ⟨ys, h⟩ := e.1 _ _ h
    exact .lst h
  | tup h => exact .tup (e.2 _ _ h)
end
theorem Kd.ty {H : Hp} {v : V} (h : Kd H v) (K : PySem.W.Frag) : ∃ n, TyX K H v (.type n) ∧ n = (match v with | .int _ => "int" | .str _ => "str" | .bl _ => "bool" | .non => "NoneType" | _ => n) := by
  cases h with
  | int i => exact ⟨_, .base (.int i), rfl⟩
  | str i => exact ⟨_, .base (.str i), rfl⟩
  | bl i => exact ⟨_, .base (.bl i), rfl⟩
  | non => exact ⟨_, .base .non, rfl⟩
  | lst h => exact ⟨_, .base (.lst h), rfl⟩
  | tup h => exact ⟨_, .base (.tup h), rfl⟩
theorem qeq {Q : VK} {H : Hp} {b c : Bool} (q : Q (.bl b) H) (e : b = c) : Q (.bl c) H := by
  rw [← e]
  exact q
theorem all_cons {H : Hp} {v : V} {xs : List V} (h : Kd H v) (t : ∀ x ∈ xs, Kd H x) : ∀ x ∈ v :: xs, Kd H x := fun x hx => by
  rcases List.mem_cons.mp hx with e | e
  · rw [e]
    exact h
  · exact t x e
theorem all_kp {H H' : Hp} {xs : List V} (h : ∀ x ∈ xs, Kd H x) (e : Kp H H') : ∀ x ∈ xs, Kd H' x := fun x hx => (h x hx).mono e
section
variable {K : PySem.W.Frag}
theorem kit_int_int : PySem.W.kitOne K (.type "int") (.type "int") = some true := kit_ty (by decide +kernel)
theorem kit_int_str : PySem.W.kitOne K (.type "int") (.type "str") = some false := kit_ty (by decide +kernel)
theorem kit_int_bool : PySem.W.kitOne K (.type "int") (.type "bool") = some false := kit_ty (by decide +kernel)
theorem kit_int_tuple : PySem.W.kitOne K (.type "int") (.type "tuple") = some false := kit_ty (by decide +kernel)
theorem kit_int_list : PySem.W.kitOne K (.type "int") (.type "list") = some false := kit_ty (by decide +kernel)
theorem kit_str_int : PySem.W.kitOne K (.type "str") (.type "int") = some false := kit_ty (by decide +kernel)
theorem kit_str_str : PySem.W.kitOne K (.type "str") (.type "str") = some true := kit_ty (by decide +kernel)
theorem kit_str_bool : PySem.W.kitOne K (.type "str") (.type "bool") = some false := kit_ty (by decide +kernel)
theorem kit_str_tuple : PySem.W.kitOne K (.type "str") (.type "tuple") = some false := kit_ty (by decide +kernel)
theorem kit_str_list : PySem.W.kitOne K (.type "str") (.type "list") = some false := kit_ty (by decide +kernel)
theorem kit_bool_int : PySem.W.kitOne K (.type "bool") (.type "int") = some true := kit_ty (by decide +kernel)
theorem kit_bool_str : PySem.W.kitOne K (.type "bool") (.type "str") = some false := kit_ty (by decide +kernel)
theorem kit_bool_bool : PySem.W.kitOne K (.type "bool") (.type "bool") = some true := kit_ty (by decide +kernel)
theorem kit_bool_tuple : PySem.W.kitOne K (.type "bool") (.type "tuple") = some false := kit_ty (by decide +kernel)
theorem kit_bool_list : PySem.W.kitOne K (.type "bool") (.type "list") = some false := kit_ty (by decide +kernel)
theorem kit_NoneType_int : PySem.W.kitOne K (.type "NoneType") (.type "int") = some false := kit_ty (by decide +kernel)
theorem kit_NoneType_str : PySem.W.kitOne K (.type "NoneType") (.type "str") = some false := kit_ty (by decide +kernel)
theorem kit_NoneType_bool : PySem.W.kitOne K (.type "NoneType") (.type "bool") = some false := kit_ty (by decide +kernel)
theorem kit_NoneType_tuple : PySem.W.kitOne K (.type "NoneType") (.type "tuple") = some false := kit_ty (by decide +kernel)
theorem kit_NoneType_list : PySem.W.kitOne K (.type "NoneType") (.type "list") = some false := kit_ty (by decide +kernel)
theorem kit_list_int : PySem.W.kitOne K (.type "list") (.type "int") = some false := kit_ty (by decide +kernel)
theorem kit_list_str : PySem.W.kitOne K (.type "list") (.type "str") = some false := kit_ty (by decide +kernel)
theorem kit_list_bool : PySem.W.kitOne K (.type "list") (.type "bool") = some false := kit_ty (by decide +kernel)
theorem kit_list_tuple : PySem.W.kitOne K (.type "list") (.type "tuple") = some false := kit_ty (by decide +kernel)
theorem kit_list_list : PySem.W.kitOne K (.type "list") (.type "list") = some true := kit_ty (by decide +kernel)
theorem kit_tuple_int : PySem.W.kitOne K (.type "tuple") (.type "int") = some false := kit_ty (by decide +kernel)
theorem kit_tuple_str : PySem.W.kitOne K (.type "tuple") (.type "str") = some false := kit_ty (by decide +kernel)
theorem kit_tuple_bool : PySem.W.kitOne K (.type "tuple") (.type "bool") = some false := kit_ty (by decide +kernel)
theorem kit_tuple_tuple : PySem.W.kitOne K (.type "tuple") (.type "tuple") = some true := kit_ty (by decide +kernel)
theorem kit_tuple_list : PySem.W.kitOne K (.type "tuple") (.type "list") = some false := kit_ty (by decide +kernel)
end
/-- a def that may be called by its name -/
def Def (P : Program) (w : World) (K : PySem.W.Frag) (mg : Str → Option Value) (base : Heap) (CX : CXT) (k : Nat) (x : Str) (ps : List Str) (sp : Sp) : Prop :=
  ∃ (f : Addr) (fd : FuncData), mg x = some (.ref f) ∧ PySem.W.keepIn K (.ref f) = true ∧ Binds K fd ps [] ∧ FnOk P w K mg base CX k f fd ps sp
theorem Def.of {P : Program} {w : World} {K : PySem.W.Frag} {mg : Str → Option Value} {base : Heap} {CX : CXT} {k : Nat} {x : Str} {ps : List Str} {sp : Sp} {f : Addr} {fd : FuncData} (g : mg x = some (.ref f)) (kp : PySem.W.keepIn K (.ref f) = true) (b : Binds K fd ps []) (G : FnOk P w K mg base CX k f fd ps sp) : Def P w K mg base CX k x ps sp := ⟨f, fd, g, kp, b, G⟩
theorem drop_at {α : Type} {xs : List α} {i : Nat} {x : α} (h : xs[i]? = some x) : xs.drop i = x :: xs.drop (i + 1) := by
  obtain ⟨h1, rfl⟩ := List.getElem?_eq_some_iff.mp h
  exact List.drop_eq_getElem_cons h1
def isVarV : V → Bool
  | .int i => decide (0 ≤ i) && decide (i ≤ 1000000)
  | _ => false
def isNodeV : V → Bool
  | .str x => decide (x = "lam") || decide (x = "app")
  | v => isVarV v
def pcV (v : V) : Int := if v = .str "app" then 2 else if v = .str "lam" then 1 else 0
def scanV : Int → List V → Bool
  | m, [] => decide (m = 0)
  | m, v :: r => if m = 0 ∨ isNodeV v = false then false else scanV (m + (pcV v - 1)) r
def isTermV (xs : List V) : Bool := decide (xs.length ≤ 1000) && scanV 1 xs
inductive Tm where
  | var (n : Nat)
  | lam (b : Tm)
  | app (f a : Tm)
def Tm.enc : Tm → List V
  | .var n => [.int n]
  | .lam b => .str "lam" :: b.enc
  | .app f a => .str "app" :: (f.enc ++ a.enc)
/-- its free variables are below d -/
def Tm.wf : Nat → Tm → Prop
  | d, .var n => n < d
  | d, .lam b => b.wf (d + 1)
  | d, .app f a => f.wf d ∧ a.wf d
def encs (ts : List Tm) : List V := (ts.map Tm.enc).flatten
/-- whatever terms stand for what waits (the last one first), the whole is a term -/
def Comp (loose : Nat) (nodes : List V) (wait : List Nat) : Prop := ∀ ts : List Tm, ts.length = wait.length → (∀ p ∈ ts.zip wait.reverse, p.1.wf (p.2 + loose)) → ∃ t : Tm, t.wf loose ∧ t.enc = nodes ++ encs ts
theorem Comp.start (loose : Nat) : Comp loose [] [0] := fun ts hl hw => by
  match ts, hl with
  | [t], _ =>
    refine ⟨t, ?_, by simp [encs]⟩
    have := hw (t, 0) (by simp)
    simpa using this
theorem Comp.done {loose : Nat} {nodes : List V} (h : Comp loose nodes []) : ∃ t : Tm, t.wf loose ∧ t.enc = nodes := by
  obtain ⟨t, h1, h2⟩ := h [] rfl (by simp)
  exact ⟨t, h1, by rw [h2]; simp [encs]⟩
theorem Comp.var {loose : Nat} {nodes : List V} {wait : List Nat} {d n : Nat} (h : Comp loose nodes (wait ++ [d])) (hn : n < d + loose) : Comp loose (nodes ++ [.int n]) wait := fun ts hl hw => by
  obtain ⟨t, h1, h2⟩ := h (.var n :: ts) (by simp [hl]) (fun p hp => by
    rw [List.reverse_append] at hp
    rcases List.mem_cons.mp hp with e | e
    · subst e
      exact hn
    · exact hw p e)
  exact ⟨t, h1, by rw [h2]; simp [encs, Tm.enc]⟩
theorem Comp.lam {loose : Nat} {nodes : List V} {wait : List Nat} {d : Nat} (h : Comp loose nodes (wait ++ [d])) : Comp loose (nodes ++ [.str "lam"]) (wait ++ [d + 1]) := fun ts hl hw => by
  match ts, hl with
  | [], hl => simp at hl
  | b :: r, hl =>
    rw [List.reverse_append] at hw
    obtain ⟨t, h1, h2⟩ := h (.lam b :: r) (by simpa using hl) (fun p hp => by
      rw [List.reverse_append] at hp
      rcases List.mem_cons.mp hp with e | e
      · subst e
        have := hw (b, d + 1) (by simp)
        show b.wf (d + loose + 1)
        have e2 : d + loose + 1 = d + 1 + loose := by omega
        rw [e2]
        exact this
      · exact hw p (List.mem_cons_of_mem _ e))
    exact ⟨t, h1, by rw [h2]; simp [encs, Tm.enc]⟩
theorem Comp.app {loose : Nat} {nodes : List V} {wait : List Nat} {d : Nat} (h : Comp loose nodes (wait ++ [d])) : Comp loose (nodes ++ [.str "app"]) (wait ++ [d] ++ [d]) := fun ts hl hw => by
  match ts, hl with
  | [], hl => simp at hl
  | [_], hl => simp at hl
  | f :: a :: r, hl =>
    rw [List.reverse_append, List.reverse_append] at hw
    obtain ⟨t, h1, h2⟩ := h (.app f a :: r) (by simpa using hl) (fun p hp => by
      rw [List.reverse_append] at hp
      rcases List.mem_cons.mp hp with e | e
      · subst e
        exact ⟨hw (f, d) (by simp), hw (a, d) (by simp)⟩
      · exact hw p (List.mem_cons_of_mem _ (List.mem_cons_of_mem _ e)))
    exact ⟨t, h1, by rw [h2]; simp [encs, Tm.enc]⟩
def Flat (xs : List V) : Prop := ∀ x ∈ xs, (∃ i, x = .int i) ∨ ∃ s, x = .str s
theorem Flat.kd {xs : List V} (h : Flat xs) (H : Hp) : ∀ x ∈ xs, Kd H x := fun x hx => by
  rcases h x hx with ⟨i, rfl⟩ | ⟨s, rfl⟩
  · exact .int i
  · exact .str s
theorem Flat.app {xs ys : List V} (h : Flat xs) (t : Flat ys) : Flat (xs ++ ys) := fun x hx => by
  rcases List.mem_append.mp hx with e | e
  · exact h x e
  · exact t x e
theorem Flat.rep {xs : List V} (h : Flat xs) (n : Nat) : Flat (List.replicate n xs).flatten := fun x hx => by
  obtain ⟨l, h1, h2⟩ := List.mem_flatten.mp hx
  rw [(List.mem_replicate.mp h1).2] at h2
  exact h x h2
theorem Flat.one (x : V) (h : (∃ i, x = .int i) ∨ ∃ s, x = .str s) : Flat [x] := fun y hy => by
  rw [List.mem_singleton.mp hy]
  exact h
theorem Flat.two (x z : V) (h : (∃ i, x = .int i) ∨ ∃ s, x = .str s) (h2 : (∃ i, z = .int i) ∨ ∃ s, z = .str s) : Flat [x, z] := fun y hy => by
  rcases List.mem_cons.mp hy with e | e
  · rw [e]
    exact h
  · rw [List.mem_singleton.mp e]
    exact h2
theorem Flat.cons {x : V} {xs : List V} (h : (∃ i, x = .int i) ∨ ∃ s, x = .str s) (t : Flat xs) : Flat (x :: xs) := fun y hy => by
  rcases List.mem_cons.mp hy with e | e
  · rw [e]
    exact h
  · exact t y e
theorem Flat.nil : Flat [] := fun x h => absurd h (by simp)
theorem Tm.flat : ∀ t : Tm, Flat t.enc
  | .var n => Flat.one _ (.inl ⟨_, rfl⟩)
  | .lam b => Flat.cons (.inr ⟨_, rfl⟩) b.flat
  | .app f a => Flat.cons (.inr ⟨_, rfl⟩) (f.flat.app a.flat)
/-- no variable too great -/
def okV : V → Bool
  | .int i => decide (i ≤ 1000000)
  | _ => true
def fitsV (xs : List V) : Bool := decide (xs.length ≤ 1000) && xs.all okV
def Nds (xs : List V) : Prop := ∀ x ∈ xs, (∃ i, x = .int i) ∨ x = .str "lam" ∨ x = .str "app"
theorem Nds.flat {xs : List V} (h : Nds xs) : Flat xs := fun x hx => by
  rcases h x hx with e | e | e
  · exact .inl e
  · exact .inr ⟨_, e⟩
  · exact .inr ⟨_, e⟩
theorem Nds.nil : Nds [] := fun x h => absurd h (by simp)
theorem Nds.app {xs ys : List V} (h : Nds xs) (t : Nds ys) : Nds (xs ++ ys) := fun x hx => by
  rcases List.mem_append.mp hx with e | e
  · exact h x e
  · exact t x e
theorem Nds.cons {x : V} {xs : List V} (h : (∃ i, x = .int i) ∨ x = .str "lam" ∨ x = .str "app") (t : Nds xs) : Nds (x :: xs) := fun y hy => by
  rcases List.mem_cons.mp hy with e | e
  · rw [e]
    exact h
  · exact t y e
theorem Nds.rep {xs : List V} (h : Nds xs) (n : Nat) : Nds (List.replicate n xs).flatten := fun x hx => by
  obtain ⟨l, h1, h2⟩ := List.mem_flatten.mp hx
  rw [(List.mem_replicate.mp h1).2] at h2
  exact h x h2
theorem Nds.tail {x : V} {xs : List V} (h : Nds (x :: xs)) : Nds xs := fun y hy => h y (List.mem_cons_of_mem _ hy)
theorem Nds.take {xs : List V} (h : Nds xs) (n : Nat) : Nds (xs.take n) := fun x hx => h x (List.mem_of_mem_take hx)
theorem Nds.drop {xs : List V} (h : Nds xs) (n : Nat) : Nds (xs.drop n) := fun x hx => h x (List.mem_of_mem_drop hx)
theorem Nds.I (i : Int) : (∃ j, V.int i = .int j) ∨ V.int i = .str "lam" ∨ V.int i = .str "app" := .inl ⟨i, rfl⟩
theorem Nds.L : (∃ j, V.str "lam" = .int j) ∨ V.str "lam" = .str "lam" ∨ V.str "lam" = .str "app" := .inr (.inl rfl)
theorem Nds.A : (∃ j, V.str "app" = .int j) ∨ V.str "app" = .str "lam" ∨ V.str "app" = .str "app" := .inr (.inr rfl)
theorem Tm.nds : ∀ t : Tm, Nds t.enc
  | .var n => Nds.cons (Nds.I _) Nds.nil
  | .lam b => Nds.cons Nds.L b.nds
  | .app f a => Nds.cons Nds.A (f.nds.app a.nds)
def dv : V → PyData
  | .int i => .int i
  | .str x => .str x
  | _ => .none
theorem eqv_nodes : ∀ {xs ys : List V}, Nds xs → Nds ys → PyData.eqvAll (xs.map dv) (ys.map dv) = decide (xs = ys)
  | [], [], _, _ => by simp [PyData.eqvAll]
  | [], _ :: _, _, _ => by simp [PyData.eqvAll]
  | _ :: _, [], _, _ => by simp [PyData.eqvAll]
  | x :: xs, y :: ys, h, k => by
    have ih := eqv_nodes h.tail k.tail
    have hxy : PyData.eqv (dv x) (dv y) = decide (x = y) := by
      rcases h x List.mem_cons_self with ⟨i, rfl⟩ | rfl | rfl <;> rcases k y List.mem_cons_self with ⟨j, rfl⟩ | rfl | rfl <;> simp [dv, PyData.eqv] <;> first | (rw [Bool.eq_iff_iff]; simp) | decide +kernel
    rw [List.map_cons, List.map_cons, PyData.eqvAll, ih, hxy]
    simp
theorem lay_nodes : ∀ {xs : List V}, Nds xs → PyData.canLayAll0 (xs.map dv) = true
  | [], _ => rfl
  | x :: xs, h => by
    have ih := lay_nodes h.tail
    have hx : (dv x).canLay0 = true := by
      rcases h x List.mem_cons_self with ⟨i, rfl⟩ | rfl | rfl
      · rfl
      · decide +kernel
      · decide +kernel
    rw [List.map_cons, PyData.canLayAll0, hx, ih]
    rfl
theorem dp_nodes {K : PySem.W.Frag} {H : Hp} : ∀ {xs : List V}, Nds xs → DpAll K H xs (xs.map dv)
  | [], _ => .nil
  | x :: xs, h => by
    refine .cons ?_ (dp_nodes h.tail)
    rcases h x List.mem_cons_self with ⟨i, rfl⟩ | rfl | rfl
    · exact .int i
    · exact .str _
    · exact .str _
theorem depth_atom (x : V) : (dv x).depth ≤ 1 := by
  cases x <;> simp [dv, PyData.depth]
theorem depth_all : ∀ xs : List V, PyData.depthAll (xs.map dv) ≤ 1
  | [] => by simp [PyData.depthAll]
  | x :: xs => by
    have h1 := depth_atom x
    have h2 := depth_all xs
    simp only [List.map_cons, PyData.depthAll]
    omega
theorem depth_nodes {xs : List V} : (PyData.tuple (xs.map dv)).depth ≤ 2 := by
  have h := depth_all xs
  simp only [PyData.depth]
  omega
theorem shaped_nodes {xs : List V} (h : Nds xs) : SeqAt.shaped (.tuple (xs.map dv)) = true := by
  have h1 : (PyData.tuple (xs.map dv)).canLay0 = true := lay_nodes h
  have h2 := depth_nodes (xs := xs)
  unfold SeqAt.shaped
  rw [h1, Bool.true_and]
  exact decide_eq_true (by omega)
section
variable {K : PySem.W.Frag} {H : Hp} {Q : VK} {a b : Addr} {xs ys : List V}
theorem w_eqN (h : SqT K H a xs) (k : SqT K H b ys) (n : Nds xs) (m : Nds ys) (q : Q (.bl (decide (xs = ys))) H) : rEqD K (.ref a) (.ref b) H Q :=
  ⟨_, _, .tup h (dp_nodes n), .tup k (dp_nodes m), shaped_nodes n, shaped_nodes m, by rw [PyData.eqv, eqv_nodes n m]; exact q⟩
theorem w_neN (h : SqT K H a xs) (k : SqT K H b ys) (n : Nds xs) (m : Nds ys) (q : Q (.bl (!decide (xs = ys))) H) : rNeD K (.ref a) (.ref b) H Q :=
  ⟨_, _, .tup h (dp_nodes n), .tup k (dp_nodes m), shaped_nodes n, shaped_nodes m, by rw [PyData.eqv, eqv_nodes n m]; exact q⟩
theorem w_neNon (k : SqT K H b ys) (m : Nds ys) (q : Q (.bl true) H) : rNeD K .non (.ref b) H Q :=
  ⟨_, _, .non, .tup k (dp_nodes m), by decide, shaped_nodes m, q⟩
theorem w_eqNon (k : SqT K H b ys) (m : Nds ys) (q : Q (.bl false) H) : rEqD K .non (.ref b) H Q :=
  ⟨_, _, .non, .tup k (dp_nodes m), by decide, shaped_nodes m, q⟩
end
theorem ly_lt {n : Nat} (h : n < 15000000) : n < sizeLine := by
  rw [sizeLine_eq]
  omega
theorem ly_sz {n : Nat} (h : n ≤ 16000000) : n ≤ sizeLine := by
  rw [sizeLine_eq]
  omega
def Tm.lamN : Nat → Tm → Tm
  | 0, t => t
  | n + 1, t => .lam (Tm.lamN n t)
def Tm.rowN (c : Nat) : Nat → Tm → Tm
  | 0, t => t
  | n + 1, t => .app (.var c) (Tm.rowN c n t)
theorem Tm.enc_lamN (n : Nat) (t : Tm) : (Tm.lamN n t).enc = (List.replicate n [V.str "lam"]).flatten ++ t.enc := by
  induction n with
  | zero => rfl
  | succ n ih =>
    show V.str "lam" :: (Tm.lamN n t).enc = _
    rw [ih, List.replicate_succ]
    rfl
theorem Tm.enc_rowN (c n : Nat) (t : Tm) : (Tm.rowN c n t).enc = (List.replicate n [V.str "app", V.int c]).flatten ++ t.enc := by
  induction n with
  | zero => rfl
  | succ n ih =>
    show V.str "app" :: ([V.int c] ++ (Tm.rowN c n t).enc) = _
    rw [ih, List.replicate_succ]
    rfl
/-- the greatest variable is at most M -/
def Tm.vars (M : Nat) : Tm → Prop
  | .var n => n ≤ M
  | .lam b => b.vars M
  | .app f a => f.vars M ∧ a.vars M
theorem Tm.vars_lamN {M n : Nat} {t : Tm} (h : t.vars M) : (Tm.lamN n t).vars M := by
  induction n with
  | zero => exact h
  | succ n ih => exact ih
theorem Tm.vars_mono {M N : Nat} (hm : M ≤ N) : ∀ {t : Tm}, t.vars M → t.vars N
  | .var n, h => Nat.le_trans h hm
  | .lam b, h => Tm.vars_mono hm (t := b) h
  | .app f a, h => ⟨Tm.vars_mono hm (t := f) h.1, Tm.vars_mono hm (t := a) h.2⟩
theorem Tm.vars_wf : ∀ {t : Tm} {d : Nat}, t.wf d → t.vars (d + t.enc.length)
  | .var n, d, h => by
    show n ≤ d + 1
    have : n < d := h
    omega
  | .lam b, d, h => by
    have := Tm.vars_wf (t := b) (d := d + 1) h
    exact Tm.vars_mono (by simp [Tm.enc]; omega) this
  | .app f a, d, h => by
    have h1 := Tm.vars_wf (t := f) h.1
    have h2 := Tm.vars_wf (t := a) h.2
    exact ⟨Tm.vars_mono (by simp [Tm.enc]; omega) h1, Tm.vars_mono (by simp [Tm.enc]; omega) h2⟩
theorem pcV_lam : pcV (.str "lam") = 1 := by decide +kernel
theorem pcV_app : pcV (.str "app") = 2 := by decide +kernel
theorem pcV_int (i : Int) : pcV (.int i) = 0 := rfl
theorem node_lam : isNodeV (.str "lam") = true := by decide +kernel
theorem node_app : isNodeV (.str "app") = true := by decide +kernel
theorem node_int {i : Int} (h : 0 ≤ i) (h2 : i ≤ 1000000) : isNodeV (.int i) = true := by simp [isNodeV, isVarV, h, h2]
theorem scan_enc : ∀ (t : Tm), t.vars 1000000 → ∀ (k : Int) (r : List V), 0 ≤ k → scanV (k + 1) (t.enc ++ r) = scanV k r
  | .var n, h, k, r, hk => by
    have h : n ≤ 1000000 := h
    show scanV (k + 1) (V.int n :: r) = _
    have e : k + 1 + (0 - 1) = k := by omega
    rw [scanV, if_neg (by rw [node_int (by omega) (by omega)]; simp; omega), pcV_int, e]
  | .lam b, h, k, r, hk => by
    show scanV (k + 1) (V.str "lam" :: (b.enc ++ r)) = _
    have e : k + 1 + (1 - 1) = k + 1 := by omega
    rw [scanV, if_neg (by rw [node_lam]; simp; omega), pcV_lam, e]
    exact scan_enc b h k r hk
  | .app f a, h, k, r, hk => by
    show scanV (k + 1) (V.str "app" :: (f.enc ++ a.enc ++ r)) = _
    have e : k + 1 + (2 - 1) = k + 1 + 1 := by omega
    rw [scanV, if_neg (by rw [node_app]; simp; omega), pcV_app, e, List.append_assoc, scan_enc f h.1 (k + 1) _ (by omega)]
    exact scan_enc a h.2 k r hk
theorem scan_tm {t : Tm} (h : t.vars 1000000) : scanV 1 t.enc = true := by
  have := scan_enc t h 0 [] (by omega)
  rw [List.append_nil] at this
  rw [show (1 : Int) = 0 + 1 from rfl, this]
  rfl
theorem ok_vars : ∀ {t : Tm}, t.vars 1000000 → t.enc.all okV = true
  | .var n, h => by
    have h : n ≤ 1000000 := h
    simp [Tm.enc, okV]
    omega
  | .lam b, h => by
    have := ok_vars (t := b) h
    simp only [Tm.enc, List.all_cons, this]
    rfl
  | .app f a, h => by
    have h1 := ok_vars (t := f) h.1
    have h2 := ok_vars (t := a) h.2
    simp only [Tm.enc, List.all_cons, List.all_append, h1, h2]
    rfl
def Tm.deps : Nat → Tm → List Nat
  | d, .var _ => [d]
  | d, .lam b => d :: b.deps (d + 1)
  | d, .app f a => d :: (f.deps d ++ a.deps d)
theorem Tm.deps_len : ∀ (t : Tm) (d : Nat), (t.deps d).length = t.enc.length
  | .var _, _ => rfl
  | .lam b, d => by simp [Tm.deps, Tm.enc, Tm.deps_len b]
  | .app f a, d => by simp [Tm.deps, Tm.enc, Tm.deps_len f, Tm.deps_len a]
theorem Tm.enc_ne : ∀ t : Tm, t.enc ≠ []
  | .var _ => by simp [Tm.enc]
  | .lam _ => by simp [Tm.enc]
  | .app _ _ => by simp [Tm.enc]
def depss : List Tm → List Nat → List Nat
  | t :: ts, d :: ds => t.deps d ++ depss ts ds
  | _, _ => []
theorem encs_cons (t : Tm) (ts : List Tm) : encs (t :: ts) = t.enc ++ encs ts := by simp [encs]
theorem encs_nil {ts : List Tm} (h : encs ts = []) : ts = [] := by
  cases ts with
  | nil => rfl
  | cons t r =>
    rw [encs_cons] at h
    exact absurd (List.append_eq_nil_iff.mp h).1 t.enc_ne
/-- in the midst of a walk over a term's nodes: what is left are the terms ts, whose depths wait (the last one first) -/
def DInv (t : Tm) (i : Nat) (found ds : List Nat) : Prop := ∃ ts : List Tm, t.enc.drop i = encs ts ∧ ts.length = ds.length ∧ t.deps 0 = found ++ depss ts ds.reverse
theorem DInv.start (t : Tm) : DInv t 0 [] [0] := ⟨[t], by simp [encs], rfl, by simp [depss]⟩
theorem DInv.done {t : Tm} {found ds : List Nat} (h : DInv t t.enc.length found ds) : found = t.deps 0 := by
  obtain ⟨ts, h1, h2, h3⟩ := h
  rw [List.drop_length] at h1
  have e := encs_nil h1.symm
  subst e
  rw [h3]
  simp [depss]
theorem DInv.step {t : Tm} {i : Nat} {found ds : List Nat} {v : V} (h : DInv t i found ds) (hv : t.enc[i]? = some v) : ∃ r d, ds = r ++ [d] ∧
    ((∃ n : Nat, v = .int n ∧ DInv t (i + 1) (found ++ [d]) r) ∨ (v = .str "lam" ∧ DInv t (i + 1) (found ++ [d]) (r ++ [d + 1])) ∨ (v = .str "app" ∧ DInv t (i + 1) (found ++ [d]) (r ++ [d] ++ [d]))) := by
  obtain ⟨ts, h1, h2, h3⟩ := h
  rw [drop_at hv] at h1
  match ts, h1, h2, h3 with
  | [], h1, _, _ => cases h1
  | t1 :: r1, h1, h2, h3 =>
    have hne : ds ≠ [] := fun e => by
      rw [e] at h2
      cases h2
    refine ⟨ds.dropLast, ds.getLast hne, (List.dropLast_concat_getLast hne).symm, ?_⟩
    generalize hr : ds.dropLast = r at *
    generalize hd : ds.getLast hne = d at *
    have hds : ds = r ++ [d] := by rw [← hr, ← hd]; exact (List.dropLast_concat_getLast hne).symm
    subst hds
    rw [List.reverse_append] at h3
    have h3 : t.deps 0 = found ++ (t1.deps d ++ depss r1 r.reverse) := h3
    have hl : r1.length = r.length := by simpa using h2
    rw [encs_cons] at h1
    cases t1 with
    | var n =>
      have h1 : v :: t.enc.drop (i + 1) = V.int n :: encs r1 := h1
      injection h1 with e1 e2
      exact .inl ⟨n, e1, r1, e2, hl, by rw [h3]; simp [Tm.deps]⟩
    | lam b =>
      have h1 : v :: t.enc.drop (i + 1) = V.str "lam" :: (b.enc ++ encs r1) := h1
      injection h1 with e1 e2
      exact .inr (.inl ⟨e1, b :: r1, by rw [e2, encs_cons], by simp [hl], by rw [h3, List.reverse_append]; simp [Tm.deps, depss]⟩)
    | app f a =>
      have h1 : v :: t.enc.drop (i + 1) = V.str "app" :: (f.enc ++ a.enc ++ encs r1) := h1
      injection h1 with e1 e2
      exact .inr (.inr ⟨e1, f :: a :: r1, by rw [e2, encs_cons, encs_cons, List.append_assoc], by simp [hl], by rw [h3, List.reverse_append, List.reverse_append]; simp [Tm.deps, depss]⟩)
def Tm.vmap (g : Nat → Nat → Nat) : Nat → Tm → Tm
  | d, .var n => .var (g d n)
  | d, .lam b => .lam (b.vmap g (d + 1))
  | d, .app f a => .app (f.vmap g d) (a.vmap g d)
def vm (g : Nat → Nat → Nat) (v : V) (d : Nat) : V := match v with
  | .int n => .int (g d n.toNat)
  | v => v
theorem Tm.deps_vmap (g : Nat → Nat → Nat) : ∀ (t : Tm) (d : Nat), (t.vmap g d).deps d = t.deps d
  | .var _, _ => rfl
  | .lam b, d => by simp [Tm.vmap, Tm.deps, Tm.deps_vmap g b]
  | .app f a, d => by simp [Tm.vmap, Tm.deps, Tm.deps_vmap g f, Tm.deps_vmap g a]
theorem Tm.enc_vmap (g : Nat → Nat → Nat) : ∀ (t : Tm) (d : Nat), (t.vmap g d).enc = List.zipWith (vm g) t.enc (t.deps d)
  | .var _, _ => rfl
  | .lam b, d => by simp [Tm.vmap, Tm.deps, Tm.enc, Tm.enc_vmap g b, vm]
  | .app f a, d => by
    have hl : f.enc.length = (f.deps d).length := (Tm.deps_len f d).symm
    simp only [Tm.vmap, Tm.deps, Tm.enc, List.zipWith_cons_cons, Tm.enc_vmap g f, Tm.enc_vmap g a, List.zipWith_append hl]
    rfl
theorem zip_take {α β γ : Type} {f : α → β → γ} {xs : List α} {ys : List β} {i : Nat} {x : α} {y : β} (hx : xs[i]? = some x) (hy : ys[i]? = some y) : (List.zipWith f xs ys).take (i + 1) = (List.zipWith f xs ys).take i ++ [f x y] := by
  rw [List.take_add_one, List.getElem?_zipWith, hx, hy]
  rfl
/-- the free variables, place by place -/
def frv (v : V) (d : Nat) : List Int := match v with
  | .int n => if (d : Int) ≤ n then [n - d] else []
  | _ => []
theorem Tm.int_nat : ∀ {t : Tm} {v : V}, v ∈ t.enc → (∃ n : Nat, v = .int n) ∨ v = .str "lam" ∨ v = .str "app"
  | .var n, v, h => .inl ⟨n, by simpa [Tm.enc] using h⟩
  | .lam b, v, h => by
    rcases List.mem_cons.mp h with e | e
    · exact .inr (.inl e)
    · exact Tm.int_nat (t := b) e
  | .app f a, v, h => by
    rcases List.mem_cons.mp h with e | e
    · exact .inr (.inr e)
    · rcases List.mem_append.mp e with e | e
      · exact Tm.int_nat (t := f) e
      · exact Tm.int_nat (t := a) e
theorem sorted_one : ∀ {ns ms : List Int}, ns.Pairwise (· < ·) → ms.Pairwise (· < ·) → (∀ j, j ∈ ns ↔ j ∈ ms) → ns = ms
  | [], [], _, _, _ => rfl
  | [], m :: ms, _, _, h => absurd ((h m).mpr List.mem_cons_self) (by simp)
  | n :: ns, [], _, _, h => absurd ((h n).mp List.mem_cons_self) (by simp)
  | n :: ns, m :: ms, h1, h2, h => by
    obtain ⟨a1, b1⟩ := List.pairwise_cons.mp h1
    obtain ⟨a2, b2⟩ := List.pairwise_cons.mp h2
    have e : n = m := by
      rcases List.mem_cons.mp ((h n).mp List.mem_cons_self) with q | q
      · exact q
      · rcases List.mem_cons.mp ((h m).mpr List.mem_cons_self) with p | p
        · exact p.symm
        · have l1 := a1 m p
          have l2 := a2 n q
          omega
    subst e
    rw [sorted_one b1 b2 fun j => ?_]
    constructor
    · intro hj
      rcases List.mem_cons.mp ((h j).mp (List.mem_cons_of_mem _ hj)) with q | q
      · have := a1 j hj
        omega
      · exact q
    · intro hj
      rcases List.mem_cons.mp ((h j).mpr (List.mem_cons_of_mem _ hj)) with q | q
      · have := a2 j hj
        omega
      · exact q
theorem le_lt {ns : List Int} (h : ns.Pairwise (· ≤ ·)) (n : ns.Nodup) : ns.Pairwise (· < ·) := by
  induction ns with
  | nil => exact .nil
  | cons a r ih =>
    obtain ⟨h1, h2⟩ := List.pairwise_cons.mp h
    obtain ⟨n1, n2⟩ := List.nodup_cons.mp n
    refine List.pairwise_cons.mpr ⟨fun b hb => ?_, ih h2 n2⟩
    have l := h1 b hb
    have ne : a ≠ b := fun e => n1 (by rw [e]; exact hb)
    omega
section
variable {K : PySem.W.Frag} {H : Hp} {Q : VK} {a b : Addr} {xs ys : List V}
theorem shapedL_nodes {xs : List V} (h : Nds xs) : SeqAt.shaped (.list (xs.map dv)) = true := by
  have h1 : (PyData.list (xs.map dv)).canLay0 = true := lay_nodes h
  have h2 : (PyData.list (xs.map dv)).depth ≤ 2 := by
    have h := depth_all xs
    simp only [PyData.depth]
    omega
  unfold SeqAt.shaped
  rw [h1, Bool.true_and]
  exact decide_eq_true (by omega)
theorem w_eqL (h : SqL K H a xs) (k : SqL K H b ys) (n : Nds xs) (m : Nds ys) (q : Q (.bl (decide (xs = ys))) H) : rEqD K (.ref a) (.ref b) H Q :=
  ⟨_, _, .lst h (dp_nodes n), .lst k (dp_nodes m), shapedL_nodes n, shapedL_nodes m, by rw [PyData.eqv, eqv_nodes n m]; exact q⟩
theorem w_neL (h : SqL K H a xs) (k : SqL K H b ys) (n : Nds xs) (m : Nds ys) (q : Q (.bl (!decide (xs = ys))) H) : rNeD K (.ref a) (.ref b) H Q :=
  ⟨_, _, .lst h (dp_nodes n), .lst k (dp_nodes m), shapedL_nodes n, shapedL_nodes m, by rw [PyData.eqv, eqv_nodes n m]; exact q⟩
theorem Nds.ofInts (ns : List Int) : Nds (ns.map V.int) := fun x hx => by
  obtain ⟨i, _, e⟩ := List.mem_map.mp hx
  exact .inl ⟨i, e.symm⟩
theorem inV_ints (z : Int) : ∀ ms : List Int, inV (.int z) (ms.map V.int) = decide (z ∈ ms)
  | [] => by simp [inV]
  | m :: ms => by
    have ih := inV_ints z ms
    unfold inV at ih ⊢
    rw [List.map_cons, List.any_cons, ih]
    have e : eqV (.int m) (.int z) = (m == z) := rfl
    rw [e]
    by_cases h : m = z
    · subst h
      simp
    · have h2 : z ≠ m := fun e => h e.symm
      simp [h, h2]
theorem flat_ints : ∀ ms : List Int, (ms.map V.int).all flatV = true
  | [] => rfl
  | m :: ms => by
    rw [List.map_cons, List.all_cons, flat_ints ms]
    rfl
theorem w_nin {p : Addr} {ms : List Int} {z : Int} (h : SqL K H p (ms.map V.int)) (q : Q (.bl (!decide (z ∈ ms))) H) : rIn K true (.int z) (.ref p) H Q :=
  ⟨p, _, rfl, .inl h, rfl, flat_ints ms, by rw [inV_ints]; exact q⟩
theorem w_sorted {p : Addr} {ms : List Int} (h : SqL K H p (ms.map V.int)) (q : ∀ (ns : List Int) (l : Addr), ns.Perm ms → ns.Pairwise (· ≤ ·) → H l = none → Q (.ref l) (upd H l (.lst (ns.map V.int)))) : rSortedI K [.ref p] H Q := ⟨p, ms, rfl, h, q⟩
end
structure Stm where
  home : Addr
  cells : List Int
  cur : Int
  pos : Nat
  mix : Int
def Stm.take (m : Stm) : Stm := if m.cur = 0 ∧ m.pos < m.cells.length then { m with cur := (if m.cells.getD m.pos 0 < 0 then -(m.cells.getD m.pos 0) else m.cells.getD m.pos 0), pos := m.pos + 1 } else m
def Stm.turn (m : Stm) : Stm := { m with mix := (m.mix * 48271 + 11).fmod 2147483647 }
def Stm.next (m : Stm) (n : Int) : Stm := if m.take.cur = 0 then m.take.turn else { m.take with cur := m.take.cur.fdiv n }
def Stm.val (m : Stm) (n : Int) : Int := if m.take.cur = 0 then (m.take.turn.mix.fdiv 97).fmod n else m.take.cur.fmod n
theorem fmod_lt {a n : Int} (h : 0 < n) : 0 ≤ a.fmod n ∧ a.fmod n < n := ⟨Int.fmod_nonneg_of_pos a h, Int.fmod_lt_of_pos a h⟩
theorem Stm.val_lt (m : Stm) {n : Int} (h : 0 < n) : 0 ≤ m.val n ∧ m.val n < n := by
  unfold Stm.val
  split
  · exact fmod_lt h
  · exact fmod_lt h
def mixOf (ns : List Int) : Int := ns.foldl (fun m c => (m * 48271 + c.fmod 65521 + 1).fmod 2147483647) 17
theorem mixOf_take {ns : List Int} {i : Nat} {z : Int} (h : ns[i]? = some z) : mixOf (ns.take (i + 1)) = (mixOf (ns.take i) * 48271 + z.fmod 65521 + 1).fmod 2147483647 := by
  rw [List.take_add_one, h]
  unfold mixOf
  rw [List.foldl_append]
  rfl
theorem get_int {ns : List Int} {i : Nat} {x : V} (h : (ns.map V.int)[i]? = some x) : ∃ z, ns[i]? = some z ∧ x = .int z := by
  rw [List.getElem?_map] at h
  cases e : ns[i]? with
  | none => rw [e] at h; cases h
  | some z => rw [e] at h; exact ⟨z, rfl, (Option.some.inj h).symm⟩
theorem at_map {ns : List Int} {j : Nat} (h : j < ns.length) : atI (ns.map V.int) (j : Int) = some (.int (ns.getD j 0)) := by
  refine atI_nat ?_
  rw [List.getElem?_map, List.getElem?_eq_getElem h, List.getD_eq_getElem?_getD, List.getElem?_eq_getElem h]
  rfl
theorem Stm.take_cells (m : Stm) : m.take.cells = m.cells := by
  unfold Stm.take
  split <;> rfl
theorem Stm.take_home (m : Stm) : m.take.home = m.home := by
  unfold Stm.take
  split <;> rfl
/-- the stream goes on: the same list of numbers at the same place -/
def Fol (m m' : Stm) : Prop := m'.home = m.home ∧ m'.cells = m.cells
theorem Fol.refl (m : Stm) : Fol m m := ⟨rfl, rfl⟩
theorem Fol.trans {m m1 m2 : Stm} (h : Fol m m1) (k : Fol m1 m2) : Fol m m2 := ⟨k.1.trans h.1, k.2.trans h.2⟩
theorem Fol.next (m : Stm) (n : Int) : Fol m (m.next n) := by
  unfold Stm.next
  split
  · exact ⟨m.take_home, m.take_cells⟩
  · exact ⟨m.take_home, m.take_cells⟩
theorem Fol.step {m m1 : Stm} (h : Fol m m1) (n : Int) : Fol m (m1.next n) := h.trans (Fol.next m1 n)
def StAt (H : Hp) (s : Addr) (m : Stm) : Prop := m.home ≠ s ∧ H s = some (.lst [.ref m.home, .int m.cur, .int m.pos, .int m.mix]) ∧ H m.home = some (.lst (m.cells.map V.int))
theorem StAt.ex {H H' : Hp} {s : Addr} {m : Stm} (h : StAt H s m) (e : Ex H H') : StAt H' s m := ⟨h.1, e _ _ h.2.1, e _ _ h.2.2⟩
theorem StAt.is {H : Hp} {s : Addr} {m : Stm} (h : StAt H s m) : ∃ ys, H s = some (.lst ys) := ⟨_, h.2.1⟩
theorem StAt.put {H : Hp} {s r : Addr} {m : Stm} {o : HO} (h : StAt H s m) (hs : r ≠ s) (hl : r ≠ m.home) : StAt (upd H r o) s m :=
  ⟨h.1, by rw [upd_ne hs.symm]; exact h.2.1, by rw [upd_ne hl.symm]; exact h.2.2⟩
theorem StAt.new {H : Hp} {s r : Addr} {m : Stm} {o : HO} (h : StAt H s m) (hr : H r = none) : StAt (upd H r o) s m := h.ex (Ex.new hr)
theorem StAt.ne {H : Hp} {s r : Addr} {m : Stm} (h : StAt H s m) (hr : H r = none) : r ≠ s ∧ r ≠ m.home := ⟨(ne_of_none h.2.1 hr).symm, (ne_of_none h.2.2 hr).symm⟩
theorem Kp.st {H H' : Hp} {s : Addr} {m m' : Stm} (e : Fr s H H') (h : StAt H s m) (h' : StAt H' s m') : Kp H H' := by
  obtain ⟨ys, h⟩ := h.is
  obtain ⟨zs, h'⟩ := h'.is
  exact Kp.fr e h h'
end Ly
set_option Elab.async false
set_option linter.all false
set_option maxRecDepth 100000
set_option maxHeartbeats 4000000
namespace Ly
open PySem PySem.Spec PyProof.Rows L2 Evl
/-- what one source of a zip gives: C tells its items by the abstract heap -/
structure ZSrc (P : Program) (w : World) (K : PySem.W.Frag) (C : Hp → List V → Prop) (it : Addr) (fp : List Addr) (st : Nat → Heap → Prop) : Prop where
  obj : ∀ i h, st i h → ∃ o, h.get? it = some o ∧ ∀ v, o.data ≠ .cell v
  keep : ∀ i h h', st i h → (∀ o, h.get? it = some o → h'.get? it = some o) → st i h'
  inj : ∀ (X : Cx), X.prog = P → X.w = w → X.K = K → ∀ (pins : List (Addr × Obj)) (σ : L2.St) (H : Hp) (s : Shared) (xs ys : List V), Inv X pins σ H s → C H xs → C H ys → xs = ys
  draws : ∀ (X : Cx), X.prog = P → X.w = w → X.K = K → X.A.handled = none → ∀ (pins : List (Addr × Obj)) (σ : L2.St) (H : Hp) (s : Shared) (xs : List V), Inv X pins σ H s → C H xs →
    ∃ (Pr : Nat → Value → Prop) (CT : Heap → Prop), Draws P w X.A.in1 it fp xs.length Pr (fun i h => st i h ∧ CT h) ∧ CT s.heap ∧ ∀ i u, Pr i u → ∃ v, xs[i]? = some v ∧ RelV v u
def ItzC (C1 C2 : Hp → List V → Prop) : It :=
  ⟨fun i H => ∃ (xs ys : List V) (x y : V), C1 H xs ∧ C2 H ys ∧ xs[i]? = some x ∧ ys[i]? = some y,
    fun i H v H' => ∃ (T : Addr) (x y : V), v = .ref T ∧ H T = none ∧ H' = upd H T (.tup [x, y]) ∧ (∀ xs, C1 H xs → xs[i]? = some x) ∧ ∀ ys, C2 H ys → ys[i]? = some y,
    fun i H => ∃ xs ys : List V, C1 H xs ∧ C2 H ys ∧ i ≤ xs.length ∧ i ≤ ys.length ∧ (i = xs.length ∨ i = ys.length)⟩
theorem five {α : Type} {c a1 a2 a3 a4 a5 : α} (h : c ∈ [a1, a2, a3, a4, a5]) : c = a1 ∨ c = a2 ∨ c = a3 ∨ c = a4 ∨ c = a5 := by simpa using h
theorem turn_zipC {P : Program} {w : World} {K : PySem.W.Frag} {elts : List Expr} {kk : Nat} {tpos : Pos} {C1 C2 : Hp → List V → Prop} {z TI TO i1 i2 : Addr} {fp1 fp2 : List Addr} {st1 st2 : Nat → Heap → Prop}
    (S : ZipSep2 z TI TO i1 i2 fp1 fp2) (Z1 : ZSrc P w K C1 i1 fp1 st1) (Z2 : ZSrc P w K C2 i2 fp2 st2) :
    Turn P w K (.Tuple elts kk tpos) (ItzC C1 C2) [z, TI, TO, i1, i2] z (fun i h => IsZip h z TI TO .none ∧ IsTupOf2 h TI (.ref i1) (.ref i2) ∧ (∃ x y, IsTupOf2 h TO x y) ∧ st1 i h ∧ st2 i h) where
  mem := List.mem_cons_self
  obj := fun i h ⟨hz, hI, ⟨_, _, hO⟩, q1, q2⟩ c hc => by
    rcases five hc with rfl | rfl | rfl | rfl | rfl
    · exact ⟨_, hz, fun _ q => nomatch q⟩
    · exact ⟨_, hI, fun _ q => nomatch q⟩
    · exact ⟨_, hO, fun _ q => nomatch q⟩
    · exact Z1.obj i h q1
    · exact Z2.obj i h q2
  keep := fun i h h' ⟨hz, hI, ⟨x, y, hO⟩, q1, q2⟩ k =>
    ⟨k z (by simp) _ hz, k TI (by simp) _ hI, ⟨x, y, k TO (by simp) _ hO⟩, Z1.keep i h h' q1 (fun o e => k i1 (by simp) o e), Z2.keep i h h' q2 (fun o e => k i2 (by simp) o e)⟩
  item := fun X hP hw hK hc i pins s σ H E I hf st hg => by
    obtain ⟨hz, hI, ⟨x0, y0, hO⟩, q1, q2⟩ := st
    obtain ⟨xs, ys, x, y, c1, c2, hx, hy⟩ := hg
    obtain ⟨Pr1, CT1, D1, t1, r1⟩ := Z1.draws X hP hw hK (I.ok.hd hc) pins σ H s xs I c1
    obtain ⟨Pr2, CT2, D2, t2, r2⟩ := Z2.draws X hP hw hK (I.ok.hd hc) pins σ H s ys I c2
    have l1 : i < xs.length := (List.getElem?_eq_some_iff.mp hx).1
    have l2 : i < ys.length := (List.getElem?_eq_some_iff.mp hy).1
    have zl : z < s.heap.objs.size := Heap.lt_size hz
    refine wpAny_pyNext_zipD2_item S D1 D2 hz hI hO ⟨q1, t1⟩ ⟨q2, t2⟩ l1 l2 fun u1 u2 h' tk p1 p2 z' O' n1 n2 hT hsz hk => ?_
    obtain ⟨v1, e1, rv1⟩ := r1 i u1 p1
    obtain ⟨v2, e2, rv2⟩ := r2 i u2 p2
    have ev1 : v1 = x := Option.some.inj (e1.symm.trans hx)
    have ev2 : v2 = y := Option.some.inj (e2.symm.trans hy)
    subst ev1 ev2
    refine ⟨_, rfl, wpAny_letOwnedTupleGo_zip (s := { s with heap := h', toks := tk }) z' fun h2 z2 sb => ?_⟩
    have stay : ∀ c o, c ≠ z → c ≠ TO → c ≠ i1 → c ≠ i2 → s.heap.get? c = some o → h2.get? c = some o := fun c o k1 k2 k3 k4 e => (sb.2 c k1).trans (hk c o k1 k2 k3 k4 e)
    have made : ObjOk X.prog X.w (upd H s.heap.objs.size (.tup [v1, v2])) h2 s.heap.objs.size (.tup [v1, v2]) :=
      ⟨sz_of (Nat.le_of_ble_eq_true rfl), [u1, u2], .cons rv1 (.cons rv2 .nil), ⟨_, (sb.2 _ (Nat.ne_of_gt zl)).trans hT, rfl, _, rfl⟩⟩
    have J := I.turnedNew (t' := tk) (ch := [z, TI, TO, i1, i2]) (h' := h2) (fun c o hb e => stay c o (fun q => hb (by simp [q])) (fun q => hb (by simp [q])) (fun q => hb (by simp [q])) (fun q => hb (by simp [q])) e) hf (Nat.le_refl _) made
    refine ⟨.ref s.heap.objs.size, _, J, rfl, ⟨_, v1, v2, rfl, I.hok.fresh (Nat.le_refl _), rfl, fun l hl => ?_, fun l hl => ?_⟩, ⟨z2, ?_, ⟨u1, u2, ?_⟩, ?_, ?_⟩, fun c hcm => ?_⟩
    · rw [Z1.inj X hP hw hK pins σ H s l xs I hl c1]
      exact hx
    · rw [Z2.inj X hP hw hK pins σ H s l ys I hl c2]
      exact hy
    · exact stay _ _ S.TIz S.TITO S.TIi1 S.TIi2 hI
    · exact (sb.2 _ S.TOz).trans O'
    · exact Z1.keep _ _ _ n1.1 fun o e => (sb.2 _ (Ne.symm S.zi1)).trans e
    · exact Z2.keep _ _ _ n2.1 fun o e => (sb.2 _ (Ne.symm S.zi2)).trans e
    · have lt : c < s.heap.objs.size := by
        rcases five hcm with q | q | q | q | q
        · rw [q]; exact zl
        · rw [q]; exact Heap.lt_size hI
        · rw [q]; exact Heap.lt_size hO
        · rw [q]; obtain ⟨_, e, _⟩ := Z1.obj _ _ q1; exact Heap.lt_size e
        · rw [q]; obtain ⟨_, e, _⟩ := Z2.obj _ _ q2; exact Heap.lt_size e
      rw [upd_ne (Nat.ne_of_lt lt)]
      exact (hf c hcm).1
  done := fun X hP hw hK hc i pins s σ H E I hf st hg => by
    obtain ⟨hz, hI, ⟨x0, y0, hO⟩, q1, q2⟩ := st
    obtain ⟨xs, ys, c1, c2, l1, l2, hend⟩ := hg
    obtain ⟨Pr1, CT1, D1, t1, r1⟩ := Z1.draws X hP hw hK (I.ok.hd hc) pins σ H s xs I c1
    obtain ⟨Pr2, CT2, D2, t2, r2⟩ := Z2.draws X hP hw hK (I.ok.hd hc) pins σ H s ys I c2
    exact wpAny_pyNext_zipD2_end S D1 D2 hz hI hO ⟨q1, t1⟩ ⟨q2, t2⟩ l1 l2 hend fun h' tk hk => ⟨rfl, I.turnedL (t' := tk) (ch := [z, TI, TO, i1, i2]) (fun c o hb e =>
      hk c o (fun q => hb (by simp [q])) (fun q => hb (by simp [q])) (fun q => hb (by simp [q])) (fun q => hb (by simp [q])) e) hf⟩
  self := fun A i s Q E ⟨hz, _⟩ h => wpAny_pyIter_zip hz h
/-- the sources -/
theorem src_tup {P : Program} {w : World} {K : PySem.W.Frag} {a it : Addr} (hne : a ≠ it) : ZSrc P w K (fun H xs => SqT K H a xs) it [it, a] (fun i h => h.IsTupleIter it a i) where
  obj := fun i h st => by
    obtain ⟨o, e, _, d⟩ := st
    exact ⟨o, e, fun v z => by rw [d] at z; cases z⟩
  keep := fun i h h' st k => st.at fun o e => k o e
  inj := fun X hP hw hK pins σ H s xs ys I h1 h2 => by
    subst hP hw hK
    exact I.tuple_inj h1 h2
  draws := fun X hP hw hK hh pins σ H s xs I h => by
    subst hP hw hK
    obtain ⟨its, rv, p, _⟩ := I.tuple h
    have el : xs.length = its.toArray.size := by rw [List.size_toArray]; exact rv.length
    rw [el]
    refine ⟨fun i v => its.toArray[i]? = some v, fun h => h.IsTuple a its.toArray, Draws.tuple (A := X.A.in1) (show X.A.in1.handled = none from hh) it a hne its.toArray, p, fun i u hu => ?_⟩
    have hu2 : its[i]? = some u := by simpa using hu
    obtain ⟨hl, hg⟩ := List.getElem?_eq_some_iff.mp hu2
    have hl2 : i < xs.length := by rw [rv.length]; exact hl
    obtain ⟨u2, g2, rr⟩ := rv.get (List.getElem?_eq_getElem hl2)
    rw [hu2] at g2
    cases g2
    exact ⟨_, List.getElem?_eq_getElem hl2, rr⟩
theorem src_lst {P : Program} {w : World} {K : PySem.W.Frag} {a it : Addr} (hne : a ≠ it) : ZSrc P w K (fun H xs => SqL K H a xs) it [it, a] (fun i h => h.IsListIter it a i) where
  obj := fun i h st => by
    obtain ⟨o, e, _, d⟩ := st
    exact ⟨o, e, fun v z => by rw [d] at z; cases z⟩
  keep := fun i h h' st k => st.at fun o e => k o e
  inj := fun X hP hw hK pins σ H s xs ys I h1 h2 => by
    subst hP hw hK
    exact I.list_inj h1 h2
  draws := fun X hP hw hK hh pins σ H s xs I h => by
    subst hP hw hK
    obtain ⟨its, rv, p, _⟩ := I.list h
    have el : xs.length = its.toArray.size := by rw [List.size_toArray]; exact rv.length
    rw [el]
    refine ⟨fun i v => its.toArray[i]? = some v, fun h => h.IsList a its.toArray, Draws.list (A := X.A.in1) (show X.A.in1.handled = none from hh) it a hne its.toArray, p.isList, fun i u hu => ?_⟩
    have hu2 : its[i]? = some u := by simpa using hu
    obtain ⟨hl, hg⟩ := List.getElem?_eq_some_iff.mp hu2
    have hl2 : i < xs.length := by rw [rv.length]; exact hl
    obtain ⟨u2, g2, rr⟩ := rv.get (List.getElem?_eq_getElem hl2)
    rw [hu2] at g2
    cases g2
    exact ⟨_, List.getElem?_eq_getElem hl2, rr⟩
def signs (z : Str) : List V := z.cps.toList.map fun c => V.str ⟨#[c]⟩
theorem src_str {P : Program} {w : World} {K : PySem.W.Frag} {z : Str} {t : Tok} {it : Addr} : ZSrc P w K (fun _ xs => xs = signs z) it [it] (fun i h => h.IsStrIter it (strIterType z) z t i) where
  obj := fun i h st => by
    obtain ⟨o, e, _, d⟩ := st
    exact ⟨o, e, fun v z => by rw [d] at z; cases z⟩
  keep := fun i h h' st k => by
    obtain ⟨o, e, d⟩ := st
    exact ⟨o, k o e, d⟩
  inj := fun X hP hw hK pins σ H s xs ys I h1 h2 => h1.trans h2.symm
  draws := fun X hP hw hK hh pins σ H s xs I h => by
    subst h hP hw hK
    have D := Draws.text (prog := X.prog) (w := X.w) (A := X.A.in1) (show X.A.in1.handled = none from hh) it z t
    have el : (signs z).length = z.cps.size := by simp [signs]
    rw [el]
    refine ⟨fun i v => ∃ c u, z.cps[i]? = some c ∧ v = .str ⟨#[c]⟩ u, fun _ => True, ⟨fun i h st => D.live i h st.1, fun i h h' st k => ⟨D.frame i h h' st.1 k, trivial⟩, fun i s Q E hi st hQ => D.item i s Q E hi st.1 fun x h' tk p q r => hQ x h' tk p ⟨q, trivial⟩ r, fun s Q E st hE => D.done s Q E st.1 hE⟩, trivial, fun i u hu => ?_⟩
    obtain ⟨c, tk, hc, rfl⟩ := hu
    refine ⟨.str ⟨#[c]⟩, ?_, tk, rfl⟩
    unfold signs
    rw [List.getElem?_map, Array.getElem?_toList, hc]
    rfl
def iZipTL (K : PySem.W.Frag) (ta : TA) : TI := fun σ H R => ta σ H fun vs H1 => ∃ a b xs ys, vs = [.ref a, .ref b] ∧ SqT K H1 a xs ∧ SqL K H1 b ys ∧ R (ItzC (fun H xs => SqT K H a xs) (fun H ys => SqL K H b ys)) H1
def iZipSS (ta : TA) : TI := fun σ H R => ta σ H fun vs H1 => ∃ z u, vs = [.str z, .str u] ∧ R (ItzC (fun _ xs => xs = signs z) (fun _ ys => ys = signs u)) H1
theorem fresh_cells {X : Cx} {pins : List (Addr × Obj)} {σ : L2.St} {H : Hp} {s : Shared} (I : Inv X pins σ H s) : ∀ c ∈ [s.heap.objs.size + 4, s.heap.objs.size + 2, s.heap.objs.size + 3, s.heap.objs.size, s.heap.objs.size + 1], FpOk X pins H c := fun c hc => by
  have le : s.heap.objs.size ≤ c := by
    rcases five hc with q | q | q | q | q <;> omega
  exact I.fpOk le (I.hok.fresh le)
theorem pi_zipM {X : Cx} {e e2 : Expr} {ta : TA} {p pos tpos : Pos} {elts : List Expr} {kk : Nat} (hg : Gl X "zip") (hm : X.mg "zip" = none) (ha : PA X [e, e2] ta)
    (hs : starEach [e, e2] X.env = (false, eval e X.env) :: starEach [e2] X.env := by rfl) (hpl : (backTo pos (starEach [e2] X.env)).any (·.1) = false := by rfl) :
    PI X (.Tuple elts kk tpos) (.Call (.Name "zip" p) [e, e2] [] pos) (iZipTL X.K ta) := ⟨fun pins s σ H R I h =>
  Call_ (ld_blt I hg hm PyProof.Rows.boot_zip (PyProof.Rows.callWith_type1 (thn (ha.run pos pins s σ H _ I h) fun us s1 ⟨vs, H1, J, rv, q⟩ => by
    obtain ⟨a, b, xs, ys, ev, hx, hy, q⟩ := q
    subst ev
    obtain ⟨u1, us1, e1, r1, rv1⟩ : ∃ u1 us1, us = u1 :: us1 ∧ RelV (.ref a) u1 ∧ Vals [.ref b] us1 := by
      cases rv with
      | cons r rr => exact ⟨_, _, rfl, r, rr⟩
    obtain ⟨u2, e2', r2⟩ := vals1 rv1
    subst e1 e2'
    cases r1
    cases r2
    obtain ⟨its, _, p1, _⟩ := J.tuple hx
    obtain ⟨its2, _, p2, _⟩ := J.list hy
    refine zip_begins2 (begins_tuple a its.toArray) (begins_list b its2.toArray) p1 p2.isList fun h' hz hI hO g1 g2 hsz hk => wpAny_pyIter_zip hz ?_
    have la : a < s1.heap.objs.size := by
      obtain ⟨_, z, _⟩ := id p1
      exact Heap.lt_size z
    have lb := p2.lt
    refine ⟨s1.heap.objs.size + 4, _, _, _, H1, rfl, J.kept (t' := s1.toks) hk, turn_zipC (zip_sep2 (N := s1.heap.objs.size) (fp1 := [a]) (fp2 := [b]) ?_ ?_) (src_tup (Nat.ne_of_lt la)) (src_lst (Nat.ne_of_lt (Nat.lt_succ_of_lt lb))), ⟨hz, hI, ⟨_, _, hO⟩, ⟨_, g1, rfl, rfl⟩, ⟨_, g2, rfl, rfl⟩⟩, fresh_cells J, q⟩
    · intro c hc
      rw [List.mem_singleton.mp hc]
      exact la
    · intro c hc
      rw [List.mem_singleton.mp hc]
      exact lb) hs hpl))⟩
theorem pi_zipS {X : Cx} {e e2 : Expr} {ta : TA} {p pos tpos : Pos} {elts : List Expr} {kk : Nat} (hg : Gl X "zip") (hm : X.mg "zip" = none) (ha : PA X [e, e2] ta)
    (hs : starEach [e, e2] X.env = (false, eval e X.env) :: starEach [e2] X.env := by rfl) (hpl : (backTo pos (starEach [e2] X.env)).any (·.1) = false := by rfl) :
    PI X (.Tuple elts kk tpos) (.Call (.Name "zip" p) [e, e2] [] pos) (iZipSS ta) := ⟨fun pins s σ H R I h =>
  Call_ (ld_blt I hg hm PyProof.Rows.boot_zip (PyProof.Rows.callWith_type1 (thn (ha.run pos pins s σ H _ I h) fun us s1 ⟨vs, H1, J, rv, q⟩ => by
    obtain ⟨z, y, ev, q⟩ := q
    subst ev
    obtain ⟨u1, us1, e1, r1, rv1⟩ : ∃ u1 us1, us = u1 :: us1 ∧ RelV (.str z) u1 ∧ Vals [.str y] us1 := by
      cases rv with
      | cons r rr => exact ⟨_, _, rfl, r, rr⟩
    obtain ⟨u2, e2', r2⟩ := vals1 rv1
    subst e1 e2'
    obtain ⟨t1, r1⟩ := r1
    obtain ⟨t2, r2⟩ := r2
    subst r1 r2
    refine zip_begins2 (begins_text z t1) (begins_text y t2) trivial trivial fun h' hz hI hO g1 g2 hsz hk => wpAny_pyIter_zip hz ?_
    refine ⟨s1.heap.objs.size + 4, _, _, _, H1, rfl, J.kept (t' := s1.toks) hk, turn_zipC (zip_sep2 (N := s1.heap.objs.size) (fp1 := []) (fp2 := []) (by simp) (by simp)) (src_str (z := z) (t := t1)) (src_str (z := y) (t := t2)), ⟨hz, hI, ⟨_, _, hO⟩, ⟨_, g1, rfl, rfl⟩, ⟨_, g2, rfl, rfl⟩⟩, fresh_cells J, q⟩) hs hpl))⟩
/-- a for over such a zip: n turns -/
theorem for_zipC {C1 C2 : Hp → List V → Prop} {xs ys : List V} {n : Nat} (hn : n = min xs.length ys.length) {g : TG} {tb : TS} {D : Ends} {σ : L2.St} {H : Hp} (Pv : Nat → L2.St → Hp → Prop) (h0 : Pv 0 σ H) (hC : ∀ i σ H, Pv i σ H → C1 H xs ∧ C2 H ys)
    (hs : ∀ (i : Nat) (x y : V) (T : Addr) (σ : L2.St) (H : Hp), xs[i]? = some x → ys[i]? = some y → Pv i σ H → H T = none → g (.ref T) σ (upd H T (.tup [x, y])) fun σ2 H2 => tb { D with nx := Pv (i + 1), ct := Pv (i + 1), bk := D.nx } σ2 H2)
    (hd : ∀ σ H, Pv n σ H → D.nx σ H) : ForB (ItzC C1 C2) g tb D σ H := by
  refine ⟨fun i m σ H => m = n - i ∧ i ≤ n ∧ Pv i σ H, ⟨n, rfl, Nat.zero_le _, h0⟩, fun i m σ H hW => ?_⟩
  obtain ⟨hm, hi, pv⟩ := hW
  obtain ⟨k1, k2⟩ := hC i σ H pv
  by_cases lt : i < n
  · have l1 : i < xs.length := by omega
    have l2 : i < ys.length := by omega
    refine .inr ⟨⟨xs, ys, xs[i], ys[i], k1, k2, List.getElem?_eq_getElem l1, List.getElem?_eq_getElem l2⟩, Pv (i + 1), fun σ' H' p' => ⟨n - (i + 1), by omega, rfl, lt, p'⟩, fun v H' hy => ?_⟩
    obtain ⟨T, x, y, e1, e2, e3, g1, g2⟩ := hy
    subst e1 e3
    exact hs i x y T σ H (g1 xs k1) (g2 ys k2) pv e2
  · have e : i = n := by omega
    subst e
    exact .inl ⟨⟨xs, ys, k1, k2, by omega, by omega, by omega⟩, hd σ H pv⟩
section
variable {K : PySem.W.Frag} {σ : L2.St} {H : Hp} {tA : TA} {R : It → Hp → Prop}
theorem w_iZ (h : tA σ H fun vs H1 => ∃ a b xs ys, vs = [.ref a, .ref b] ∧ SqT K H1 a xs ∧ SqL K H1 b ys ∧ R (ItzC (fun H xs => SqT K H a xs) (fun H ys => SqL K H b ys)) H1) : iZipTL K tA σ H R := h
theorem w_iZ1 {a b : Addr} {xs ys : List V} {B : Addr → Addr → Prop} (h : SqT K H a xs) (h2 : SqL K H b ys) (q : B a b) : ∃ a' b' us vs, [V.ref a, V.ref b] = [.ref a', .ref b'] ∧ SqT K H a' us ∧ SqL K H b' vs ∧ B a' b' := ⟨a, b, xs, ys, rfl, h, h2, q⟩
theorem w_iS (h : tA σ H fun vs H1 => ∃ z u, vs = [.str z, .str u] ∧ R (ItzC (fun _ xs => xs = signs z) (fun _ ys => ys = signs u)) H1) : iZipSS tA σ H R := h
theorem w_iS1 {z u : Str} {B : Str → Str → Prop} (q : B z u) : ∃ a b, [V.str z, V.str u] = [.str a, .str b] ∧ B a b := ⟨z, u, rfl, q⟩
theorem w_gtup {t : TGs} {a : Addr} {xs : List V} {n : Nat} {Rs : L2.St → Hp → Prop} (h : SqT K H a xs) (hn : xs.length = n) (q : t xs σ H Rs) : gTup K n t (.ref a) σ H Rs := ⟨a, xs, rfl, h, hn, q⟩
theorem w_gcons {t : TG} {u : TGs} {v : V} {r : List V} {Rs : L2.St → Hp → Prop} (q : t v σ H fun σ' H' => u r σ' H' Rs) : gCons t u (v :: r) σ H Rs := ⟨v, r, rfl, q⟩
theorem w_gnil {Rs : L2.St → Hp → Prop} (q : Rs σ H) : gNil [] σ H Rs := ⟨rfl, q⟩
end
end Ly
set_option Elab.async false
set_option linter.all false
set_option maxRecDepth 100000
set_option maxHeartbeats 2000000
namespace Ly
open PySem PySem.Spec PyProof.Rows L2 Evl
theorem sNoRev : typeLookup (.type "str") "__reversed__" = pure none := by
  rw [typeLookup_type, builtinLookup_eq_fast]
  kernel_rfl
theorem sGet : typeLookup (.type "str") "__getitem__" = pure (some (.builtin "str.__getitem__")) := by
  rw [typeLookup_type, builtinLookup_eq_fast]
  kernel_rfl
/-- the walker at it: what it walks over, the place that comes next -/
def RevAt (h : Heap) (it : Addr) (z : Str) (t : Tok) (i : Int) : Prop := ∃ o, h.get? it = some o ∧ o.cls = .type "reversed" ∧ o.data = .fields #[.str z t, rawInt i]
theorem RevAt.kind {s : Shared} {it : Addr} {z : Str} {t : Tok} {i : Int} (r : RevAt s.heap it z t i) : s.TypeIs (.ref it) "reversed" := by
  obtain ⟨o, e, c, _⟩ := r
  exact ⟨o, e, c⟩
section
variable {prog : Program} {w : World} {A : Around} {E : Value → Shared → Prop} {s : Shared} {z : Str} {t : Tok}
theorem rev_make {Q : Value → Shared → Prop} (hz : z.length ≤ sizeLine)
    (q : Q (.ref s.heap.objs.size) { s with heap := s.heap.push { cls := .type "reversed", data := .fields #[.str z t, rawInt ((z.length : Int) - 1)] }, toks := s.toks + 1 + 1 }) : wpAny (model prog w) A (call (.type "reversed") [.str z t]) Q E s := by
  have hT := typeIs_str s z t
  have l63 := line63
  refine callType_codes (Q₁ := fun v s1 => s1.TypeIs v "reversed" ∧ Q v s1) RT.called_rt (F.typeCall_reversed_1 _) F.entry_object_init (codeAny_of_tree ?_) fun v s1 h1 => ⟨h1.1, F.args_object_init_2 v _, object_init_meets RT.called_rt.init.lookup RT.called_rt.made (by decide) prog w A.in1 _ s1 ⟨h1.1, rfl, h1.2⟩⟩
  show wpAny _ A.in1.in1 (do checkBuiltinCall "reversed.__new__" ⟨[.type "reversed", .str z t], []⟩; again (.builtin "reversed.__new__" ⟨[.type "reversed", .str z t], []⟩)) _ _ s
  (refine wpAny_bind (wpAny_of_eq (F.newCall_reversed_1 _) (wpAny_pure ⟨plainId_quiet F.plain_reversed_new _, codeAny_builtin F.entry_reversed_new ?_⟩)); try dsimp only)
  rw [Around.under_plainId F.plain_reversed_new _]
  delta Builtin.«reversed.__new__»
  (refine wpAny_bind (wpAny_of_eq (newClass_reversed _) ?_); try dsimp only)
  (refine wpAny_bind (wpAny_of_eq (a := ()) rfl ?_); try dsimp only)
  (refine wpAny_bind (wpAny_of_eq (a := ()) rfl ?_); try dsimp only)
  (refine wpAny_bind (wpAny_specialOf hT sNoRev ?_); try dsimp only)
  refine wpAny_bind ?_
  wp_delta
  (refine wpAny_bind (wpAny_isInstance (T := "str") (U := "dict") (b := false) hT F.sub_str_dict ?_); try dsimp only)
  try rw [if_neg Bool.false_ne_true]
  try dsimp only
  (refine wpAny_bind (wpAny_specialOf hT sGet ?_); try dsimp only)
  try rw [if_pos (by decide +kernel)]
  refine wpAny_pure ?_
  try dsimp only
  try rw [if_neg (by decide)]
  try dsimp only
  refine wpAny_bind (P.len_str (by omega) ?_)
  (refine wpAny_bind (wpAny_of_eq (a := some ((z.length : Nat) : Int)) rfl ?_); try dsimp only)
  refine wpAny_bind ?_
  show wpAny _ _ (newObj (.type "reversed") (.fields #[.str z t, rawInt ((z.length : Int) - 1)])) _ _ _
  exact wpAny_newObj_type (wpAny_pure ⟨⟨_, Heap.get?_push_size _ rfl, rfl⟩, q⟩)
theorem rev_self {it : Addr} {i : Int} {Q : Value → Shared → Prop} (r : RevAt s.heap it z t i) (q : Q (.ref it) s) : wpAny (model prog w) A (pyIter (.ref it)) Q E s :=
  wpAny_pyIter_slot r.kind RT.slot_rt_iter (wpAny_call_entry RT.slot_rt_iter r.kind RT.entry_rt_iter (show wpAny _ _ (ret (.ref it)) _ _ s from wpAny_pure ⟨_, rfl, "reversed", _, r.kind, RT.slot_rt_next.lookup, q⟩) (RT.args_rt_iter _))
theorem rev_item {it : Addr} {i c : Nat} {Q : Option Value → Shared → Prop} (r : RevAt s.heap it z t (i : Int)) (hc : z.cps[i]? = some c) (hz : z.length ≤ sizeLine)
    (q : ∀ h', RevAt h' it z t ((i : Int) - 1) → Heap.SameBut it s.heap h' → Q (some (.str ⟨#[c]⟩ (s.toks + 1))) { s with heap := h', toks := s.toks + 1 + 1 }) : wpAny (model prog w) A (pyNext (.ref it)) Q E s := by
  have r0 := r
  obtain ⟨o, e, hcl, d⟩ := r
  have l63 := line63
  have hi : i < z.cps.size := (Array.getElem?_eq_some_iff.mp hc).1
  have hT := typeIs_str s z t
  have hl : z.length = z.cps.size := rfl
  delta pyNext
  refine wpAny_bind (wpAny_attempt (wpAny_callSpecial?_slot r0.kind RT.slot_rt_next (wpAny_call_entry RT.slot_rt_next r0.kind RT.entry_rt_next ?_ (RT.args_rt_next _))))
  delta Builtin.«reversed.__next__»
  (refine wpAny_bind (wpAny_of_eq (a := (Value.ref it, [])) rfl ?_); try dsimp only)
  (refine wpAny_bind (wpAny_field e d (x := .str z t) rfl ?_); try dsimp only)
  (refine wpAny_bind (wpAny_field e d (x := rawInt (i : Int)) rfl ?_); try dsimp only)
  show wpAny _ _ (if (i : Int) < 0 then _ else _) _ _ s
  rw [if_neg (by omega)]
  try dsimp only
  (refine wpAny_bind (wpAny_specialOf hT sGet ?_); try dsimp only)
  try rw [if_neg (by decide)]
  try dsimp only
  refine wpAny_bind (wpAny_mkInt ?_)
  refine wpAny_bind (wpAny_attempt ?_)
  have at1 : seqIndex? (i : Int) z.length = some i := seqIndex_of (by omega) (by omega)
  refine P.getItem_str (c := c) (by rw [decide_eq_false (show ¬ (i : Int) < -(2 ^ 63) by omega), decide_eq_false (show ¬ (i : Int) ≥ 2 ^ 63 by omega)]; rfl) (by rw [at1]; exact hc) ?_
  try dsimp only
  (refine wpAny_bind (wpAny_field (s := { s with toks := s.toks + 1 + 1 }) e d (x := rawInt (i : Int)) rfl ?_); try dsimp only)
  (refine wpAny_bind (wpAny_setField (s := { s with toks := s.toks + 1 + 1 }) e d (by simp) ?_); try dsimp only)
  have fin : RevAt (s.heap.update it (Obj.mapFields (·.setIfInBounds 1 (rawInt ((i : Int) - 1))))) it z t ((i : Int) - 1) :=
    ⟨_, Heap.get?_update_self _ e (Obj.isFreed_of_fields (Obj.data_mapFields d _)), (Obj.cls_mapFields ..).trans hcl, by rw [Obj.data_mapFields d]; simp⟩
  first
  | exact wpAny_pure ⟨_, rfl, wpAny_pure (q _ fin (Heap.SameBut.update ..))⟩
  | exact wpAny_bind (wpAny_pure (wpAny_pure ⟨_, rfl, wpAny_pure (q _ fin (Heap.SameBut.update ..))⟩))
/-- the exception that ends an iteration, when none is handled: two new objects, no more -/
theorem stop_made {α : Type} {Q : α → Shared → Prop} (hh : A.handled = none) (q : ∀ (h' : Heap) (e : Addr), (∀ b ob, s.heap.get? b = some ob → h'.get? b = some ob) → Shared.TypeIs { s with heap := h' } (.ref e) "StopIteration" → E (.ref e) { s with heap := h' }) :
    wpAny (model prog w) A (Builtin.SmallTypes.stopIteration : Sem α) Q E s := by
  delta Builtin.SmallTypes.stopIteration
  refine wpAny_bind ?_
  simp only [newExc, newTuple, raiseNew]
  (refine wpAny_bind (wpAny_newObj_type ?_ (by size_fits)); try dsimp only)
  (refine wpAny_bind (wpAny_of_eq (a := Value.none) rfl ?_); try dsimp only)
  refine wpAny_newObj_type (wpAny_bind (wpAny_handled ?_)) (by size_fits)
  rw [hh]
  exact wpAny_bind (wpAny_pure (wpAny_throw (q _ _ (fun b ob k => Heap.get?_push_of_some _ (Heap.get?_push_of_some _ k)) ⟨_, Heap.get?_push_size _ rfl, rfl⟩)))
theorem rev_end {it : Addr} {Q : Option Value → Shared → Prop} (hh : A.handled = none) (r : RevAt s.heap it z t (-1)) (q : ∀ h', Heap.ExtBut it s.heap h' → Q none { s with heap := h' }) : wpAny (model prog w) A (pyNext (.ref it)) Q E s := by
  have r0 := r
  obtain ⟨o, e, hcl, d⟩ := r
  delta pyNext
  refine wpAny_bind (wpAny_attempt (wpAny_callSpecial?_slot r0.kind RT.slot_rt_next (wpAny_call_entry RT.slot_rt_next r0.kind RT.entry_rt_next ?_ (RT.args_rt_next _))))
  delta Builtin.«reversed.__next__»
  (refine wpAny_bind (wpAny_of_eq (a := (Value.ref it, [])) rfl ?_); try dsimp only)
  (refine wpAny_bind (wpAny_field e d (x := .str z t) rfl ?_); try dsimp only)
  (refine wpAny_bind (wpAny_field e d (x := rawInt (-1)) rfl ?_); try dsimp only)
  show wpAny _ _ (if (-1 : Int) < 0 then _ else _) _ _ s
  rw [if_pos (by decide)]
  try dsimp only
  (refine wpAny_bind (wpAny_rule ?_); try dsimp only)
  refine wpAny_bind ?_
  wp_delta
  refine wpAny_bind (wpAny_setField e d (by simp) ?_)
  have e2 := Heap.get?_update_self (Obj.mapFields (·.setIfInBounds 1 (rawInt (-1)))) e (Obj.isFreed_of_fields (Obj.data_mapFields d _))
  refine wpAny_setField (s := { s with heap := s.heap.update it (Obj.mapFields (·.setIfInBounds 1 (rawInt (-1)))) }) e2 (Obj.data_mapFields d _) (by simp) ?_
  try dsimp only
  refine wpAny_bind (stop_made (A := A.in1) hh fun h' x k te => ?_)
  refine wpAny_bind (wpAny_isInstance te isSubtype_stop (wpAny_pure (q h' fun b ob hb kb => k b ob ?_)))
  exact (Heap.get?_update_other _ _ hb.symm).trans ((Heap.get?_update_other _ _ hb.symm).trans kb)
end
/-- the turns: the signs from the last to the first -/
def ItvS (z : Str) : It := ⟨fun i _ => i < z.cps.size, fun i H v H' => H' = H ∧ ∃ c, z.cps[z.cps.size - 1 - i]? = some c ∧ v = .str ⟨#[c]⟩, fun i _ => z.cps.size ≤ i⟩
theorem turn_revS {P : Program} {w : World} {K : PySem.W.Frag} {tg : Expr} {z : Str} {t : Tok} {it : Addr} (hz : z.length ≤ sizeLine) : Turn P w K tg (ItvS z) [it] it (fun i h => i ≤ z.cps.size ∧ RevAt h it z t ((z.cps.size : Int) - 1 - (i : Nat))) where
  mem := List.mem_cons_self
  obj := fun i h ⟨_, o, e, _, d⟩ b hb => by
    rw [List.mem_singleton.mp hb]
    exact ⟨o, e, fun v q => by rw [d] at q; cases q⟩
  keep := fun i h h' ⟨l, o, e, r⟩ k => ⟨l, o, k it List.mem_cons_self _ e, r⟩
  item := fun X hP hw hK hc i pins s σ H E I hf ⟨_, st⟩ hg => by
    subst hP hw hK
    have lt : i < z.cps.size := hg
    obtain ⟨g0, g1, g2, g3, g4, g5⟩ := hf it List.mem_cons_self
    have ix : (z.cps.size : Int) - 1 - (i : Nat) = ((z.cps.size - 1 - i : Nat) : Int) := by omega
    rw [ix] at st
    obtain ⟨c, ec⟩ : ∃ c, z.cps[z.cps.size - 1 - i]? = some c := ⟨_, Array.getElem?_eq_getElem (by omega)⟩
    refine rev_item st ec hz fun h' st' sb => ?_
    have ix2 : ((z.cps.size - 1 - i : Nat) : Int) - 1 = (z.cps.size : Int) - 1 - ((i + 1 : Nat) : Int) := by omega
    rw [ix2] at st'
    have J : Inv X pins σ H { s with heap := h', toks := s.toks + 1 + 1 } := I.turned (fun b o hb k => (sb.2 b hb).trans k) g0 g1 g3 g4 g5
    have st2 := st'
    obtain ⟨o, eo, co, d⟩ := st2
    exact ⟨_, rfl, go_of (s := { s with heap := h', toks := s.toks + 1 + 1 }) eo co d (by decide) ⟨.str ⟨#[c]⟩, H, J, ⟨_, rfl⟩, ⟨rfl, c, ec, rfl⟩, ⟨lt, st'⟩, fun b hb => (hf b hb).1⟩⟩
  done := fun X hP hw hK hc i pins s σ H E I hf ⟨_, st⟩ hg => by
    subst hP hw hK
    have ge : z.cps.size ≤ i := hg
    obtain ⟨g0, g1, g2, g3, g4, g5⟩ := hf it List.mem_cons_self
    have ix : (z.cps.size : Int) - 1 - (i : Nat) = -1 := by omega
    rw [ix] at st
    exact rev_end (I.ok.hd hc) st fun h' k => ⟨rfl, I.turned (t' := s.toks) (fun b o hb e => k b o hb e) g0 g1 g3 g4 g5⟩
  self := fun A i s Q E st q => rev_self st.2 q
def iRevS (te : TE) : TI := fun σ H R => te σ H fun v H1 => ∃ z, v = .str z ∧ z.length ≤ sizeLine ∧ R (ItvS z) H1
theorem pi_revS {X : Cx} {tg e : Expr} {te : TE} {p pos : Pos} (hg : Gl X "reversed") (hm : X.mg "reversed" = none) (he : PE X e te) (hs : starEach [e] X.env = (false, eval e X.env) :: starEach [] X.env := by rfl) :
    PI X tg (.Call (.Name "reversed" p) [e] [] pos) (iRevS te) := ⟨fun pins s σ H R I h =>
  Call_ (ld_blt I hg hm PyProof.Rows.boot_reversed (PyProof.Rows.callWith_type1 (args_cons (thn (he.run pins s σ H _ I h) fun u s1 ⟨v, H1, J, rv, z, ev, hz, q⟩ => args_nil (by
    subst ev
    obtain ⟨t, rfl⟩ := rv
    refine rev_make hz (rev_self (z := z) (t := t) (i := (z.length : Int) - 1) ⟨_, Heap.get?_push_size _ rfl, rfl, rfl⟩ ?_)
    refine pi_one (tk := s1.toks + 1 + 1) J _ (turn_revS (t := t) hz) ⟨Nat.zero_le _, ?_⟩ q
    have ix : (z.cps.size : Int) - 1 - ((0 : Nat) : Int) = (z.length : Int) - 1 := by
      show _ = (z.cps.size : Int) - 1
      omega
    rw [ix]
    exact ⟨_, Heap.get?_push_size _ rfl, rfl, rfl⟩)) hs) hs rfl))⟩
theorem for_revS {z : Str} {g : TG} {tb : TS} {D : Ends} {σ : L2.St} {H : Hp} (Pv : Nat → L2.St → Hp → Prop) (h0 : Pv 0 σ H)
    (hs : ∀ i c σ H, z.cps[z.cps.size - 1 - i]? = some c → i < z.cps.size → Pv i σ H → g (.str ⟨#[c]⟩) σ H fun σ2 H2 => tb { D with nx := Pv (i + 1), ct := Pv (i + 1), bk := D.nx } σ2 H2) (hd : ∀ σ H, Pv z.cps.size σ H → D.nx σ H) : ForB (ItvS z) g tb D σ H := by
  refine ⟨fun i m σ H => m = z.cps.size - i ∧ i ≤ z.cps.size ∧ Pv i σ H, ⟨_, rfl, Nat.zero_le _, h0⟩, ?_⟩
  rintro i m σ H ⟨rfl, hi, p⟩
  by_cases hlt : i < z.cps.size
  · refine .inr ⟨hlt, Pv (i + 1), fun σ' H' p' => ⟨z.cps.size - (i + 1), by omega, rfl, hlt, p'⟩, fun x H' y => ?_⟩
    obtain ⟨e, c, hc, ex⟩ := y
    subst e ex
    exact hs i c σ _ hc hlt p
  · have e : i = z.cps.size := by omega
    subst e
    exact .inl ⟨Nat.le_refl _, hd σ H p⟩
end Ly
set_option Elab.async false
set_option linter.all false
set_option maxRecDepth 100000
set_option maxHeartbeats 2000000
namespace Ly
open PySem PySem.Spec PyProof.Rows L2 Evl
abbrev nums (ds : List Nat) : List V := ds.map fun (d : Nat) => V.int d
def lif (c d n : Nat) : Nat := if d ≤ n then n + c else n
theorem Tm.vmap_id {g : Nat → Nat → Nat} (hg : ∀ d n, g d n = n) : ∀ (t : Tm) (d : Nat), t.vmap g d = t
  | .var _, _ => by simp [Tm.vmap, hg]
  | .lam b, d => by simp [Tm.vmap, Tm.vmap_id hg b]
  | .app f a, d => by simp [Tm.vmap, Tm.vmap_id hg f, Tm.vmap_id hg a]
theorem Tm.vmap_len (g : Nat → Nat → Nat) (t : Tm) (d : Nat) : (t.vmap g d).enc.length = t.enc.length := by
  rw [← Tm.deps_len _ d, Tm.deps_vmap, Tm.deps_len]
theorem Tm.lif_zero (t : Tm) (d : Nat) : t.vmap (lif 0) d = t := Tm.vmap_id (fun d n => by simp [lif]) t d
theorem nums_at {ds : List Nat} {i : Nat} {y : V} (h : (nums ds)[i]? = some y) : ∃ d, ds[i]? = some d ∧ y = .int (d : Int) := by
  rw [List.getElem?_map] at h
  cases e : ds[i]? with
  | none => rw [e] at h; cases h
  | some d => rw [e] at h; exact ⟨d, rfl, (Option.some.inj h).symm⟩
def Tm.put (u : Tm) : Nat → Tm → Tm
  | d, .var n => if n < d then .var n else if n = d then u.vmap (lif d) 0 else .var (n - 1)
  | d, .lam b => .lam (Tm.put u (d + 1) b)
  | d, .app f a => .app (Tm.put u d f) (Tm.put u d a)
def pvs (u : Tm) (v : V) (d : Nat) : List V := match v with
  | .int n => (Tm.put u d (.var n.toNat)).enc
  | v => [v]
theorem Tm.enc_put (u : Tm) : ∀ (t : Tm) (d : Nat), (Tm.put u d t).enc = (List.zipWith (pvs u) t.enc (t.deps d)).flatten
  | .var n, d => by simp [Tm.deps, Tm.enc, pvs]
  | .lam b, d => by simp [Tm.put, Tm.deps, Tm.enc, Tm.enc_put u b, pvs]
  | .app f a, d => by
    have hl : f.enc.length = (f.deps d).length := (Tm.deps_len f d).symm
    simp only [Tm.put, Tm.deps, Tm.enc, List.zipWith_cons_cons, Tm.enc_put u f, Tm.enc_put u a, List.zipWith_append hl, List.flatten_cons, List.flatten_append]
    rfl
theorem pvs_low {u : Tm} {n d : Nat} (h : n < d) : pvs u (.int n) d = [.int n] := by
  simp only [pvs, Tm.put, Int.toNat_natCast]
  rw [if_pos h]
  rfl
theorem pvs_at {u : Tm} {d : Nat} : pvs u (.int (d : Int)) d = (u.vmap (lif d) 0).enc := by
  simp only [pvs, Tm.put, Int.toNat_natCast]
  rw [if_neg (Nat.lt_irrefl d)]
  rfl
theorem pvs_high {u : Tm} {n d : Nat} (h : d < n) : pvs u (.int n) d = [.int ((n : Int) - 1)] := by
  simp only [pvs, Tm.put, Int.toNat_natCast]
  rw [if_neg (by omega), if_neg (by omega)]
  have e : ((n - 1 : Nat) : Int) = (n : Int) - 1 := by omega
  show [V.int ((n - 1 : Nat) : Int)] = _
  rw [e]
theorem pvs_len (u : Tm) (v : V) (d : Nat) : (pvs u v d).length ≤ u.enc.length := by
  have pos := List.length_pos_iff.mpr u.enc_ne
  unfold pvs
  split
  · simp only [Tm.put]
    split
    · exact pos
    · split
      · rw [Tm.vmap_len]
        exact Nat.le_refl _
      · exact pos
  · exact pos
theorem flat_len {α : Type} {M : Nat} : ∀ {xs : List (List α)}, (∀ x ∈ xs, x.length ≤ M) → xs.flatten.length ≤ xs.length * M
  | [], _ => by simp
  | x :: xs, h => by
    have h1 := h x List.mem_cons_self
    have h2 := flat_len (xs := xs) fun y hy => h y (List.mem_cons_of_mem _ hy)
    simp only [List.flatten_cons, List.length_append, List.length_cons, Nat.succ_mul]
    omega
theorem zip_mem_len {u : Tm} : ∀ {xs : List V} {ds : List Nat}, ∀ x ∈ List.zipWith (pvs u) xs ds, x.length ≤ u.enc.length
  | [], _, x, h => by simp at h
  | _ :: _, [], x, h => by simp at h
  | a :: xs, d :: ds, x, h => by
    rw [List.zipWith_cons_cons] at h
    rcases List.mem_cons.mp h with e | h
    · rw [e]
      exact pvs_len u a d
    · exact zip_mem_len x h
theorem pre_len {u : Tm} {xs : List V} {ds : List Nat} (i : Nat) : ((List.zipWith (pvs u) xs ds).take i).flatten.length ≤ i * u.enc.length := by
  refine Nat.le_trans (flat_len fun x hx => zip_mem_len x (List.mem_of_mem_take hx)) (Nat.mul_le_mul_right _ ?_)
  rw [List.length_take]
  omega
theorem flat_take_le {α : Type} (xs : List (List α)) (i : Nat) : (xs.take i).flatten.length ≤ xs.flatten.length := by
  have e : xs.flatten = (xs.take i).flatten ++ (xs.drop i).flatten := by rw [← List.flatten_append, List.take_append_drop]
  rw [e, List.length_append]
  omega
theorem Tm.put_len (u t : Tm) (d : Nat) : (Tm.put u d t).enc.length ≤ t.enc.length * u.enc.length := by
  rw [Tm.enc_put]
  refine Nat.le_trans (flat_len zip_mem_len) (Nat.mul_le_mul_right _ ?_)
  rw [List.length_zipWith]
  omega
theorem Tm.vars_lif {N c : Nat} : ∀ {u : Tm} {d : Nat}, u.vars N → (u.vmap (lif c) d).vars (N + c)
  | .var n, d, h => by
    have h : n ≤ N := h
    show lif c d n ≤ N + c
    unfold lif
    split <;> omega
  | .lam b, d, h => Tm.vars_lif (u := b) h
  | .app f a, d, h => ⟨Tm.vars_lif (u := f) h.1, Tm.vars_lif (u := a) h.2⟩
theorem Tm.vars_put {u : Tm} {M N : Nat} (hu : u.vars N) : ∀ {t : Tm} {d : Nat}, t.vars M → (Tm.put u d t).vars (M + N + d + t.enc.length)
  | .var n, d, h => by
    have h : n ≤ M := h
    simp only [Tm.put]
    split
    · show n ≤ _
      omega
    · split
      · exact Tm.vars_mono (by omega) (Tm.vars_lif (c := d) hu)
      · show n - 1 ≤ _
        omega
  | .lam b, d, h => Tm.vars_mono (by simp only [Tm.enc, List.length_cons]; omega) (Tm.vars_put hu (t := b) (d := d + 1) h)
  | .app f a, d, h => ⟨Tm.vars_mono (by simp only [Tm.enc, List.length_cons, List.length_append]; omega) (Tm.vars_put hu (t := f) (d := d) h.1), Tm.vars_mono (by simp only [Tm.enc, List.length_cons, List.length_append]; omega) (Tm.vars_put hu (t := a) (d := d) h.2)⟩
theorem fits_of {t : Tm} (h : t.vars 1000000) (l : t.enc.length ≤ 1000) : fitsV t.enc = true := by
  unfold fitsV
  rw [ok_vars h, decide_eq_true l]
  rfl
def rAddZ : R2 := fun x y H Q => ∃ i j, x = .str i ∧ y = .str j ∧ i.length + j.length ≤ sizeLine ∧ Q (.str (i ++ j)) H
theorem op_addZ {X : Cx} : OpR X (binaryOp .Add) rAddZ := op_add_str
def rLenZ : List V → Hp → VK → Prop := fun xs H Q => ∃ z, xs = [.str z] ∧ z.length ≤ sizeLine ∧ Q (.int z.length) H
theorem call_lenZ {X : Cx} : CallR X (.builtin "len") rLenZ := call_len_str
def pl (p : List Nat) : Str := ⟨p.toArray⟩
theorem pl_len (p : List Nat) : (pl p).length = p.length := by simp [pl, Str.length]
theorem pl_app (p q : List Nat) : pl p ++ pl q = pl (p ++ q) := by
  show Str.mk (p.toArray ++ q.toArray) = ⟨(p ++ q).toArray⟩
  simp
theorem pl_b : ("b" : Str) = pl [98] := by decide +kernel
theorem pl_f : ("f" : Str) = pl [102] := by decide +kernel
theorem pl_a : ("a" : Str) = pl [97] := by decide +kernel
theorem pl_e : ("" : Str) = pl [] := by decide +kernel
theorem pl_inj {p q : List Nat} (h : pl p = pl q) : p = q := by
  have e := congrArg Str.cps h
  simpa [pl] using e
theorem signs_pl (p : List Nat) : signs (pl p) = p.map fun c => V.str (pl [c]) := by simp [signs, pl]
abbrev plcs (ps : List (List Nat)) : List V := ps.map fun p => V.str (pl p)
section
variable {H : Hp} {Q : VK}
theorem w_addZ {p q : List Nat} (z : p.length + q.length ≤ 16000000) (h : Q (.str (pl (p ++ q))) H) : rAddZ (.str (pl p)) (.str (pl q)) H Q :=
  ⟨pl p, pl q, rfl, rfl, by rw [pl_len, pl_len]; exact ly_sz z, by rw [pl_app]; exact h⟩
theorem w_addZb {p : List Nat} (z : p.length ≤ 15000000) (h : Q (.str (pl (p ++ [98]))) H) : rAddZ (.str (pl p)) (.str "b") H Q := by
  rw [pl_b]
  exact w_addZ (by simp; omega) h
theorem w_addZf {p : List Nat} (z : p.length ≤ 15000000) (h : Q (.str (pl (p ++ [102]))) H) : rAddZ (.str (pl p)) (.str "f") H Q := by
  rw [pl_f]
  exact w_addZ (by simp; omega) h
theorem w_addZa {p : List Nat} (z : p.length ≤ 15000000) (h : Q (.str (pl (p ++ [97]))) H) : rAddZ (.str (pl p)) (.str "a") H Q := by
  rw [pl_a]
  exact w_addZ (by simp; omega) h
theorem w_lenZ {p : List Nat} (z : p.length ≤ 16000000) (h : Q (.int p.length) H) : rLenZ [.str (pl p)] H Q :=
  ⟨pl p, rfl, by rw [pl_len]; exact ly_sz z, by rw [pl_len]; exact h⟩
end
/-- the letters' order: where they differ, the function comes first; else the shorter -/
def before : List Nat → List Nat → Bool
  | a :: x, b :: y => if a = b then before x y else decide (a = 102)
  | [], y => decide (0 < y.length)
  | _ :: _, [] => false
theorem before_self : ∀ x : List Nat, before x x = false
  | [] => rfl
  | a :: x => by simp [before, before_self x]
theorem before_app : ∀ (p x y : List Nat), before (p ++ x) (p ++ y) = before x y
  | [], _, _ => rfl
  | a :: p, x, y => by simp [before, before_app p x y]
def RB (x y : List Nat) : Prop := before x y = true ∧ before y x = false
theorem RB.app {p x y : List Nat} (h : RB x y) : RB (p ++ x) (p ++ y) := ⟨by rw [before_app]; exact h.1, by rw [before_app]; exact h.2⟩
theorem RB.longer {p s : List Nat} {c : Nat} : RB p (p ++ c :: s) := by
  have h : RB [] (c :: s) := ⟨by simp [before], rfl⟩
  have := RB.app (p := p) h
  rwa [List.append_nil] at this
theorem RB.fa {p s u : List Nat} : RB (p ++ 102 :: s) (p ++ 97 :: u) := RB.app ⟨rfl, rfl⟩
def Tm.pls : List Nat → Tm → List (List Nat)
  | p, .var _ => [p]
  | p, .lam b => p :: b.pls (p ++ [98])
  | p, .app f a => p :: (f.pls (p ++ [102]) ++ a.pls (p ++ [97]))
theorem Tm.pls_len : ∀ (t : Tm) (p : List Nat), (t.pls p).length = t.enc.length
  | .var _, _ => rfl
  | .lam b, p => by simp [Tm.pls, Tm.enc, Tm.pls_len b]
  | .app f a, p => by simp [Tm.pls, Tm.enc, Tm.pls_len f, Tm.pls_len a]
theorem Tm.pls_pre : ∀ (t : Tm) {p q : List Nat}, q ∈ t.pls p → ∃ s, q = p ++ s ∧ s.length < t.enc.length
  | .var _, p, q, h => ⟨[], by simpa [Tm.pls] using h, by simp [Tm.enc]⟩
  | .lam b, p, q, h => by
    rcases List.mem_cons.mp h with e | h
    · exact ⟨[], by simp [e], by simp [Tm.enc]⟩
    · obtain ⟨s, e, hl⟩ := Tm.pls_pre b h
      exact ⟨98 :: s, by rw [e]; simp, by simp [Tm.enc]; omega⟩
  | .app f a, p, q, h => by
    rcases List.mem_cons.mp h with e | h
    · exact ⟨[], by simp [e], by simp [Tm.enc]⟩
    · rcases List.mem_append.mp h with h | h
      · obtain ⟨s, e, hl⟩ := Tm.pls_pre f h
        exact ⟨102 :: s, by rw [e]; simp, by simp [Tm.enc]; omega⟩
      · obtain ⟨s, e, hl⟩ := Tm.pls_pre a h
        exact ⟨97 :: s, by rw [e]; simp, by simp [Tm.enc]; omega⟩
theorem Tm.pls_order : ∀ (t : Tm) (p : List Nat), (t.pls p).Pairwise RB
  | .var _, p => List.pairwise_singleton _ _
  | .lam b, p => List.pairwise_cons.mpr ⟨fun q h => by
      obtain ⟨s, e, _⟩ := Tm.pls_pre b h
      rw [e, List.append_assoc]
      exact RB.longer, Tm.pls_order b _⟩
  | .app f a, p => List.pairwise_cons.mpr ⟨fun q h => by
      rcases List.mem_append.mp h with h | h
      · obtain ⟨s, e, _⟩ := Tm.pls_pre f h
        rw [e, List.append_assoc]
        exact RB.longer
      · obtain ⟨s, e, _⟩ := Tm.pls_pre a h
        rw [e, List.append_assoc]
        exact RB.longer, List.pairwise_append.mpr ⟨Tm.pls_order f _, Tm.pls_order a _, fun x hx y hy => by
      obtain ⟨s, e, _⟩ := Tm.pls_pre f hx
      obtain ⟨u, e2, _⟩ := Tm.pls_pre a hy
      rw [e, e2, List.append_assoc, List.append_assoc]
      exact RB.fa⟩⟩
theorem before_at {qs : List (List Nat)} (h : qs.Pairwise RB) {i j : Nat} {x y : List Nat} (hx : qs[i]? = some x) (hy : qs[j]? = some y) : before x y = decide (i < j) := by
  obtain ⟨li, ei⟩ := List.getElem?_eq_some_iff.mp hx
  obtain ⟨lj, ej⟩ := List.getElem?_eq_some_iff.mp hy
  rcases Nat.lt_trichotomy i j with g | g | g
  · have := List.pairwise_iff_getElem.mp h i j li lj g
    rw [ei, ej] at this
    rw [this.1, decide_eq_true g]
  · subst g
    have e : x = y := by rw [← ei, ← ej]
    rw [e, before_self, decide_eq_false (by omega)]
  · have := List.pairwise_iff_getElem.mp h j i lj li g
    rw [ei, ej] at this
    rw [this.2, decide_eq_false (by omega)]
def plss : List Tm → List (List Nat) → List (List Nat)
  | t :: ts, d :: ds => t.pls d ++ plss ts ds
  | _, _ => []
/-- in the midst of a walk that finds the places: what is left are the terms ts, whose places wait (the last one first) -/
def PInv (t : Tm) (i : Nat) (found ds : List (List Nat)) : Prop := ∃ ts : List Tm, t.enc.drop i = encs ts ∧ ts.length = ds.length ∧ t.pls [] = found ++ plss ts ds.reverse
theorem PInv.start (t : Tm) : PInv t 0 [] [[]] := ⟨[t], by simp [encs], rfl, by simp [plss]⟩
theorem PInv.done {t : Tm} {found ds : List (List Nat)} (h : PInv t t.enc.length found ds) : found = t.pls [] := by
  obtain ⟨ts, h1, h2, h3⟩ := h
  rw [List.drop_length] at h1
  have e := encs_nil h1.symm
  subst e
  rw [h3]
  simp [plss]
theorem PInv.step {t : Tm} {i : Nat} {found ds : List (List Nat)} {v : V} (h : PInv t i found ds) (hv : t.enc[i]? = some v) : ∃ r d, ds = r ++ [d] ∧
    ((∃ n : Nat, v = .int n ∧ PInv t (i + 1) (found ++ [d]) r) ∨ (v = .str "lam" ∧ PInv t (i + 1) (found ++ [d]) (r ++ [d ++ [98]])) ∨ (v = .str "app" ∧ PInv t (i + 1) (found ++ [d]) (r ++ [d ++ [97]] ++ [d ++ [102]]))) := by
  obtain ⟨ts, h1, h2, h3⟩ := h
  rw [drop_at hv] at h1
  match ts, h1, h2, h3 with
  | [], h1, _, _ => cases h1
  | t1 :: r1, h1, h2, h3 =>
    have hne : ds ≠ [] := fun e => by
      rw [e] at h2
      cases h2
    refine ⟨ds.dropLast, ds.getLast hne, (List.dropLast_concat_getLast hne).symm, ?_⟩
    generalize hr : ds.dropLast = r at *
    generalize hd : ds.getLast hne = d at *
    have hds : ds = r ++ [d] := by rw [← hr, ← hd]; exact (List.dropLast_concat_getLast hne).symm
    subst hds
    rw [List.reverse_append] at h3
    have h3 : t.pls [] = found ++ (t1.pls d ++ plss r1 r.reverse) := h3
    have hl : r1.length = r.length := by simpa using h2
    rw [encs_cons] at h1
    cases t1 with
    | var n =>
      have h1 : v :: t.enc.drop (i + 1) = V.int n :: encs r1 := h1
      injection h1 with e1 e2
      exact .inl ⟨n, e1, r1, e2, hl, by rw [h3]; simp [Tm.pls]⟩
    | lam b =>
      have h1 : v :: t.enc.drop (i + 1) = V.str "lam" :: (b.enc ++ encs r1) := h1
      injection h1 with e1 e2
      exact .inr (.inl ⟨e1, b :: r1, by rw [e2, encs_cons], by simp [hl], by rw [h3, List.reverse_append]; simp [Tm.pls, plss]⟩)
    | app f a =>
      have h1 : v :: t.enc.drop (i + 1) = V.str "app" :: (f.enc ++ a.enc ++ encs r1) := h1
      injection h1 with e1 e2
      exact .inr (.inr ⟨e1, f :: a :: r1, by rw [e2, encs_cons, encs_cons, List.append_assoc], by simp [hl], by rw [h3, List.reverse_append, List.reverse_append]; simp [Tm.pls, plss]⟩)
theorem drop_get {xs r : List V} {i : Nat} {v : V} (h : xs.drop i = v :: r) : xs[i]? = some v ∧ xs.drop (i + 1) = r := by
  have e : (xs.drop i)[0]? = some v := by rw [h]; rfl
  rw [List.getElem?_drop, Nat.add_zero] at e
  refine ⟨e, ?_⟩
  have := drop_at e
  rw [h] at this
  injection this with _ e2
  exact e2.symm
def Tm.sub : Tm → List Nat → Option (Nat × Tm)
  | t, [] => some (0, t)
  | .lam b, c :: p => if c = 98 then (b.sub p).map (fun r => (r.1 + 1, r.2)) else none
  | .app f a, c :: p => if c = 102 then (f.sub p).map (fun r => (r.1 + 1, r.2)) else if c = 97 then (a.sub p).map (fun r => (r.1 + (1 + f.enc.length), r.2)) else none
  | .var _, _ :: _ => none
theorem Tm.sub_nil (t : Tm) : t.sub [] = some (0, t) := by cases t <;> rfl
/-- a part stands in the term where sub says, and its place in the list there -/
theorem Tm.sub_at : ∀ (t : Tm) (p q : List Nat) {i : Nat} {u : Tm}, t.sub p = some (i, u) → (∃ post, t.enc.drop i = u.enc ++ post) ∧ (t.pls q)[i]? = some (q ++ p)
  | t, [], q, i, u, h => by
    rw [Tm.sub_nil] at h
    cases h
    refine ⟨⟨[], by simp⟩, ?_⟩
    cases t <;> simp [Tm.pls]
  | .lam b, c :: p, q, i, u, h => by
    by_cases hc : c = 98
    · subst hc
      simp only [Tm.sub, if_pos] at h
      obtain ⟨⟨j, u'⟩, e1, e2⟩ := Option.map_eq_some_iff.mp h
      cases e2
      obtain ⟨⟨post, hp⟩, hl⟩ := Tm.sub_at b p (q ++ [98]) e1
      refine ⟨⟨post, by simpa [Tm.enc] using hp⟩, ?_⟩
      simp only [Tm.pls, List.getElem?_cons_succ, hl]
      simp
    · simp [Tm.sub, hc] at h
  | .app f a, c :: p, q, i, u, h => by
    by_cases hc : c = 102
    · subst hc
      simp only [Tm.sub, if_pos] at h
      obtain ⟨⟨j, u'⟩, e1, e2⟩ := Option.map_eq_some_iff.mp h
      cases e2
      obtain ⟨⟨post, hp⟩, hl⟩ := Tm.sub_at f p (q ++ [102]) e1
      have lt : j < (f.pls (q ++ [102])).length := (List.getElem?_eq_some_iff.mp hl).1
      have lt2 : j < f.enc.length := by rwa [Tm.pls_len] at lt
      refine ⟨⟨post ++ a.enc, ?_⟩, ?_⟩
      · simp only [Tm.enc, List.drop_succ_cons]
        rw [List.drop_append_of_le_length (Nat.le_of_lt lt2), hp, List.append_assoc]
      · simp only [Tm.pls, List.getElem?_cons_succ]
        rw [List.getElem?_append_left lt, hl]
        simp
    · by_cases hc2 : c = 97
      · subst hc2
        simp only [Tm.sub, if_pos] at h
        obtain ⟨⟨j, u'⟩, e1, e2⟩ := Option.map_eq_some_iff.mp h
        cases e2
        obtain ⟨⟨post, hp⟩, hl⟩ := Tm.sub_at a p (q ++ [97]) e1
        refine ⟨⟨post, ?_⟩, ?_⟩
        · have e : j + (1 + f.enc.length) = (f.enc.length + j) + 1 := by omega
          simp only [Tm.enc]
          rw [e, List.drop_succ_cons, List.drop_append, List.drop_of_length_le (by omega)]
          simpa using hp
        · have e : j + (1 + f.enc.length) = (f.enc.length + j) + 1 := by omega
          simp only [Tm.pls]
          rw [e, List.getElem?_cons_succ, List.getElem?_append_right (by rw [Tm.pls_len]; omega), Tm.pls_len]
          have e2 : f.enc.length + j - f.enc.length = j := by omega
          rw [e2, hl]
          simp
      · simp [Tm.sub, hc, hc2] at h
  | .var _, c :: p, q, i, u, h => by simp [Tm.sub] at h
/-- loops over a text -/
theorem for_str {z : Str} {g : TG} {tb : TS} {D : Ends} {σ : L2.St} {H : Hp} (Pv : Nat → L2.St → Hp → Prop) (h0 : Pv 0 σ H)
    (hs : ∀ i c σ H, z.cps[i]? = some c → Pv i σ H → g (.str ⟨#[c]⟩) σ H fun σ2 H2 => tb { D with nx := Pv (i + 1), ct := Pv (i + 1), bk := D.nx } σ2 H2) (hd : ∀ σ H, Pv z.cps.size σ H → D.nx σ H) : ForB (Its z) g tb D σ H := by
  refine ⟨fun i m σ H => m = z.cps.size - i ∧ i ≤ z.cps.size ∧ Pv i σ H, ⟨_, rfl, Nat.zero_le _, h0⟩, ?_⟩
  rintro i m σ H ⟨rfl, hi, p⟩
  by_cases hlt : i < z.cps.size
  · refine .inr ⟨hlt, Pv (i + 1), fun σ' H' p' => ⟨z.cps.size - (i + 1), by omega, rfl, hlt, p'⟩, fun x H' y => ?_⟩
    obtain ⟨e, c, hc, ex⟩ := y
    subst e ex
    exact hs i c σ _ hc p
  · have e : i = z.cps.size := by omega
    subst e
    exact .inl ⟨Nat.le_refl _, hd σ H p⟩
theorem w_it {te : TE} {σ : L2.St} {H : Hp} {R : It → Hp → Prop} (h : te σ H fun v H1 => ∃ x, v = .str x ∧ R (Its x) H1) : iStr te σ H R := h
theorem w_it1 {z : Str} {B : Str → Prop} (q : B z) : ∃ x, V.str z = .str x ∧ B x := ⟨z, rfl, q⟩
/-- in the midst of a walk to a part's end: the terms that are missing -/
def EInv (xs : List V) (fin e : Nat) (ts : List Tm) : Prop := ∃ post, xs.drop e = encs ts ++ post ∧ e + (encs ts).length = fin
theorem EInv.start {xs post : List V} {s : Nat} {u : Tm} (h : xs.drop s = u.enc ++ post) : EInv xs (s + u.enc.length) s [u] := ⟨post, by simpa [encs] using h, by simp [encs]⟩
theorem EInv.step {xs : List V} {fin e : Nat} {t : Tm} {ts : List Tm} (h : EInv xs fin e (t :: ts)) : e < fin ∧ ∃ v ts', xs[e]? = some v ∧ EInv xs fin (e + 1) ts' ∧
    ((∃ n : Nat, v = .int n ∧ ts'.length = ts.length) ∨ (v = .str "lam" ∧ ts'.length = ts.length + 1) ∨ (v = .str "app" ∧ ts'.length = ts.length + 2)) := by
  obtain ⟨post, h1, h2⟩ := h
  rw [encs_cons] at h1 h2
  have pos := List.length_pos_iff.mpr t.enc_ne
  rw [List.length_append] at h2
  refine ⟨by omega, ?_⟩
  cases t with
  | var n =>
    have g := drop_get (i := e) (v := .int n) (r := encs ts ++ post) (by rw [h1]; rfl)
    exact ⟨_, ts, g.1, ⟨post, g.2, by simp [Tm.enc] at h2; omega⟩, .inl ⟨n, rfl, rfl⟩⟩
  | lam b =>
    have g := drop_get (i := e) (v := .str "lam") (r := b.enc ++ encs ts ++ post) (by rw [h1]; simp [Tm.enc])
    exact ⟨_, b :: ts, g.1, ⟨post, by rw [g.2, encs_cons], by rw [encs_cons]; simp [Tm.enc] at h2 ⊢; omega⟩, .inr (.inl ⟨rfl, rfl⟩)⟩
  | app f a =>
    have g := drop_get (i := e) (v := .str "app") (r := f.enc ++ (a.enc ++ encs ts) ++ post) (by rw [h1]; simp [Tm.enc])
    exact ⟨_, f :: a :: ts, g.1, ⟨post, by rw [g.2, encs_cons, encs_cons], by rw [encs_cons, encs_cons]; simp [Tm.enc] at h2 ⊢; omega⟩, .inr (.inr ⟨rfl, rfl⟩)⟩
theorem w_sl {r : V → Option Int → Option Int → Hp → VK → Prop} {te : TE} {tl th : TO} {σ : L2.St} {H : Hp} {Q : VK} (h : te σ H fun x H1 => tl σ H1 fun l H2 => th σ H2 fun u H3 => r x l u H3 Q) : L2.tSl r te tl th σ H Q := h
theorem w_noP {σ : L2.St} {H : Hp} {Q : Option Int → Hp → Prop} (h : Q none H) : tNoPart σ H Q := h
theorem w_part {t : TE} {σ : L2.St} {H : Hp} {Q : Option Int → Hp → Prop} (h : t σ H fun x H1 => ∃ i, x = .int i ∧ Q (some i) H1) : tPart t σ H Q := h
theorem w_part1 {j : Int} {B : Int → Prop} (h : B j) : ∃ i, V.int j = .int i ∧ B i := ⟨j, rfl, h⟩
theorem cut_lo (xs : List V) (i : Nat) : cutV xs none (some (i : Int)) = xs.take i := by
  unfold cutV
  rw [HT.sIx_nat, HT.sIx_none]
  simp
theorem cut_hi (xs : List V) (i : Nat) : cutV xs (some (i : Int)) none = xs.drop i := by
  unfold cutV
  rw [HT.sIx_nat, HT.sIx_none]
  by_cases h : i ≤ xs.length
  · rw [Nat.min_eq_left h]
    exact List.take_of_length_le (by simp)
  · rw [Nat.min_eq_right (by omega), List.drop_length, List.drop_of_length_le (by omega)]
    simp
def dueV (t v : Tm) (i : Nat) (u : Tm) : List V := t.enc.take i ++ v.enc ++ t.enc.drop (i + u.enc.length)
theorem dueV_nds (t v : Tm) (i : Nat) (u : Tm) : Nds (dueV t v i u) := ((t.nds.take i).app v.nds).app (t.nds.drop _)
theorem cut_mid {xs post : List V} {i : Nat} {u : Tm} (h : xs.drop i = u.enc ++ post) : cutV xs (some (i : Int)) (some ((i + u.enc.length : Nat) : Int)) = u.enc := by
  have hl := congrArg List.length h
  rw [List.length_drop, List.length_append] at hl
  have pos := List.length_pos_iff.mpr u.enc_ne
  unfold cutV
  rw [HT.sIx_nat, HT.sIx_nat, Nat.min_eq_left (by omega), Nat.min_eq_left (by omega), h]
  rw [List.take_append_of_le_length (by omega)]
  exact List.take_of_length_le (by omega)
def Small (qs : List (List Nat)) : Prop := ∀ q ∈ qs, ∀ c ∈ q, c < 200
theorem Tm.pls_small : ∀ (t : Tm) (p : List Nat), (∀ c ∈ p, c < 200) → Small (t.pls p)
  | .var _, p, h, q, hq => by
    have e : q = p := by simpa [Tm.pls] using hq
    rw [e]
    exact h
  | .lam b, p, h, q, hq => by
    rcases List.mem_cons.mp hq with e | hq
    · rw [e]
      exact h
    · exact Tm.pls_small b _ (fun c hc => by
        rcases List.mem_append.mp hc with hc | hc
        · exact h c hc
        · rw [List.mem_singleton.mp hc]; decide) q hq
  | .app f a, p, h, q, hq => by
    rcases List.mem_cons.mp hq with e | hq
    · rw [e]
      exact h
    · rcases List.mem_append.mp hq with hq | hq
      · exact Tm.pls_small f _ (fun c hc => by
          rcases List.mem_append.mp hc with hc | hc
          · exact h c hc
          · rw [List.mem_singleton.mp hc]; decide) q hq
      · exact Tm.pls_small a _ (fun c hc => by
          rcases List.mem_append.mp hc with hc | hc
          · exact h c hc
          · rw [List.mem_singleton.mp hc]; decide) q hq
theorem dp_pl {K : PySem.W.Frag} {H : Hp} : ∀ qs : List (List Nat), DpAll K H (plcs qs) ((plcs qs).map dv)
  | [] => .nil
  | _ :: qs => .cons (.str _) (dp_pl qs)
theorem lay_pl : ∀ {qs : List (List Nat)}, Small qs → PyData.canLayAll0 ((plcs qs).map dv) = true
  | [], _ => rfl
  | q :: qs, h => by
    have ih := lay_pl (qs := qs) fun x hx => h x (List.mem_cons_of_mem _ hx)
    have hx : (dv (V.str (pl q))).canLay0 = true := by
      show PyData.strOk (pl q) = true
      unfold PyData.strOk
      rw [Array.all_eq_true]
      intro i hi
      have hm : (pl q).cps[i] ∈ q := by
        have : (pl q).cps[i] ∈ (pl q).cps := Array.getElem_mem hi
        simpa [pl] using this
      have := h q List.mem_cons_self _ hm
      simp
      omega
    show ((dv (V.str (pl q))).canLay0 && PyData.canLayAll0 ((plcs qs).map dv)) = true
    rw [hx, ih]
    rfl
theorem eqv_pl : ∀ qs : List (List Nat), PyData.eqvAll ((plcs qs).map dv) ((plcs qs).map dv) = true
  | [] => by simp [PyData.eqvAll]
  | q :: qs => by
    have ih := eqv_pl qs
    show PyData.eqvAll (dv (V.str (pl q)) :: (plcs qs).map dv) (dv (V.str (pl q)) :: (plcs qs).map dv) = true
    rw [PyData.eqvAll, ih]
    simp [dv, PyData.eqv]
theorem shaped_pl {qs : List (List Nat)} (h : Small qs) : SeqAt.shaped (.list ((plcs qs).map dv)) = true := by
  have h1 : (PyData.list ((plcs qs).map dv)).canLay0 = true := lay_pl h
  have h2 : (PyData.list ((plcs qs).map dv)).depth ≤ 2 := by
    have h := depth_all (plcs qs)
    simp only [PyData.depth]
    omega
  unfold SeqAt.shaped
  rw [h1, Bool.true_and]
  exact decide_eq_true (by omega)
theorem w_neP {K : PySem.W.Frag} {H : Hp} {Q : VK} {a b : Addr} {qs : List (List Nat)} (h : H a = some (.lst (plcs qs))) (k : H b = some (.lst (plcs qs))) (o : Small qs) (q : Q (.bl false) H) : rNeD K (.ref a) (.ref b) H Q :=
  ⟨_, _, .lst (SqL.of h) (dp_pl qs), .lst (SqL.of k) (dp_pl qs), shaped_pl o, shaped_pl o, by rw [PyData.eqv, eqv_pl]; exact q⟩
theorem same_at {qs : List (List Nat)} (o : qs.Pairwise RB) {i j : Nat} {r : List Nat} (hi : qs[i]? = some r) (hj : qs[j]? = some r) : i = j := by
  have b := before_at o hi hj
  have b2 := before_at o hj hi
  rw [before_self] at b b2
  have g1 := of_decide_eq_false b.symm
  have g2 := of_decide_eq_false b2.symm
  omega
theorem inV_pl (p : List Nat) : ∀ qs : List (List Nat), inV (.str (pl p)) (plcs qs) = decide (p ∈ qs)
  | [] => by simp [inV]
  | q :: qs => by
    have ih := inV_pl p qs
    unfold inV at ih ⊢
    have e : eqV (.str (pl q)) (.str (pl p)) = decide (p = q) := by
      show (pl q == pl p) = _
      by_cases h : p = q
      · subst h; simp
      · rw [decide_eq_false h]
        exact beq_eq_false_iff_ne.mpr fun e => h (pl_inj e).symm
    show (eqV (.str (pl q)) (.str (pl p)) || (plcs qs).any fun y => eqV y (.str (pl p))) = _
    rw [ih, e]
    simp
theorem flat_pl (qs : List (List Nat)) : (plcs qs).all flatV = true := by
  simp [flatV]
theorem w_inS {K : PySem.W.Frag} {H : Hp} {Q : VK} {p : Addr} {r : List Nat} {qs : List (List Nat)} (h : H p = some (.lst (plcs qs))) (q : Q (.bl (decide (r ∈ qs))) H) : rIn K false (.str (pl r)) (.ref p) H Q :=
  ⟨p, _, rfl, .inl (SqL.of h), rfl, flat_pl qs, by rw [inV_pl]; exact q⟩
theorem w_indexS {K : PySem.W.Frag} {H : Hp} {Q : VK} {p : Addr} {r : List Nat} {qs : List (List Nat)} {i : Nat} (h : H p = some (.lst (plcs qs))) (o : qs.Pairwise RB) (hi : qs[i]? = some r) (q : Q (.int (i : Int)) H) : rIndex K (.ref p) [.str (pl r)] H Q := by
  refine ⟨p, _, _, i, .str (pl r), rfl, rfl, SqL.of h, rfl, flat_pl qs, by rw [List.getElem?_map, hi]; rfl, beq_self_eq_true (pl r), fun m z hm hz => ?_, q⟩
  rw [List.getElem?_map] at hz
  cases e : qs[m]? with
  | none => rw [e] at hz; cases hz
  | some r2 =>
    rw [e] at hz
    cases hz
    show (pl r2 == pl r) = false
    refine beq_eq_false_iff_ne.mpr fun e2 => ?_
    have e3 := pl_inj e2
    subst e3
    have := same_at o e hi
    omega
theorem cutS_hi (p : List Nat) (i : Nat) : cutS (pl p) (some (i : Int)) none = pl (p.drop i) := by
  unfold cutS
  rw [HT.sIx_nat, HT.sIx_none, pl_len]
  show pl ((p.drop (min i p.length)).take (p.length - min i p.length)) = pl (p.drop i)
  congr 1
  rw [List.take_of_length_le (by simp)]
  by_cases h : i ≤ p.length
  · rw [Nat.min_eq_left h]
  · rw [Nat.min_eq_right (by omega), List.drop_length, List.drop_of_length_le (by omega)]
theorem w_slS {p : List Nat} {lo hi : Option Int} {H : Hp} {Q : VK} (z : p.length ≤ 1000000) (q : Q (.str (cutS (pl p) lo hi)) H) : rSlS (.str (pl p)) lo hi H Q := ⟨pl p, rfl, by rw [pl_len]; exact ly_sz (by omega), q⟩
theorem w_slHi {p : List Nat} {i : Nat} {H : Hp} {Q : VK} (z : p.length ≤ 1000000) (q : Q (.str (pl (p.drop i))) H) : rSlS (.str (pl p)) (some (i : Int)) none H Q := w_slS z (by rw [cutS_hi]; exact q)
end Ly
set_option Elab.async false
set_option linter.all false
set_option maxRecDepth 100000
set_option maxHeartbeats 2000000
namespace Ly
open PySem PySem.Spec PyProof.Rows L2 Evl
/-- the term with v in place of the part at p -/
def Tm.rep (v : Tm) : Tm → List Nat → Tm
  | _, [] => v
  | .lam b, c :: p => if c = 98 then .lam (Tm.rep v b p) else .lam b
  | .app f a, c :: p => if c = 102 then .app (Tm.rep v f p) a else if c = 97 then .app f (Tm.rep v a p) else .app f a
  | .var n, _ :: _ => .var n
def Tm.isLam : Tm → Bool
  | .lam _ => true
  | _ => false
/-- the redexes, in order; p: the place of the term itself -/
def Tm.reds : List Nat → Tm → List (List Nat)
  | _, .var _ => []
  | p, .lam b => b.reds (p ++ [98])
  | p, .app f a => (if f.isLam then [p] else []) ++ (f.reds (p ++ [102]) ++ a.reds (p ++ [97]))
/-- the step at p (the term itself where p is no redex) -/
def Tm.step (t : Tm) (p : List Nat) : Tm := match t.sub p with
  | some (_, .app (.lam b) u) => Tm.rep (Tm.put u 0 b) t p
  | _ => t
theorem Tm.pls_small0 (t : Tm) : Small (t.pls []) := Tm.pls_small t [] (by simp)
theorem w_ixSt {H : Hp} {Q : VK} {p : List Nat} {i : Int} {c : Nat} (z : p.length ≤ 1000000) (h : atI p i = some c) (q : Q (.str (pl [c])) H) : rIxS (.str (pl p)) (.int i) H Q :=
  ⟨pl p, i, c, rfl, rfl, by rw [pl_len]; exact ly_sz (by omega), h, q⟩
end Ly
set_option Elab.async false
set_option linter.all false
set_option maxRecDepth 100000
set_option maxHeartbeats 2000000
namespace Ly
open PySem PySem.Spec PyProof.Rows L2 Evl
/-- what a road passes: the terms, or which error comes first -/
inductive Res where
  | ok (ts : List Tm)
  | none
  | large
def Res.cons (t : Tm) : Res → Res
  | .ok ts => .ok (t :: ts)
  | r => r
def Tm.isRed (t : Tm) (p : List Nat) : Bool := decide (p ∈ t.reds [])
def Tm.pass : Tm → List (List Nat) → Res
  | t, [] => .ok [t]
  | t, p :: r => if t.isRed p = false then .none else if fitsV (t.step p).enc = false then .large else Res.cons t (Tm.pass (t.step p) r)
/-- a road of redexes -/
inductive Road : Tm → List (List Nat) → Prop
  | nil {t : Tm} : Road t []
  | cons {t : Tm} {p : List Nat} {r : List (List Nat)} (h : t.isRed p = true) (hr : Road (t.step p) r) : Road t (p :: r)
/-- where a road leads (its places taken for redexes) -/
def Tm.along : Tm → List (List Nat) → Tm
  | t, [] => t
  | t, p :: r => (t.step p).along r
theorem Road.snoc {t : Tm} {r : List (List Nat)} {p : List Nat} (h : Road t r) (hp : (t.along r).isRed p = true) : Road t (r ++ [p]) := by
  induction h with
  | nil => exact .cons hp .nil
  | cons h _ ih => exact .cons h (ih hp)
inductive Pass (t : Tm) : List (List Nat) → List Tm → Tm → Prop
  | nil : Pass t [] [t] t
  | snoc {r : List (List Nat)} {ts : List Tm} {u : Tm} {p : List Nat} (h : Pass t r ts u) (hp : u.isRed p = true) (hf : fitsV (u.step p).enc = true) : Pass t (r ++ [p]) (ts ++ [u.step p]) (u.step p)
theorem pass_app {t u : Tm} {r : List (List Nat)} {ts : List Tm} (h : Pass t r ts u) : ∀ s, Tm.pass t (r ++ s) = match Tm.pass u s with
    | .ok us => .ok (ts.dropLast ++ us)
    | e => e := by
  induction h with
  | nil =>
    intro s
    show Tm.pass t s = _
    cases Tm.pass t s <;> rfl
  | @snoc r ts u p h hp hf ih =>
    intro s
    rw [List.append_assoc, List.singleton_append, ih]
    have e : Tm.pass u (p :: s) = Res.cons u (Tm.pass (u.step p) s) := by
      show (if u.isRed p = false then Res.none else if fitsV (u.step p).enc = false then Res.large else _) = _
      rw [if_neg (by rw [hp]; simp), if_neg (by rw [hf]; simp)]
    rw [e]
    have hl : ∃ ts0, ts = ts0 ++ [u] := by
      cases h with
      | nil => exact ⟨[], rfl⟩
      | snoc _ _ _ => exact ⟨_, rfl⟩
    obtain ⟨ts0, rfl⟩ := hl
    cases Tm.pass (u.step p) s <;> simp [Res.cons]
theorem Pass.done {t u : Tm} {r : List (List Nat)} {ts : List Tm} (h : Pass t r ts u) : Tm.pass t r = .ok ts := by
  have e := pass_app h []
  rw [List.append_nil] at e
  rw [e]
  have hl : ∃ ts0, ts = ts0 ++ [u] := by
    cases h with
    | nil => exact ⟨[], rfl⟩
    | snoc _ _ _ => exact ⟨_, rfl⟩
  obtain ⟨ts0, rfl⟩ := hl
  simp [Tm.pass]
theorem Pass.last {t u : Tm} {r : List (List Nat)} {ts : List Tm} (h : Pass t r ts u) : ∃ ts0, ts = ts0 ++ [u] := by
  cases h with
  | nil => exact ⟨[], rfl⟩
  | snoc _ _ _ => exact ⟨_, rfl⟩
theorem Pass.none {t u : Tm} {r s : List (List Nat)} {ts : List Tm} {p : List Nat} (h : Pass t r ts u) (hp : u.isRed p = false) : Tm.pass t (r ++ p :: s) = .none := by
  rw [pass_app h]
  have e : Tm.pass u (p :: s) = Res.none := if_pos hp
  rw [e]
theorem Pass.large {t u : Tm} {r s : List (List Nat)} {ts : List Tm} {p : List Nat} (h : Pass t r ts u) (hp : u.isRed p = true) (hf : fitsV (u.step p).enc = false) : Tm.pass t (r ++ p :: s) = .large := by
  rw [pass_app h]
  have e : Tm.pass u (p :: s) = Res.large := by
    show (if u.isRed p = false then Res.none else if fitsV (u.step p).enc = false then Res.large else _) = _
    rw [if_neg (by rw [hp]; simp), if_pos hf]
  rw [e]
theorem Pass.len {t u : Tm} {r : List (List Nat)} {ts : List Tm} (h : Pass t r ts u) : ts.length = r.length + 1 := by
  induction h with
  | nil => rfl
  | snoc _ _ _ ih => simp [ih]
inductive Ts (K : PySem.W.Frag) (H : Hp) : List Addr → List Tm → Prop
  | nil : Ts K H [] []
  | cons {a : Addr} {as : List Addr} {t : Tm} {ts : List Tm} (h : SqT K H a t.enc) (r : Ts K H as ts) : Ts K H (a :: as) (t :: ts)
section
variable {K : PySem.W.Frag} {H H' : Hp} {Q : VK}
theorem Ts.mono {as : List Addr} {ts : List Tm} (h : Ts K H as ts) (e : ∀ a xs, SqT K H a xs → SqT K H' a xs) : Ts K H' as ts := by
  induction h with
  | nil => exact .nil
  | cons h _ ih => exact .cons (e _ _ h) ih
theorem Ts.ex {as : List Addr} {ts : List Tm} (h : Ts K H as ts) (e : Ex H H') : Ts K H' as ts := h.mono fun a xs z => ex_t e z
theorem Ts.snoc {as : List Addr} {ts : List Tm} {a : Addr} {t : Tm} (h : Ts K H as ts) (ha : SqT K H a t.enc) : Ts K H (as ++ [a]) (ts ++ [t]) := by
  induction h with
  | nil => exact .cons ha .nil
  | cons h _ ih => exact .cons h ih
theorem Ts.len {as : List Addr} {ts : List Tm} (h : Ts K H as ts) : as.length = ts.length := by
  induction h with
  | nil => rfl
  | cons _ _ ih => simp [ih]
theorem Ts.at {as : List Addr} {ts : List Tm} (h : Ts K H as ts) {i : Nat} {a : Addr} (ha : as[i]? = some a) : ∃ t, ts[i]? = some t ∧ SqT K H a t.enc := by
  induction h generalizing i with
  | nil => simp at ha
  | cons h _ ih =>
    cases i with
    | zero =>
      simp at ha
      subst ha
      exact ⟨_, rfl, h⟩
    | succ i => exact ih (by simpa using ha)
abbrev refs (as : List Addr) : List V := as.map V.ref
def tmd (t : Tm) : PyData := .tuple (t.enc.map dv)
theorem Ts.dp {as : List Addr} {ts : List Tm} (h : Ts K H as ts) : DpAll K H (refs as) (ts.map tmd) := by
  induction h with
  | nil => exact .nil
  | cons h _ ih => exact .cons (.tup h (dp_nodes (Tm.nds _))) ih
theorem w_slL {a : Addr} {xs : List V} {lo hi : Option Int} (h : SqL K H a xs) (q : ∀ p, H p = none → Q (.ref p) (upd H p (.lst (cutV xs lo hi)))) : rSlL K (.ref a) lo hi H Q := ⟨a, xs, rfl, h, q⟩
end
theorem Small.app {qs rs : List (List Nat)} (h : Small qs) (k : Small rs) : Small (qs ++ rs) := fun q hq => (List.mem_append.mp hq).elim (h q) (k q)
theorem Small.take {qs : List (List Nat)} (h : Small qs) (i : Nat) : Small (qs.take i) := fun q hq => h q (List.mem_of_mem_take hq)
theorem Small.drop {qs : List (List Nat)} (h : Small qs) (i : Nat) : Small (qs.drop i) := fun q hq => h q (List.mem_of_mem_drop hq)
end Ly
set_option Elab.async false
set_option linter.all false
set_option maxRecDepth 100000
set_option maxHeartbeats 2000000
namespace Ly
open PySem PySem.Spec PyProof.Rows L2 Evl
/-- what steps at the first redex come to -/
inductive Wk where
  | done (u : Tm)
  | out
  | large
section
variable {K : PySem.W.Frag} {H : Hp} {Q : VK}
theorem w_nnI {i : Int} {A B : Prop} (h : A) : if (!decide (V.int i = V.non)) = true then A else B := iteT h
theorem w_max {i j : Int} {A : Int → Prop} (q : A (if j > i then j else i)) : ∃ a b, [V.int i, V.int j] = [V.int a, V.int b] ∧ A (if b > a then b else a) := ⟨i, j, rfl, q⟩
theorem w_iR2 {σ : L2.St} {R : It → Hp → Prop} {tA : TA} (h : tA σ H fun vs H1 => ∃ i j : Int, vs = [.int i, .int j] ∧ (-(2 ^ 62) ≤ i ∧ i < 2 ^ 62 ∧ -(2 ^ 62) ≤ j ∧ j < 2 ^ 62) ∧ R (Itr i (j - i).toNat) H1) : iRng2 tA σ H R := h
theorem w_iR21 {i j : Int} {B : Int → Int → Prop} (h1 : -(2 ^ 62) ≤ i) (h2 : i < 2 ^ 62) (h3 : -(2 ^ 62) ≤ j) (h4 : j < 2 ^ 62) (q : B i j) : ∃ a b : Int, [V.int i, V.int j] = [V.int a, V.int b] ∧ (-(2 ^ 62) ≤ a ∧ a < 2 ^ 62 ∧ -(2 ^ 62) ≤ b ∧ b < 2 ^ 62) ∧ B a b := ⟨i, j, rfl, ⟨h1, h2, h3, h4⟩, q⟩
theorem w_break {D : Ends} {σ : L2.St} (h : D.bk σ H) : tBreak D σ H := h
theorem w_cont {D : Ends} {σ : L2.St} (h : D.ct σ H) : tCont D σ H := h
end
end Ly
set_option Elab.async false
set_option linter.all false
set_option maxRecDepth 100000
set_option maxHeartbeats 2000000
namespace Ly
open PySem PySem.Spec PyProof.Rows L2 Evl
def Tm.fr : Nat → Tm → Nat → Prop
  | d, .var n, j => n = d + j
  | d, .lam b, j => b.fr (d + 1) j
  | d, .app f a, j => f.fr d j ∨ a.fr d j
theorem Tm.fr_wf : ∀ {t : Tm} {d M j : Nat}, t.wf (d + M) → t.fr d j → j < M
  | .var n, d, M, j, h, hj => by
    have h : n < d + M := h
    have hj : n = d + j := hj
    omega
  | .lam b, d, M, j, h, hj => Tm.fr_wf (t := b) (d := d + 1) (by rw [show d + 1 + M = d + M + 1 by omega]; exact h) hj
  | .app f a, d, M, j, h, hj => by
    rcases hj with hj | hj
    · exact Tm.fr_wf (t := f) h.1 hj
    · exact Tm.fr_wf (t := a) h.2 hj
theorem Tm.frs_fr : ∀ (t : Tm) (d : Nat) (z : Int), z ∈ (List.zipWith frv t.enc (t.deps d)).flatten ↔ ∃ j : Nat, z = j ∧ t.fr d j
  | .var n, d, z => by
    simp only [Tm.enc, Tm.deps, List.zipWith_cons_cons, List.zipWith_nil_right, List.flatten_cons, List.flatten_nil, List.append_nil, frv, Tm.fr]
    split
    · constructor
      · intro h
        have e := List.mem_singleton.mp h
        exact ⟨n - d, by omega, by omega⟩
      · rintro ⟨j, e, h⟩
        exact List.mem_singleton.mpr (by omega)
    · constructor
      · intro h
        simp at h
      · rintro ⟨j, e, h⟩
        omega
  | .lam b, d, z => by
    have ih := Tm.frs_fr b (d + 1) z
    simp only [Tm.enc, Tm.deps, List.zipWith_cons_cons, List.flatten_cons, List.mem_append, Tm.fr, ← ih]
    simp [frv]
  | .app f a, d, z => by
    have h1 := Tm.frs_fr f d z
    have h2 := Tm.frs_fr a d z
    have hl : f.enc.length = (f.deps d).length := (Tm.deps_len f d).symm
    simp only [Tm.enc, Tm.deps, List.zipWith_cons_cons, List.flatten_cons, List.mem_append, List.zipWith_append hl, List.flatten_append, h1, h2, Tm.fr]
    constructor
    · rintro (h | ⟨j, e, h⟩ | ⟨j, e, h⟩)
      · simp [frv] at h
      · exact ⟨j, e, .inl h⟩
      · exact ⟨j, e, .inr h⟩
    · rintro ⟨j, e, h | h⟩
      · exact .inr (.inl ⟨j, e, h⟩)
      · exact .inr (.inr ⟨j, e, h⟩)
/-- so many different numbers below M: at most M -/
theorem nodup_le : ∀ (M : Nat) {ks : List Int}, ks.Nodup → (∀ k ∈ ks, 0 ≤ k ∧ k < M) → ks.length ≤ M
  | 0, ks, _, h => by
    cases ks with
    | nil => exact Nat.le_refl _
    | cons k r =>
      have := h k List.mem_cons_self
      omega
  | M + 1, ks, nd, h => by
    have e : (ks.filter (fun k => decide (k ≠ (M : Int)))).length ≤ M := nodup_le M (nd.filter _) fun k hk => by
      obtain ⟨h1, h2⟩ := List.mem_filter.mp hk
      have := h k h1
      have h3 : k ≠ (M : Int) := of_decide_eq_true h2
      omega
    have e2 : ks.length ≤ (ks.filter (fun k => decide (k ≠ (M : Int)))).length + 1 := by
      have : ∀ {ks : List Int}, ks.Nodup → ks.length ≤ (ks.filter (fun k => decide (k ≠ (M : Int)))).length + 1 := by
        intro ks nd
        induction ks with
        | nil => simp
        | cons k r ih =>
          obtain ⟨n1, n2⟩ := List.nodup_cons.mp nd
          by_cases c : k = (M : Int)
          · have : r.filter (fun k => decide (k ≠ (M : Int))) = r := List.filter_eq_self.mpr fun x hx => decide_eq_true fun z => n1 (by rw [c, ← z]; exact hx)
            rw [List.filter_cons_of_neg (by simp [c]), this]
            simp
          · rw [List.filter_cons_of_pos (by simp [c])]
            have := ih n2
            simp only [List.length_cons]
            omega
      exact this nd
    omega
end Ly
set_option Elab.async false
set_option linter.all false
set_option maxRecDepth 100000
set_option maxHeartbeats 2000000
namespace Ly
open PySem PySem.Spec PyProof.Rows L2 HotX L2H
section
variable {prog : Program} {w : World} {A : Around} {E : Value → Shared → Prop} {s : Shared}
end
section
variable {X : Cx}
end
section
variable {P : Program} {w : World} {K : PySem.W.Frag} {mg : Str → Option Value} {base : Heap}
def DefH (P : Program) (w : World) (K : PySem.W.Frag) (mg : Str → Option Value) (base : Heap) (CX : CXT) (k : Nat) (x : Str) (ps : List Str) (sp : Sp) : Prop :=
  ∃ f fd, mg x = some (.ref f) ∧ PySem.W.keepIn K (.ref f) = true ∧ Binds K fd ps [] ∧ FnH P w K mg base CX k f fd ps sp
theorem DefH.of {CX : CXT} {k : Nat} {x : Str} {ps : List Str} {sp : Sp} {f : Addr} {fd : FuncData} (g : mg x = some (.ref f)) (kp : PySem.W.keepIn K (.ref f) = true) (b : Binds K fd ps []) (G : FnH P w K mg base CX k f fd ps sp) : DefH P w K mg base CX k x ps sp := ⟨f, fd, g, kp, b, G⟩
end
section
variable {X : Cx}
end
end Ly
set_option Elab.async false
set_option linter.all false
set_option maxRecDepth 100000
set_option maxHeartbeats 2000000
namespace Ly
open PySem PySem.Spec PyProof.Rows L2
/-- one clause: its class, the slot of its name if it has one, its suite -/
structure Cls1 where
  c : Value
  i : Option Nat
  ts : Addr → Value → Option Addr → TS
inductive HdsA (X : Cx) : List ExceptHandler → List Cls1 → Prop
  | nil : HdsA X [] []
  | bare {x : Str} {c : Value} {ts : Addr → Value → Option Addr → TS} {st : Stmt} {su : List Stmt} {np p2 : Pos} {hs : List ExceptHandler} {l : List Cls1} (hc : Names X x c)
      (hsu : ∀ (a : Addr) (oe : Obj) (cls : Value) (d : Option Addr) (pn : List (Addr × Obj)), Zc cls d oe → (∃ vs, oe.data = .fields vs) → PSs (X.suite a ((a, oe) :: pn)) (st :: su) (ts a cls d)) (r : HdsA X hs l) :
      HdsA X (.ExceptHandler (some (.Name x np)) none (st :: su) p2 :: hs) (⟨c, none, ts⟩ :: l)
  | named {x n : Str} {i : Nat} {c : Value} {ts : Addr → Value → Option Addr → TS} {st : Stmt} {su : List Stmt} {np p2 : Pos} {hs : List ExceptHandler} {l : List Cls1} (hi : X.N[i]? = some n) (hln : X.env.kindOf n = some .local) (hc : Names X x c)
      (hsu : ∀ (a : Addr) (oe : Obj) (cls : Value) (d : Option Addr) (pn : List (Addr × Obj)), Zc cls d oe → (∃ vs, oe.data = .fields vs) → PSs (X.suite a ((a, oe) :: pn)) (st :: su) (ts a cls d)) (r : HdsA X hs l) :
      HdsA X (.ExceptHandler (some (.Name x np)) (some n) (st :: su) p2 :: hs) (⟨c, some i, ts⟩ :: l)
section
variable {X : Cx}
end
end Ly
set_option Elab.async false
set_option linter.all false
set_option maxRecDepth 100000
set_option maxHeartbeats 2000000
namespace Ly
open PySem PySem.Spec PyProof.Rows L2
section
variable {X : Cx}
end
end Ly
set_option Elab.async false
set_option linter.all false
set_option maxRecDepth 100000
set_option maxHeartbeats 2000000
namespace Ly
open PySem PySem.Spec PyProof.Rows L2 Evl
theorem ext_tup (l : Addr) (its : Array Value) (n : Nat) (b : Addr) (more : Array Value) (m : Nat) (dd : Option Addr) (sl : Array (Option Value)) (ok : ¬(!its.isEmpty && Builtin.List.listTooLong (its.size + more.size)) = true) (z1 : its.size ≤ sizeLine) (z2 : its.size + more.size ≤ sizeLine + 1) :
    Meets (Builtin.«list.extend» ⟨[.ref l, .ref b], []⟩) (fun _ R s => s.heap.get? l = some { cls := .type "list", dict := none, data := .seq its n, slots := #[] } ∧ s.heap.get? b = some ⟨.type "tuple", dd, .seq more m, sl⟩ ∧
      R (.ok (.ret Value.none)) { s with heap := s.heap.update l (Obj.mapSeq fun x => x ++ more), toks := s.toks }) :=
  .of_wp fun prog w A R s h => by
    obtain ⟨hp, g, d, tk, os⟩ := s
    obtain ⟨hl, hb, h⟩ := h
    (have f1 := AutoSeq1.idx_int; have f2 := AutoSeq1.sub_tuple_tuple; have f3 := AutoSeq1.sub_list_list; have f4 := AutoSeq1.sub_tuple_list; have f5 := AutoSeq1.sub_list_tuple)
    have zz : (its ++ more).size ≤ sizeLine + 1 := by rw [Array.size_append]; exact z2
    wp_walk using (wpAny_updateSeq hl rfl (hz := z1) (_hz' := zz)), AutoSeq1.wpAny_loadPart' hl, AutoSeq1.wpAny_loadPart' hb
    exact ⟨_, rfl, h⟩
section
variable {X : Cx}
def rExtT (K : PySem.W.Frag) : V → List V → Hp → VK → Prop := fun x vs H Q => ∃ l b xs zs, x = .ref l ∧ vs = [.ref b] ∧ H l = some (.lst xs) ∧ SqT K H b zs ∧ xs.length + zs.length ≤ sizeLine ∧ Q .non (upd H l (.lst (xs ++ zs)))
theorem mt_extT : MtM X "list.extend" (rExtT X.K) := by
  intro pins s σ H x vs v us Q I rx rv h
  obtain ⟨l, b, xs, zs, rfl, rfl, hH, hB, hz, q⟩ := h
  cases rx
  obtain ⟨u, rfl, ru⟩ := rv.one
  cases ru
  obtain ⟨z, its, n, r, hl, e⟩ := I.lstM hH
  obtain ⟨its2, r2, ⟨⟨cls, dd, data, sl⟩, ho, hc, m, hd⟩, hl2⟩ := I.tuple hB
  simp only at hc hd
  subst hc hd
  have l2 := r2.length
  have sz : its.toArray.size + its2.toArray.size ≤ sizeLine := by rw [List.size_toArray, List.size_toArray]; omega
  have ok : ¬ (!its.toArray.isEmpty && Builtin.List.listTooLong (its.toArray.size + its2.toArray.size)) = true := by
    rw [notLongL sz, Bool.and_false]
    exact Bool.false_ne_true
  refine call_meets F.slot_list_extend ⟨_, e, rfl⟩ F.entry_list_extend (F.args_list_extend_2 _ _) (ext_tup l its.toArray n b its2.toArray m dd sl ok (by rw [List.size_toArray]; omega) (by omega)) ⟨e, ho, ?_⟩
  refine ⟨.non, _, I.lset (its' := its ++ its2) hH e (by simp) (r.append r2) (by rw [List.length_append]; omega), rfl, q⟩
end
theorem w_extT {K : PySem.W.Frag} {H : Hp} {Q : VK} {l b : Addr} {xs zs : List V} (h : H l = some (.lst xs)) (h2 : SqT K H b zs) (z : xs.length + zs.length ≤ sizeLine) (q : Q .non (upd H l (.lst (xs ++ zs)))) : rExtT K (.ref l) [.ref b] H Q := ⟨l, b, xs, zs, rfl, rfl, h, h2, z, q⟩
end Ly
set_option Elab.async false
set_option linter.all false
set_option maxRecDepth 100000
set_option maxHeartbeats 2000000
namespace Ly
open PySem PySem.Spec PyProof.Rows L2 Evl
def EntsAre : List DictEntry → List (Str × V) → Prop
  | [], [] => True
  | e :: r, (k, v) :: s => (∃ t, e.key = .str k t) ∧ RelV v e.val ∧ EntsAre r s
  | _, _ => False
/-- at d: a dict of the module with these pairs -/
def KD (K : PySem.W.Frag) (w : World) (d : Addr) (kvs : List (Str × V)) : Prop :=
  ∃ es n, K.lookup d = some ⟨.type "dict", none, .dict es n, #[]⟩ ∧ PySem.W.KeysLit w.params es.toList ∧ (d == sysModules) = false ∧ EntsAre es.toList kvs
theorem KD.mk {K : PySem.W.Frag} {w : World} {d : Addr} {kvs : List (Str × V)} {es : Array DictEntry} {n : Nat} (l : K.lookup d = some ⟨.type "dict", none, .dict es n, #[]⟩) (k : PySem.W.KeysLit w.params es.toList) (s : (d == sysModules) = false) (e : EntsAre es.toList kvs) : KD K w d kvs := ⟨es, n, l, k, s, e⟩
def getS (kvs : List (Str × V)) (y : V) : Option V := match y with
  | .str k => (kvs.find? fun kv => decide (kv.1 = k)).map (·.2)
  | _ => none
def OptR : Option V → Option Value → Prop
  | some v, some u => RelV v u
  | none, none => True
  | _, _ => False
theorem OptR.getD {o : Option V} {r : Option Value} (h : OptR o r) {z : V} {u : Value} (hz : RelV z u) : RelV (o.getD z) (r.getD u) := by
  cases o with
  | none =>
    cases r with
    | none => exact hz
    | some u => exact h.elim
  | some v =>
    cases r with
    | none => exact h.elim
    | some u => exact h
theorem OptR.isSome {o : Option V} {r : Option Value} (h : OptR o r) : r.isSome = o.isSome := by
  cases o with
  | none =>
    cases r with
    | none => rfl
    | some u => exact h.elim
  | some v =>
    cases r with
    | none => exact h.elim
    | some u => rfl
theorem ents_get (k : Key) : ∀ {es : List DictEntry} {kvs : List (Str × V)}, EntsAre es kvs → OptR (getS kvs (kV k)) ((es.find? fun e => keyIs k e.key).map (·.val))
  | [], [], _ => by cases k <;> exact True.intro
  | [], _ :: _, h => h.elim
  | _ :: _, [], h => h.elim
  | e :: r, (x, v) :: s, h => by
    obtain ⟨⟨t, ek⟩, hv, hr⟩ := h
    have ih := ents_get k hr
    cases k with
    | inl i =>
      have e0 : keyIs (.inl i) e.key = false := by rw [ek]; rfl
      rw [List.find?_cons, e0]
      exact ih
    | inr y =>
      have e0 : keyIs (.inr y) e.key = decide (x = y) := by
        rw [ek]
        show (x == y) = _
        by_cases c : x = y
        · rw [c]; simp
        · rw [decide_eq_false c]
          exact beq_eq_false_iff_ne.mpr c
      rw [List.find?_cons, e0]
      by_cases c : x = y
      · subst c
        rw [decide_eq_true rfl]
        show OptR (getS ((x, v) :: s) (.str x)) (some e.val)
        have : getS ((x, v) :: s) (.str x) = some v := by simp [getS]
        rw [this]
        exact hv
      · rw [decide_eq_false c]
        have : getS ((x, v) :: s) (kV (.inr y)) = getS s (kV (.inr y)) := by simp [getS, kV, c]
        rw [this]
        exact ih
theorem KD.mapOf {prog : Program} {w : World} {K : PySem.W.Frag} {h : Heap} {d : Addr} {kvs : List (Str × V)} (D : KD K w d kvs) (X : K.In h) :
    ∃ f, h.MapOf (mixKind prog w) d f ∧ ∀ k : Key, OptR (getS kvs (kV k)) (f k) := by
  obtain ⟨es, n, hl, hk, low, he⟩ := D
  refine ⟨fun k => findBy keyIs es k, ⟨_, es, n, X _ _ hl, ⟨rfl, rfl, rfl⟩, rfl, fun e he => ?_, fun _ => rfl⟩, fun k => ?_⟩
  · obtain ⟨x, t, e1, e2⟩ := hk.all e (Array.mem_toList_iff.mpr he)
    exact ⟨.inr x, by rw [e1]; exact mixKind_str prog w x t, e2⟩
  · have := ents_get k he
    show OptR (getS kvs (kV k)) (findBy keyIs es k)
    unfold findBy
    rw [← Array.find?_toList]
    exact this
theorem KD.low {K : PySem.W.Frag} {w : World} {d : Addr} {kvs : List (Str × V)} (D : KD K w d kvs) : (d == sysModules) = false := by
  obtain ⟨es, n, hl, hk, low, he⟩ := D
  exact low
/-- at a: a tuple of the module with these items -/
def KT (K : PySem.W.Frag) (a : Addr) (xs : List V) : Prop := ∃ (o : Obj) (its : Array Value) (n : Nat), K.lookup a = some o ∧ o.cls = .type "tuple" ∧ o.data = .seq its n ∧ its.size ≤ sizeLine ∧ Vals xs its.toList
theorem KT.mk {K : PySem.W.Frag} {a : Addr} {xs : List V} {o : Obj} {its : Array Value} {n : Nat} (l : K.lookup a = some o) (c : o.cls = .type "tuple") (d : o.data = .seq its n) (z : its.size ≤ sizeLine) (v : Vals xs its.toList) : KT K a xs := ⟨o, its, n, l, c, d, z, v⟩
def tKGet2 (K : PySem.W.Frag) (w : World) (td ty tx : TE) : TE := fun σ H Q => td σ H fun x H1 => ∃ a kvs, x = .ref a ∧ KD K w a kvs ∧ ty σ H1 fun y H2 => tx σ H2 fun z H3 => (∃ k, y = kV k) ∧ Q ((getS kvs y).getD z) H3
section
variable {X : Cx} {o e f : Expr} {apos cpos : Pos} {td ty tx : TE}
theorem pe_kget2 (ho : PE X o td) (he : PE X e ty) (hf : PE X f tx) (m : M2 X o "get" apos e f cpos) : PE X (.Call (.Attribute o "get" apos) [e, f] [] cpos) (tKGet2 X.K X.w td ty tx) := by
  refine ⟨fun pins s σ H Q I h => ?_⟩
  refine wpAny_Call_method m.base m.few m.line PySem.F.plainAttrs_dict PySem.F.slot_dict_get PySem.F.type_dict_get (thn (ho.run pins s σ H _ I h) fun u s1 ⟨x, H1, I1, rx, a, kvs, ex, d, q1⟩ => ?_)
  subst ex
  obtain rfl : u = Value.ref a := rx
  obtain ⟨f0, hm0, _⟩ := d.mapOf (prog := X.prog) I1.kIn
  refine ⟨hm0.typeIs, hm0.noDict, ?_⟩
  rw [m.trees]
  refine Calls.callWith_builtin rfl (Calls.evalArgs_plain (Calls.spliced_cons (thn (he.run pins s1 σ H1 _ I1 q1) fun iv s2 ⟨y, H2, I2, ry, q2⟩ =>
    Calls.spliced_cons (thn (hf.run pins s2 σ H2 _ I2 q2) fun fv s3 ⟨z, H3, I3, rz, ⟨k, ek⟩, q3⟩ => Calls.spliced_nil ?_))))
  subst ek
  obtain ⟨f1, hm, hg⟩ := d.mapOf (prog := X.prog) I3.kIn
  exact call_meetsIn PySem.F.slot_dict_get hm.typeIs PySem.F.entry_dict_get (PySem.F.args_dict_get_3 _ _ _) (meets_dict_get_default (mixKind X.prog X.w) a (kV_is ry) d.low fv) ⟨_, hm, _, H3, I3.tok _, (hg k).getD rz, q3⟩
end
section
variable {K : PySem.W.Frag} {w : World} {σ : L2.St} {H : Hp} {Q : VK} {td ty tx : TE}
theorem w_kget2 (h : td σ H fun x H1 => ∃ a kvs, x = .ref a ∧ KD K w a kvs ∧ ty σ H1 fun y H2 => tx σ H2 fun z H3 => (∃ k, y = kV k) ∧ Q ((getS kvs y).getD z) H3) : tKGet2 K w td ty tx σ H Q := h
theorem w_kg {a : Addr} {kvs : List (Str × V)} {B : List (Str × V) → Prop} (D : KD K w a kvs) (q : B kvs) : ∃ a' kvs', V.ref a = .ref a' ∧ KD K w a' kvs' ∧ B kvs' := ⟨a, kvs, rfl, D, q⟩
end
theorem w_isRN {a : Addr} {A B : Prop} (h : B) : if decide (V.ref a = V.non) = true then A else B := iteF h
theorem w_isNN {A B : Prop} (h : A) : if decide (V.non = V.non) = true then A else B := iteT h
theorem w_isIN {i : Int} {A B : Prop} (h : B) : if decide (V.int i = V.non) = true then A else B := iteF h
theorem q_eq {Q : VK} {H : Hp} {v u : V} (q : Q u H) (e : v = u) : Q v H := by
  rw [e]
  exact q
theorem kV_int (i : Int) : ∃ k, V.int i = kV k := ⟨.inl i, rfl⟩
theorem kV_str (x : Str) : ∃ k, V.str x = kV k := ⟨.inr x, rfl⟩
end Ly
set_option Elab.async false
set_option linter.all false
set_option maxRecDepth 100000
namespace Ly
open PySem PySem.Spec PyProof.Rows L2 Evl
def pcD (v : V) : Int := if v = .str "app" then 2 else if v = .str "to" then 2 else if v = .str "lam" then 1 else 0
def numV (m : Int) : V → Bool
  | .int i => decide (0 ≤ i) && decide (i ≤ m)
  | _ => false
def nodeW (ws : List Str) : V → Bool
  | .str x => decide (x ∈ ws)
  | v => numV 1000000 v
def scanW (ws : List Str) : Int → List V → Bool
  | m, [] => decide (m = 0)
  | m, v :: r => if m = 0 ∨ nodeW ws v = false then false else scanW ws (m + (pcD v - 1)) r
def isW (ws : List Str) (xs : List V) : Bool := decide (xs.length ≤ 1000) && scanW ws 1 xs
theorem nodeW_key {ws : List Str} {v : V} (h : nodeW ws v = true) : ∃ k, v = kV k := by
  cases v with
  | int i => exact kV_int i
  | str x => exact kV_str x
  | _ => cases h
theorem nodeV_W (v : V) : isNodeV v = nodeW ["lam", "app"] v := by
  cases v with
  | int i => rfl
  | str x =>
    show (decide (x = "lam") || decide (x = "app")) = decide (x ∈ _)
    simp
  | _ => rfl
theorem scanV_W : ∀ (xs : List V) (m : Int), scanV m xs = scanW ["lam", "app"] m xs
  | [], m => rfl
  | v :: r, m => by
    rw [scanV, scanW, nodeV_W]
    by_cases c : m = 0 ∨ nodeW ["lam", "app"] v = false
    · rw [if_pos c, if_pos c]
    · rw [if_neg c, if_neg c]
      have hn : nodeW ["lam", "app"] v = true := by
        cases h : nodeW ["lam", "app"] v with
        | true => rfl
        | false => exact absurd (.inr h) c
      have e : pcV v = pcD v := by
        cases v with
        | int i => rfl
        | str x =>
          have h2 : x = "lam" ∨ x = "app" := by simpa [nodeW] using hn
          rcases h2 with rfl | rfl <;> decide +kernel
        | _ => rfl
      rw [e]
      exact scanV_W r _
theorem isV_W (xs : List V) : isTermV xs = isW ["lam", "app"] xs := by rw [isTermV, isW, scanV_W]
theorem pcD_get {v : V} (h : ∃ k, v = kV k) : (getS [("lam", .int 1), ("app", .int 2), ("to", .int 2)] v).getD (.int 0) = .int (pcD v) := by
  obtain ⟨k, rfl⟩ := h
  cases k with
  | inl i => rfl
  | inr x =>
    by_cases h1 : x = "lam"
    · subst h1
      decide +kernel
    · by_cases h2 : x = "app"
      · subst h2
        decide +kernel
      · by_cases h3 : x = "to"
        · subst h3
          decide +kernel
        · have e1 : decide (("lam" : Str) = x) = false := decide_eq_false (Ne.symm h1)
          have e2 : decide (("app" : Str) = x) = false := decide_eq_false (Ne.symm h2)
          have e3 : decide (("to" : Str) = x) = false := decide_eq_false (Ne.symm h3)
          have e0 : pcD (.str x) = 0 := by
            unfold pcD
            rw [if_neg (fun z => h2 (V.str.inj z)), if_neg (fun z => h3 (V.str.inj z)), if_neg (fun z => h1 (V.str.inj z))]
          show (getS _ (V.str x)).getD _ = V.int (pcD (.str x))
          rw [e0]
          simp only [getS, List.find?_cons, e1, e2, e3, List.find?_nil, Option.map_none, Option.getD_none]
theorem inV_strs (x : Str) (ws : List Str) : inV (.str x) (ws.map V.str) = decide (x ∈ ws) := by
  induction ws with
  | nil => rfl
  | cons w r ih =>
    have e : inV (.str x) ((w :: r).map V.str) = ((w == x) || inV (.str x) (r.map V.str)) := rfl
    rw [e, ih]
    by_cases c : x = w
    · subst c
      simp
    · have c2 : (w == x) = false := beq_eq_false_iff_ne.mpr (Ne.symm c)
      rw [c2]
      simp [c]
theorem w_inW {K : PySem.W.Frag} {H : Hp} {Q : VK} {p : Addr} {x : Str} {ws : List Str} (h : SqT K H p (ws.map V.str)) (q : Q (.bl (decide (x ∈ ws))) H) : rIn K false (.str x) (.ref p) H Q :=
  ⟨p, ws.map V.str, rfl, .inr h, rfl, by simp [flatV], by
    show Q (.bl (inV (.str x) (ws.map V.str))) H
    rw [inV_strs]
    exact q⟩
end Ly
set_option Elab.async false
set_option linter.all false
set_option maxRecDepth 100000
set_option maxHeartbeats 2000000
namespace Ly
open PySem PySem.Spec PyProof.Rows L2 Evl
/-- a class that is made by calling it -/
def DefC (P : Program) (w : World) (K : PySem.W.Frag) (mg : Str → Option Value) (base : Heap) (CX : CXT) (k : Nat) (C : Addr) (ps : List Str) (sp : Sp) : Prop :=
  ∃ (f : Addr) (fd : FuncData), Mk K C f ∧ Binds K fd ps [] ∧ FnOk P w K mg base CX k f fd ps sp
theorem DefC.of {P : Program} {w : World} {K : PySem.W.Frag} {mg : Str → Option Value} {base : Heap} {CX : CXT} {k : Nat} {C : Addr} {ps : List Str} {sp : Sp} {f : Addr} {fd : FuncData} (M : Mk K C f) (b : Binds K fd ps []) (G : FnOk P w K mg base CX k f fd ps sp) : DefC P w K mg base CX k C ps sp := ⟨f, fd, M, b, G⟩
section
variable {K : PySem.W.Frag} {σ : L2.St} {H : Hp} {Q : VK} {D : Ends} {ta tb : TE} {tA : TA} {g : TG} {s1 : TS} {R : It → Hp → Prop}
end
end Ly
set_option Elab.async false
set_option linter.all false
set_option maxRecDepth 100000
namespace Ly
open PySem PySem.Spec PyProof.Rows L2 Evl
def rDGet (x y : V) (H : Hp) (Q : VK) : Prop := ∃ a v, x = .ref a ∧ DGet H a y (some v) ∧ Q v H
def rDIn (x y : V) (H : Hp) (Q : VK) : Prop := ∃ a o, x = .ref a ∧ DGet H a y o ∧ Q (.bl o.isSome) H
def rDNotIn (x y : V) (H : Hp) (Q : VK) : Prop := ∃ a o, x = .ref a ∧ DGet H a y o ∧ Q (.bl (!o.isSome)) H
def rDPut (x y v : V) (H : Hp) (N : Hp → Prop) : Prop := ∃ a H4, x = .ref a ∧ DPut H a y v H4 ∧ N H4
section
variable {σ : L2.St} {H : Hp} {Q : VK} {D : Ends} {td ty tx tv : TE} {a : Addr} {kvs : List (L2.Key × V)} {i : Int} {v : V}
theorem w_tdget (h : td σ H fun x H1 => ty σ H1 fun y H2 => rDGet x y H2 Q) : tDGet td ty σ H Q := h
theorem w_tdin (h : ty σ H fun y H1 => td σ H1 fun x H2 => rDIn x y H2 Q) : tDIn ty td σ H Q := h
theorem w_tdnotin (h : ty σ H fun y H1 => td σ H1 fun x H2 => rDNotIn x y H2 Q) : tDNotIn ty td σ H Q := h
theorem w_sdput (h : tv σ H fun v H1 => td σ H1 fun x H2 => ty σ H2 fun y H3 => rDPut x y v H3 fun H4 => D.nx σ H4) : sDPut td ty tv D σ H := h
theorem w_dnew (h : ∀ p, H p = none → Q (.ref p) (upd H p (.dK []))) : tDNewK σ H Q := h
theorem w_tdsetd (h : td σ H fun x H1 => ∃ a, x = .ref a ∧ IsD H1 a ∧ ty σ H1 fun y H2 => tx σ H2 fun z H3 => ∃ (kvs : List (L2.Key × V)) (k : L2.Key), H3 a = some (.dK kvs) ∧ y = kV k ∧ kvs.length < sizeLine ∧
  (∀ v, valV kvs k = some v → Q v H3) ∧ (valV kvs k = none → Q z (upd H3 a (.dK (putK kvs k z))))) : tDSetd td ty tx σ H Q := h
end
/-- the dict that numbers vs -/
def NumD (vs : List Nat) (kvs : List (L2.Key × V)) : Prop := kvs.length = vs.length ∧ ∀ n : Nat, valV kvs (.inl (n : Int)) = if n ∈ vs then some (.int (vs.idxOf n : Nat)) else none
theorem NumD.nil : NumD [] [] := ⟨rfl, fun n => rfl⟩
theorem NumD.put {vs : List Nat} {kvs : List (L2.Key × V)} {n : Nat} (h : NumD vs kvs) (hn : n ∉ vs) : NumD (vs ++ [n]) (putK kvs (.inl (n : Int)) (.int (vs.length : Nat))) := by
  have h0 : valV kvs (.inl (n : Int)) = none := by rw [h.2 n, if_neg hn]
  refine ⟨?_, fun m => ?_⟩
  · rw [putK_new _ h0, List.length_append, List.length_append, h.1]
    rfl
  · rw [valV_put, h.2 m]
    by_cases e : m = n
    · subst e
      rw [if_pos rfl, if_pos (by simp), List.idxOf_append, if_neg hn]
      simp
    · have e2 : ¬ ((.inl (m : Int) : L2.Key) = .inl (n : Int)) := fun z => e (by have := Sum.inl.inj z; omega)
      rw [if_neg e2]
      by_cases hm : m ∈ vs
      · rw [if_pos hm, if_pos (by simp [hm]), List.idxOf_append, if_pos hm]
      · rw [if_neg hm, if_neg (by simp [hm, e])]
end Ly
set_option Elab.async false
set_option linter.all false
set_option maxRecDepth 100000
namespace Ly
open PySem PySem.Spec PyProof.Rows L2 Evl
abbrev Fp := List (Addr × HO)
structure Own (H0 H : Hp) (F : Fp) : Prop where
  ex : Ex H0 H
  nd : (F.map (·.1)).Nodup
  on : ∀ p ∈ F, H p.1 = some p.2
  nw : ∀ p ∈ F, H0 p.1 = none
section
variable {H0 H H' : Hp} {F G F1 F2 : Fp} {a b : Addr} {o u : HO}
theorem Own.nil (e : Ex H0 H) : Own H0 H [] := ⟨e, List.nodup_nil, fun p h => (nomatch h), fun p h => (nomatch h)⟩
theorem Own.sub (h : Own H0 H F) (s : G.Sublist F) : Own H0 H G :=
  ⟨h.ex, (s.map _).nodup h.nd, fun q m => h.on q (s.subset m), fun q m => h.nw q (s.subset m)⟩
theorem Own.at (h : Own H0 H F) (m : (a, o) ∈ F) : H a = some o := h.on _ m
theorem Own.mono (h : Own H0 H F) (e : Ex H H') : Own H0 H' F := ⟨h.ex.trans e, h.nd, fun p m => e _ _ (h.on p m), h.nw⟩
theorem Own.new (h : Own H0 H F) (hp : H a = none) : Own H0 (upd H a u) ((a, u) :: F) := by
  have h0 : H0 a = none := fresh_back h.ex hp
  have na : ∀ p ∈ F, p.1 ≠ a := fun p m z => by
    have := h.on p m
    rw [z, hp] at this
    cases this
  refine ⟨ex_new h.ex hp, ?_, fun p m => ?_, fun p m => ?_⟩
  · rw [List.map_cons, List.nodup_cons]
    refine ⟨fun m => ?_, h.nd⟩
    obtain ⟨p, mp, e⟩ := List.mem_map.mp m
    exact na p mp e
  · rcases List.mem_cons.mp m with rfl | m
    · exact upd_same
    · rw [upd_ne (na p m)]
      exact h.on p m
  · rcases List.mem_cons.mp m with rfl | m
    · exact h0
    · exact h.nw p m
theorem Own.mid (h : Own H0 H (F1 ++ (a, o) :: F2)) : Own H0 (upd H a u) (F1 ++ (a, u) :: F2) := by
  have nd := h.nd
  rw [List.map_append, List.map_cons] at nd
  have h0 : H0 a = none := h.nw (a, o) (by simp)
  have nd2 := (List.perm_middle.nodup_iff).mp nd
  rw [List.nodup_cons] at nd2
  have na : ∀ p, p ∈ F1 ∨ p ∈ F2 → p.1 ≠ a := fun p m z => nd2.1 (by
    rw [List.mem_append]
    rcases m with m | m
    · exact .inl (z ▸ List.mem_map.mpr ⟨p, m, rfl⟩)
    · exact .inr (z ▸ List.mem_map.mpr ⟨p, m, rfl⟩))
  refine ⟨ex_upd h.ex h0, by rw [List.map_append, List.map_cons]; exact nd, fun p m => ?_, fun p m => ?_⟩
  · rcases List.mem_append.mp m with m | m
    · rw [upd_ne (na p (.inl m))]
      exact h.on p (by simp [m])
    · rcases List.mem_cons.mp m with rfl | m
      · exact upd_same
      · rw [upd_ne (na p (.inr m))]
        exact h.on p (by simp [m])
  · rcases List.mem_append.mp m with m | m
    · exact h.nw p (by simp [m])
    · rcases List.mem_cons.mp m with rfl | m
      · exact h0
      · exact h.nw p (by simp [m])
theorem Own.put (h : Own H0 H ((a, o) :: F)) : Own H0 (upd H a u) ((a, u) :: F) := Own.mid (F1 := []) h
theorem Own.set (i : Nat) (h : Own H0 H F) (e : F[i]? = some (a, o)) : Own H0 (upd H a u) (F.set i (a, u)) := by
  obtain ⟨hi, e⟩ := List.getElem?_eq_some_iff.mp e
  have e1 : F = F.take i ++ (a, o) :: F.drop (i + 1) := by
    rw [← e, List.getElem_cons_drop, List.take_append_drop]
  have e2 : F.set i (a, u) = F.take i ++ (a, u) :: F.drop (i + 1) := List.set_eq_take_append_cons_drop .. |>.trans (if_pos hi)
  rw [e2]
  rw [e1] at h
  exact h.mid
theorem Own.keys (h : Own H0 H F) {i j : Nat} {p q : Addr × HO} (hi : F[i]? = some p) (hj : F[j]? = some q) (n : i ≠ j) : p.1 ≠ q.1 := fun z => by
  have nd := h.nd
  obtain ⟨li, ei⟩ := List.getElem?_eq_some_iff.mp hi
  obtain ⟨lj, ej⟩ := List.getElem?_eq_some_iff.mp hj
  have h1 : i < (F.map fun p => p.1).length := by simpa using li
  have h2 : j < (F.map fun p => p.1).length := by simpa using lj
  have e : (F.map fun p => p.1)[i] = (F.map fun p => p.1)[j] := by
    rw [List.getElem_map, List.getElem_map, ei, ej]
    exact z
  exact n ((List.getElem_inj nd).mp e)
theorem Own.pickN (h : Own H0 H F) : ∀ (I : List Nat) (G : Fp), I.Nodup → I.map (fun i => F[i]?) = G.map some → (G.map (·.1)).Nodup ∧ ∀ p ∈ G, ∃ i ∈ I, F[i]? = some p
  | [], G, _, e => by
    have : G = [] := by simpa using e.symm
    subst this
    exact ⟨List.nodup_nil, fun p m => (nomatch m)⟩
  | i :: I, [], _, e => by simp at e
  | i :: I, p :: G, n, e => by
    rw [List.map_cons, List.map_cons, List.cons.injEq] at e
    rw [List.nodup_cons] at n
    obtain ⟨h1, h2⟩ := Own.pickN h I G n.2 e.2
    refine ⟨?_, fun q m => ?_⟩
    · rw [List.map_cons, List.nodup_cons]
      refine ⟨fun m => ?_, h1⟩
      obtain ⟨q, mq, eq⟩ := List.mem_map.mp m
      obtain ⟨j, mj, ej⟩ := h2 q mq
      exact h.keys ej e.1 (fun z => n.1 (z ▸ mj)) eq
    · rcases List.mem_cons.mp m with rfl | m
      · exact ⟨i, List.mem_cons_self, e.1⟩
      · obtain ⟨j, mj, ej⟩ := h2 q m
        exact ⟨j, List.mem_cons_of_mem _ mj, ej⟩
/-- some of what one owns, in any order -/
theorem Own.pick (I : List Nat) (h : Own H0 H F) (n : I.Nodup) (e : I.map (fun i => F[i]?) = G.map some) : Own H0 H G := by
  obtain ⟨h1, h2⟩ := Own.pickN h I G n e
  refine ⟨h.ex, h1, fun p m => ?_, fun p m => ?_⟩
  · obtain ⟨i, _, ei⟩ := h2 p m
    exact h.on p (List.mem_of_getElem? ei)
  · obtain ⟨i, _, ei⟩ := h2 p m
    exact h.nw p (List.mem_of_getElem? ei)
theorem Own.ne (h : Own H0 H F) (m1 : (a, o) ∈ F) (m2 : (b, u) ∈ F) (n : o ≠ u) : a ≠ b := fun z => by
  have e1 := h.on _ m1
  have e2 := h.on _ m2
  rw [z] at e1
  exact n (Option.some.inj (e1.symm.trans e2))
end
end Ly
set_option Elab.async false
set_option linter.all false
set_option maxRecDepth 100000
namespace Ly
open PySem PySem.Spec PyProof.Rows L2 Evl
structure Lv where
  op : Str
  nm : Bool
  ns : List Str
  pt : Nat
  nd : List V
def Lv.new (o : Str) : Lv := ⟨o, decide (o = "\\"), [], 0, []⟩
def Lv.whole (l : Lv) : Bool := !l.nm && decide (0 < l.pt)
def Lv.add (l : Lv) (xs : List V) : Lv := { l with pt := l.pt + 1, nd := l.nd ++ xs }
def Lv.all (l : Lv) : List V := List.replicate l.ns.length (V.str "lam") ++ List.replicate (l.pt - 1) (V.str "app") ++ l.nd
def Lv.size (l : Lv) : Nat := l.ns.length + l.pt + l.nd.length
def scp : List Lv → List Str
  | [] => []
  | l :: r => scp r ++ l.ns
def sizes : List Lv → Nat
  | [] => 0
  | l :: r => l.size + sizes r
/-- the number that a name stands for -/
def numOf (fs sc : List Str) (n : Str) : Option Nat := if n ∈ sc then some (sc.reverse.idxOf n) else if n ∈ fs then some (sc.length + fs.idxOf n) else none
def closeAbs : Lv → List Lv → Lv × List Lv
  | l, [] => (l, [])
  | l, p :: r => if l.op = "\\" then closeAbs (p.add l.all) r else (l, p :: r)
def stepT (fs : List Str) (l : Lv) (r : List Lv) (tok : Str) : Option (Lv × List Lv) :=
  if tok = "(" ∨ tok = "\\" then (if l.nm = true ∨ 60 < r.length + 1 then none else some (Lv.new tok, l :: r))
  else if tok = "." then (if l.nm = false ∨ l.ns = [] then none else some ({ l with nm := false }, r))
  else if tok = ")" then (if l.whole = false then none else if (closeAbs l r).1.op = "(" then match (closeAbs l r).2 with
      | [] => none
      | p :: r2 => some (p.add (closeAbs l r).1.all, r2) else none)
  else if l.nm = true then some ({ l with ns := l.ns ++ [tok] }, r)
  else match numOf fs (scp (l :: r)) tok with
    | none => none
    | some k => some (l.add [V.int (k : Int)], r)
def finT (l : Lv) (r : List Lv) : Option (List V) := if l.whole = false then none else match (closeAbs l r).2 with
  | [] => some (closeAbs l r).1.all
  | _ :: _ => none
/-- the last level is the text's -/
def Bot : Lv → List Lv → Prop
  | l, [] => l.op = ""
  | _, p :: r => Bot p r
def isLow (c : Nat) : Bool := decide (97 ≤ c ∧ c ≤ 122)
def isDig (c : Nat) : Bool := decide (48 ≤ c ∧ c ≤ 57)
def posL (n : Str) : Nat → List Str → List Nat
  | _, [] => []
  | i, m :: r => if m = n then i :: posL n (i + 1) r else posL n (i + 1) r
end Ly
set_option Elab.async false
set_option linter.all false
set_option maxRecDepth 100000
namespace Ly
open PySem PySem.Spec PyProof.Rows L2 Evl
abbrev LA := Addr × Addr × Addr × Addr
def lvFs (l : Lv) (nl dl : Addr) : List (Str × V) := [("opener", .str l.op), ("naming", .bl l.nm), ("names", .ref nl), ("parts", .int (l.pt : Int)), ("nodes", .ref dl)]
def rdFs (dn db ll : Addr) (d : Nat) : List (Str × V) := [("numbers", .ref dn), ("bound", .ref db), ("depth", .int (d : Int)), ("levels", .ref ll)]
abbrev txts (ns : List Str) : List V := ns.map V.str
def lvFp (CL : Addr) (a : LA) (l : Lv) : Fp := [(a.1, .ins CL a.2.1 (lvFs l a.2.2.1 a.2.2.2)), (a.2.2.1, .lst (txts l.ns)), (a.2.2.2, .lst l.nd)]
def lvsFp (CL : Addr) : List LA → List Lv → Fp
  | a :: as, l :: ls => lvFp CL a l ++ lvsFp CL as ls
  | _, _ => []
def bdFp (g : Str → List V) (BA : List (Str × Addr)) : Fp := BA.map fun p => (p.2, .lst (g p.1))
abbrev pos0 (sc : List Str) (n : Str) : List V := nums (posL n 0 sc)
abbrev headFp (CR : Addr) (x dx dn db ll : Addr) (kn kb : List (L2.Key × V)) (d : Nat) (xs : List V) : Fp := [(x, .ins CR dx (rdFs dn db ll d)), (dn, .dK kn), (db, .dK kb), (ll, .lst xs)]
def NumS (fs : List Str) (kn : List (L2.Key × V)) : Prop := ∀ n, valV kn (.inr n) = if n ∈ fs then some (.int (fs.idxOf n : Nat)) else none
structure Bnd (BA : List (Str × Addr)) (kb : List (L2.Key × V)) (sc : List Str) (N : Nat) : Prop where
  nd : (BA.map (·.1)).Nodup
  val : ∀ n, valV kb (.inr n) = (BA.lookup n).map V.ref
  cov : ∀ n ∈ sc, (BA.lookup n).isSome = true
  len : kb.length ≤ N
def lls (as : List LA) : List V := (as.map fun a => V.ref a.1).reverse
theorem lls_cons (a : LA) (as : List LA) : lls (a :: as) = lls as ++ [V.ref a.1] := by simp [lls]
structure RdF (CR CL : Addr) (H0 H : Hp) (x dx dn db ll : Addr) (kn kb : List (L2.Key × V)) (BA : List (Str × Addr)) (a : LA) (as : List LA) (fs : List Str) (N : Nat) (l : Lv) (r : List Lv) : Prop where
  own : Own H0 H (headFp CR x dx dn db ll kn kb (scp (l :: r)).length (lls (a :: as)) ++ (lvFp CL a l ++ (lvsFp CL as r ++ bdFp (pos0 (scp (l :: r))) BA)))
  len : as.length = r.length
  num : NumS fs kn
  bd : Bnd BA kb (scp (l :: r)) N
  sz : sizes (l :: r) ≤ 2 * N
  bot : Bot l r
/-- the reader at x has read so far -/
def RdAt (CR CL : Addr) (H0 H : Hp) (x : Addr) (fs : List Str) (N : Nat) (l : Lv) (r : List Lv) : Prop := ∃ dx dn db ll kn kb BA a as, RdF CR CL H0 H x dx dn db ll kn kb BA a as fs N l r
section
variable {CR CL : Addr} {H0 H H' : Hp} {x : Addr} {fs : List Str} {N M : Nat} {l : Lv} {r : List Lv}
theorem RdAt.mono (h : RdAt CR CL H0 H x fs N l r) (e : Ex H H') : RdAt CR CL H0 H' x fs N l r := by
  obtain ⟨dx, dn, db, ll, kn, kb, BA, a, as, h⟩ := h
  exact ⟨dx, dn, db, ll, kn, kb, BA, a, as, h.own.mono e, h.len, h.num, h.bd, h.sz, h.bot⟩
theorem RdAt.more (h : RdAt CR CL H0 H x fs N l r) (e : N ≤ M) : RdAt CR CL H0 H x fs M l r := by
  obtain ⟨dx, dn, db, ll, kn, kb, BA, a, as, h⟩ := h
  exact ⟨dx, dn, db, ll, kn, kb, BA, a, as, h.own, h.len, h.num, ⟨h.bd.nd, h.bd.val, h.bd.cov, Nat.le_trans h.bd.len e⟩, by have := h.sz; omega, h.bot⟩
end
theorem RdAt.top {CR CL : Addr} {H0 H : Hp} {x : Addr} {fs : List Str} {N : Nat} {l : Lv} {r : List Lv} (h : RdAt CR CL H0 H x fs N l r) : ∃ (dx dn db ll ax adx nl dl : Addr) (d : Nat) (ys : List V), H x = some (.ins CR dx (rdFs dn db ll d)) ∧ H ll = some (.lst (ys ++ [V.ref ax])) ∧
    H ax = some (.ins CL adx (lvFs l nl dl)) ∧ H nl = some (.lst (txts l.ns)) ∧ H dl = some (.lst l.nd) ∧ ys.length = r.length := by
  obtain ⟨dx, dn, db, ll, kn, kb, BA, a, as, h⟩ := h
  have ow := h.own
  rw [lls_cons] at ow
  exact ⟨dx, dn, db, ll, a.1, a.2.1, a.2.2.1, a.2.2.2, (scp (l :: r)).length, lls as, ow.at (by simp), ow.at (by simp), ow.at (by simp [lvFp]), ow.at (by simp [lvFp]), ow.at (by simp [lvFp]), by simp [lls, h.len]⟩
theorem RdAt.ex {CR CL : Addr} {H0 H : Hp} {x : Addr} {fs : List Str} {N : Nat} {l : Lv} {r : List Lv} (h : RdAt CR CL H0 H x fs N l r) : Ex H0 H := by
  obtain ⟨_, _, _, _, _, _, _, _, _, h⟩ := h
  exact h.own.ex
theorem RdAt.bot {CR CL : Addr} {H0 H : Hp} {x : Addr} {fs : List Str} {N : Nat} {l : Lv} {r : List Lv} (h : RdAt CR CL H0 H x fs N l r) : Bot l r := by
  obtain ⟨_, _, _, _, _, _, _, _, _, h⟩ := h
  exact h.bot
theorem RdAt.size {CR CL : Addr} {H0 H : Hp} {x : Addr} {fs : List Str} {N : Nat} {l : Lv} {r : List Lv} (h : RdAt CR CL H0 H x fs N l r) : sizes (l :: r) ≤ 2 * N := by
  obtain ⟨_, _, _, _, _, _, _, _, _, h⟩ := h
  exact h.sz
section
variable {σ : L2.St} {H : Hp} {Q : VK} {D : Ends} {td ty tx tv ta : TE} {a : Addr} {kvs : List (L2.Key × V)} {n : Str} {v : V} {K : PySem.W.Frag}
theorem w_dinS (e : H a = some (.dK kvs)) (q : Q (.bl (valV kvs (.inr n)).isSome) H) : rDIn (.ref a) (.str n) H Q :=
  ⟨a, _, rfl, DGet.k (k := .inr n) e, q⟩
theorem w_dnotinS (e : H a = some (.dK kvs)) (q : Q (.bl (!(valV kvs (.inr n)).isSome)) H) : rDNotIn (.ref a) (.str n) H Q :=
  ⟨a, _, rfl, DGet.k (k := .inr n) e, q⟩
theorem w_dputS {N : Hp → Prop} (e : H a = some (.dK kvs)) (z : kvs.length < sizeLine) (q : N (upd H a (.dK (putK kvs (.inr n) v)))) : rDPut (.ref a) (.str n) v H N :=
  ⟨a, _, rfl, DPut.k (k := .inr n) e z, q⟩
end
end Ly
set_option Elab.async false
set_option linter.all false
set_option maxRecDepth 100000
namespace Ly
open PySem PySem.Spec PyProof.Rows L2 Evl
structure IsNm (w : List Nat) : Prop where
  ex : ∃ c ds, w = c :: ds ∧ isLow c = true ∧ ds.all isDig = true ∧ ds.length ≤ 8
inductive Kd4 | part | row | abs | opn
def wrapW (ws : List (List Nat)) : List (List Nat) := [40] :: ws ++ [[41]]
def nmOf (fs sc : List (List Nat)) (w : List Nat) : Option Nat := numOf (fs.map pl) (sc.map pl) (pl w)
inductive Mk (fs : List (List Nat)) : List (List Nat) → Nat → List (List Nat) → Tm → Kd4 → Prop
  | name {sc D w k} : IsNm w → nmOf fs sc w = some k → Mk fs sc D [w] (.var k) .part
  | abs {sc D own ws t kd} : own ≠ [] → own.length ≤ 3 → (∀ w ∈ own, IsNm w) → Mk fs (sc ++ own) D ws t kd → Mk fs sc (D + 1) ([92] :: (own ++ [46] :: ws)) (Tm.lamN own.length t) .abs
  | app {sc D l r L R f a k1 k2 kd} : Mk fs sc D l f k1 → Mk fs sc D r a k2 → (L = wrapW l ∨ (L = l ∧ (k1 = .part ∨ k1 = .row))) → ((R = wrapW r ∧ kd = .row) ∨ (R = r ∧ k2 = .part ∧ kd = .row) ∨ (R = r ∧ k2 = .abs ∧ kd = .opn)) → Mk fs sc (D + 1) (L ++ R) (.app f a) kd
theorem Mk.mono {fs sc D ws t kd} (h : Mk fs sc D ws t kd) : ∀ {D'}, D ≤ D' → Mk fs sc D' ws t kd := by
  induction h with
  | name h1 h2 => exact fun _ => .name h1 h2
  | abs h1 h2 h3 h4 ih =>
    intro D' hD
    obtain ⟨D2, rfl⟩ : ∃ k, D' = k + 1 := ⟨D' - 1, by omega⟩
    exact .abs h1 h2 h3 (ih (by omega))
  | app h1 h2 hl hr ih1 ih2 =>
    intro D' hD
    obtain ⟨D2, rfl⟩ : ∃ k, D' = k + 1 := ⟨D' - 1, by omega⟩
    exact .app (ih1 (by omega)) (ih2 (by omega)) hl hr
theorem Mk.head {fs sc D ws t kd} (h : Mk fs sc D ws t kd) : ∃ w r, ws = w :: r ∧ (kd ≠ .abs → w ≠ [92]) := by
  induction h with
  | name hn _ =>
    obtain ⟨c, ds, rfl, hc, _⟩ := hn.ex
    refine ⟨_, _, rfl, fun _ z => ?_⟩
    cases z
    exact absurd hc (by decide)
  | abs => exact ⟨_, _, rfl, fun z => absurd rfl z⟩
  | app h1 h2 hl hr ih1 ih2 =>
    obtain ⟨w, r, rfl, hw⟩ := ih1
    rcases hl with rfl | ⟨rfl, hk⟩
    · exact ⟨[40], _, rfl, fun _ z => by cases z⟩
    · refine ⟨w, _, rfl, fun _ => hw ?_⟩
      rcases hk with rfl | rfl <;> exact fun z => nomatch z
theorem Mk.size {fs sc D ws t kd} (h : Mk fs sc D ws t kd) : ws.length + 5 ≤ 6 * 2 ^ D ∧ t.enc.length + 3 ≤ 4 * 2 ^ D := by
  induction h with
  | @name sc D w k _ _ =>
    have := Nat.one_le_two_pow (n := D)
    simp only [Tm.enc, List.length_singleton]
    omega
  | abs h1 h2 h3 h4 ih =>
    rw [Nat.pow_succ]
    simp only [List.length_cons, List.length_append, Tm.enc_lamN, List.length_flatten, List.map_replicate, List.sum_replicate_nat]
    simp only [List.length_nil]
    omega
  | app h1 h2 hl hr ih1 ih2 =>
    have e1 : ∀ ws : List (List Nat), (wrapW ws).length = ws.length + 2 := fun ws => by simp [wrapW]
    rw [Nat.pow_succ]
    simp only [List.length_cons, List.length_append, Tm.enc]
    have l1 : ∀ {L l : List (List Nat)} {k1 : Kd4}, (L = wrapW l ∨ (L = l ∧ (k1 = .part ∨ k1 = .row))) → L.length ≤ l.length + 2 := by
      rintro L l k1 (rfl | ⟨rfl, _⟩)
      · exact Nat.le_of_eq (e1 l)
      · omega
    have l2 := l1 hl
    rcases hr with ⟨rfl, _⟩ | ⟨rfl, _⟩ | ⟨rfl, _⟩
    · rw [e1]
      omega
    · omega
    · omega
theorem numOf_lt {fs sc : List Str} {n : Str} {k : Nat} (h : numOf fs sc n = some k) : k < sc.length + fs.length := by
  unfold numOf at h
  split at h
  · rename_i hm
    cases h
    have := List.idxOf_lt_length_of_mem (List.mem_reverse.mpr hm)
    rw [List.length_reverse] at this
    omega
  · split at h
    · rename_i hm
      cases h
      have := List.idxOf_lt_length_of_mem hm
      omega
    · cases h
theorem Mk.vars {fs sc D ws t kd} (h : Mk fs sc D ws t kd) : ∀ M, sc.length + fs.length + 3 * D ≤ M → t.vars M := by
  induction h with
  | name _ hk =>
    intro M hM
    have := numOf_lt hk
    simp only [List.length_map] at this
    show _ ≤ M
    omega
  | abs h1 h2 h3 h4 ih =>
    intro M hM
    exact Tm.vars_lamN (ih M (by rw [List.length_append]; omega))
  | app h1 h2 hl hr ih1 ih2 =>
    intro M hM
    exact ⟨ih1 M (by omega), ih2 M (by omega)⟩
/-- words one after the other -/
def runW (fs : List Str) : Lv → List Lv → List (List Nat) → Option (Lv × List Lv)
  | l, r, [] => some (l, r)
  | l, r, w :: ws => match stepT fs l r (pl w) with
    | none => none
    | some x => runW fs x.1 x.2 ws
theorem runW_cons {fs : List Str} {l l' : Lv} {r r' : List Lv} {w : List Nat} {ws : List (List Nat)} (h : stepT fs l r (pl w) = some (l', r')) : runW fs l r (w :: ws) = runW fs l' r' ws := by
  rw [runW, h]
theorem runW_app {fs : List Str} : ∀ {a b : List (List Nat)} {l l' : Lv} {r r' : List Lv}, runW fs l r a = some (l', r') → runW fs l r (a ++ b) = runW fs l' r' b
  | [], b, l, l', r, r', h => by
    cases h
    rfl
  | w :: a, b, l, l', r, r', h => by
    rw [runW] at h
    rw [List.cons_append, runW]
    cases e : stepT fs l r (pl w) with
    | none => rw [e] at h; cases h
    | some x =>
      rw [e] at h
      exact runW_app h
theorem nm_ne {w : List Nat} (h : IsNm w) : pl w ≠ "(" ∧ pl w ≠ "\\" ∧ pl w ≠ "." ∧ pl w ≠ ")" := by
  obtain ⟨c, ds, rfl, hc, _⟩ := h.ex
  have e1 : ("(" : Str) = pl [40] := by decide +kernel
  have e2 : ("\\" : Str) = pl [92] := by decide +kernel
  have e3 : ("." : Str) = pl [46] := by decide +kernel
  have e4 : (")" : Str) = pl [41] := by decide +kernel
  have key : ∀ d, isLow d = false → pl (c :: ds) ≠ pl [d] := fun d hd z => by
    have := pl_inj z
    cases this
    rw [hc] at hd
    cases hd
  rw [e1, e2, e3, e4]
  exact ⟨key 40 (by decide), key 92 (by decide), key 46 (by decide), key 41 (by decide)⟩
theorem step_nm {fs : List Str} {l : Lv} {r : List Lv} {w : List Nat} (h : IsNm w) (hl : l.nm = true) : stepT fs l r (pl w) = some ({ l with ns := l.ns ++ [pl w] }, r) := by
  obtain ⟨a, b, c, d⟩ := nm_ne h
  unfold stepT
  rw [if_neg (by simp [a, b]), if_neg c, if_neg d, if_pos hl]
theorem step_use {fs : List Str} {l : Lv} {r : List Lv} {w : List Nat} {k : Nat} (h : IsNm w) (hl : l.nm = false) (hk : numOf fs (scp (l :: r)) (pl w) = some k) : stepT fs l r (pl w) = some (l.add [V.int (k : Int)], r) := by
  obtain ⟨a, b, c, d⟩ := nm_ne h
  unfold stepT
  rw [if_neg (by simp [a, b]), if_neg c, if_neg d, if_neg (by rw [hl]; exact Bool.false_ne_true), hk]
theorem pl_lp : pl [40] = ("(" : Str) := by decide +kernel
theorem pl_bs : pl [92] = ("\\" : Str) := by decide +kernel
theorem pl_pd : pl [46] = ("." : Str) := by decide +kernel
theorem pl_rp : pl [41] = (")" : Str) := by decide +kernel
theorem step_lp {fs : List Str} {l : Lv} {r : List Lv} (hl : l.nm = false) (hr : r.length + 1 ≤ 60) : stepT fs l r (pl [40]) = some (Lv.new "(", l :: r) := by
  rw [pl_lp]
  unfold stepT
  rw [if_pos (.inl rfl), if_neg (by rw [hl]; simp; omega)]
theorem step_bs {fs : List Str} {l : Lv} {r : List Lv} (hl : l.nm = false) (hr : r.length + 1 ≤ 60) : stepT fs l r (pl [92]) = some (Lv.new "\\", l :: r) := by
  rw [pl_bs]
  unfold stepT
  rw [if_pos (.inr rfl), if_neg (by rw [hl]; simp; omega)]
theorem step_pd {fs : List Str} {l : Lv} {r : List Lv} (hl : l.nm = true) (hn : l.ns ≠ []) : stepT fs l r (pl [46]) = some ({ l with nm := false }, r) := by
  rw [pl_pd]
  unfold stepT
  rw [if_neg (by decide +kernel), if_pos rfl, if_neg (by rw [hl]; simp [hn])]
theorem step_rp {fs : List Str} {l p : Lv} {r r2 : List Lv} {c : Lv} (hl : l.whole = true) (hc : closeAbs l r = (c, p :: r2)) (ho : c.op = "(") : stepT fs l r (pl [41]) = some (p.add c.all, r2) := by
  rw [pl_rp]
  unfold stepT
  rw [if_neg (by decide +kernel), if_neg (by decide +kernel), if_pos rfl, if_neg (by rw [hl]; simp), hc, if_pos ho]
theorem run_names {fs : List Str} : ∀ {own : List (List Nat)} {l : Lv} {r : List Lv}, (∀ w ∈ own, IsNm w) → l.nm = true → runW fs l r own = some ({ l with ns := l.ns ++ own.map pl }, r)
  | [], l, r, _, _ => by simp [runW]
  | w :: own, l, r, h, hl => by
    rw [runW_cons (step_nm (h w List.mem_cons_self) hl), run_names (fun v hv => h v (List.mem_cons_of_mem _ hv)) (by exact hl)]
    simp
/-- what stands on a level, read: the nodes xs of n parts -/
def Ful (n : Nat) (xs : List V) (t : Tm) : Prop := 1 ≤ n ∧ List.replicate (n - 1) (V.str "app") ++ xs = t.enc
def Fresh (fs : List Str) (l : Lv) (r : List Lv) (ws : List (List Nat)) (t : Tm) : Prop := ∃ l' r' n xs, runW fs l r ws = some (l', r') ∧ l'.whole = true ∧ closeAbs l' r' = closeAbs { l with pt := n, nd := xs } r ∧ Ful n xs t
def Left (fs : List Str) (l : Lv) (r : List Lv) (ws : List (List Nat)) (t : Tm) : Prop := ∃ n xs, runW fs l r ws = some ({ l with pt := n, nd := xs }, r) ∧ Ful n xs t
def Add (fs : List Str) (l : Lv) (r : List Lv) (ws : List (List Nat)) (t : Tm) : Prop := runW fs l r ws = some (l.add t.enc, r)
def AddO (fs : List Str) (l : Lv) (r : List Lv) (ws : List (List Nat)) (t : Tm) : Prop := ∃ l' r', runW fs l r ws = some (l', r') ∧ l'.whole = true ∧ closeAbs l' r' = closeAbs (l.add t.enc) r
theorem whole_of {l : Lv} {n : Nat} {xs : List V} (hl : l.nm = false) (hn : 1 ≤ n) : ({ l with pt := n, nd := xs } : Lv).whole = true := by
  unfold Lv.whole
  simp only [hl, Bool.not_false, Bool.true_and]
  exact decide_eq_true hn
theorem wrapped {fs : List Str} {l : Lv} {r : List Lv} {ws : List (List Nat)} {t : Tm} (hl : l.nm = false) (hr : r.length + 1 ≤ 60) (h : Fresh fs (Lv.new "(") (l :: r) ws t) : Add fs l r (wrapW ws) t := by
  obtain ⟨l', r', n, xs, h1, h2, h3, h4, h5⟩ := h
  unfold Add wrapW
  rw [List.cons_append, runW_cons (step_lp hl hr), runW_app h1]
  have e : closeAbs { Lv.new "(" with pt := n, nd := xs } (l :: r) = ({ Lv.new "(" with pt := n, nd := xs }, l :: r) := by
    rw [closeAbs]
    exact if_neg (show ¬ ("(" : Str) = "\\" by decide +kernel)
  rw [e] at h3
  rw [runW_cons (step_rp h2 h3 rfl), runW]
  have ea : ({ Lv.new "(" with pt := n, nd := xs } : Lv).all = t.enc := by
    show List.replicate 0 (V.str "lam") ++ List.replicate (n - 1) (V.str "app") ++ xs = _
    rw [← h5]
    rfl
  rw [ea]
theorem add_left {fs : List Str} {l : Lv} {r : List Lv} {ws : List (List Nat)} {t : Tm} (hp : l.pt = 0) (hn : l.nd = []) (h : Add fs l r ws t) : Left fs l r ws t := by
  refine ⟨1, t.enc, ?_, Nat.le_refl 1, rfl⟩
  rw [h]
  unfold Lv.add
  rw [hp, hn]
  rfl
theorem left_fresh {fs : List Str} {l : Lv} {r : List Lv} {ws : List (List Nat)} {t : Tm} (hl : l.nm = false) (h : Left fs l r ws t) : Fresh fs l r ws t := by
  obtain ⟨n, xs, h1, h2⟩ := h
  exact ⟨_, _, n, xs, h1, whole_of hl h2.1, rfl, h2⟩
theorem addo_fresh {fs : List Str} {l : Lv} {r : List Lv} {ws : List (List Nat)} {t : Tm} (hp : l.pt = 0) (hn : l.nd = []) (h : AddO fs l r ws t) : Fresh fs l r ws t := by
  obtain ⟨l', r', h1, h2, h3⟩ := h
  refine ⟨l', r', 1, t.enc, h1, h2, ?_, Nat.le_refl 1, rfl⟩
  rw [h3]
  unfold Lv.add
  rw [hp, hn]
  rfl
theorem ful_app {n : Nat} {xs : List V} {f a : Tm} (h : Ful n xs f) : Ful (n + 1) (xs ++ a.enc) (.app f a) := by
  obtain ⟨h1, h2⟩ := h
  refine ⟨by omega, ?_⟩
  rw [Tm.enc, ← h2, show n + 1 - 1 = (n - 1) + 1 by omega, List.replicate_succ]
  simp
theorem Mk.read {fs sc D ws t kd} (h : Mk fs sc D ws t kd) : ∀ (l : Lv) (r : List Lv), l.nm = false → scp (l :: r) = sc.map pl → r.length + 1 + 2 * D ≤ 59 →
    (kd = .part → Add (fs.map pl) l r ws t) ∧ (kd = .abs → AddO (fs.map pl) l r ws t) ∧ (l.pt = 0 → l.nd = [] → (kd = .part ∨ kd = .row → Left (fs.map pl) l r ws t) ∧ Fresh (fs.map pl) l r ws t) := by
  induction h with
  | @name sc D w k hw hk =>
    intro l r hl hs hr
    have hA : Add (fs.map pl) l r [w] (.var k) := by
      unfold Add
      rw [runW_cons (step_use hw hl (by rw [hs]; exact hk)), runW]
      rfl
    refine ⟨fun _ => hA, (fun z => nomatch z), fun hp hn => ⟨fun _ => add_left hp hn hA, left_fresh hl (add_left hp hn hA)⟩⟩
  | @abs sc D own ws t kd h1 h2 h3 h4 ih =>
    intro l r hl hs hr
    have hO : AddO (fs.map pl) l r ([92] :: (own ++ [46] :: ws)) (Tm.lamN own.length t) := by
      obtain ⟨_, _, hf⟩ := ih ⟨"\\", false, own.map pl, 0, []⟩ (l :: r) rfl (by
        show scp (l :: r) ++ own.map pl = _
        rw [hs, List.map_append]) (by simp only [List.length_cons]; omega)
      obtain ⟨_, l', r', n, xs, g1, g2, g3, g4, g5⟩ := hf rfl rfl
      refine ⟨l', r', ?_, g2, ?_⟩
      · rw [runW_cons (step_bs hl (by omega)), runW_app (run_names h3 (by show decide (("\\" : Str) = "\\") = true; exact decide_eq_true rfl)), runW_cons (step_pd (by show decide (("\\" : Str) = "\\") = true; exact decide_eq_true rfl) (by
          show [] ++ own.map pl ≠ []
          simpa using h1))]
        exact g1
      · rw [g3, closeAbs, if_pos rfl]
        have ea : ({ op := "\\", nm := false, ns := own.map pl, pt := n, nd := xs } : Lv).all = (Tm.lamN own.length t).enc := by
          show List.replicate (own.map pl).length (V.str "lam") ++ List.replicate (n - 1) (V.str "app") ++ xs = _
          rw [Tm.enc_lamN, ← g5, List.length_map, List.flatten_replicate_singleton, List.append_assoc]
        rw [ea]
    exact ⟨(fun z => nomatch z), fun _ => hO, fun hp hn => ⟨fun z => (by rcases z with z | z <;> cases z), addo_fresh hp hn hO⟩⟩
  | @app sc D l0 r0 L R f a k1 k2 kd h1 h2 hL hR ih1 ih2 =>
    intro l r hl hs hr
    have hlen : ∀ x : Lv, (x :: r).length + 1 + 2 * D ≤ 59 := fun x => by simp only [List.length_cons]; omega
    have hleft : l.pt = 0 → l.nd = [] → Left (fs.map pl) l r L f := by
      intro hp hn
      rcases hL with rfl | ⟨rfl, hk⟩
      · refine add_left hp hn (wrapped hl (by omega) ?_)
        have hs2 : scp (Lv.new "(" :: l :: r) = sc.map pl := by
          show scp (l :: r) ++ [] = _
          rw [List.append_nil, hs]
        exact ((ih1 (Lv.new "(") (l :: r) (by decide +kernel) hs2 (hlen l)).2.2 rfl rfl).2
      · exact ((ih1 l r hl hs (by omega)).2.2 hp hn).1 hk
    have hrest : ∀ n xs, (kd = .row → Add (fs.map pl) { l with pt := n, nd := xs } r R a) ∧ (kd = .opn → AddO (fs.map pl) { l with pt := n, nd := xs } r R a) := by
      intro n xs
      have hs3 : scp ({ l with pt := n, nd := xs } :: r) = sc.map pl := hs
      rcases hR with ⟨rfl, rfl⟩ | ⟨rfl, rfl, rfl⟩ | ⟨rfl, rfl, rfl⟩
      · refine ⟨fun _ => wrapped hl (by omega) ?_, (fun z => nomatch z)⟩
        have hs2 : scp (Lv.new "(" :: { l with pt := n, nd := xs } :: r) = sc.map pl := by
          show scp ({ l with pt := n, nd := xs } :: r) ++ [] = _
          rw [List.append_nil, hs3]
        exact ((ih2 (Lv.new "(") ({ l with pt := n, nd := xs } :: r) (by decide +kernel) hs2 (hlen _)).2.2 rfl rfl).2
      · exact ⟨fun _ => (ih2 { l with pt := n, nd := xs } r hl hs3 (by omega)).1 rfl, (fun z => nomatch z)⟩
      · exact ⟨(fun z => nomatch z), fun _ => (ih2 { l with pt := n, nd := xs } r hl hs3 (by omega)).2.1 rfl⟩
    have hkd : kd = .row ∨ kd = .opn := by
      rcases hR with ⟨_, rfl⟩ | ⟨_, _, rfl⟩ | ⟨_, _, rfl⟩
      · exact .inl rfl
      · exact .inl rfl
      · exact .inr rfl
    refine ⟨fun z => ?_, fun z => ?_, fun hp hn => ?_⟩
    · rcases hkd with e | e <;> rw [e] at z <;> cases z
    · rcases hkd with e | e <;> rw [e] at z <;> cases z
    · obtain ⟨n, xs, g1, g2⟩ := hleft hp hn
      obtain ⟨q1, q2⟩ := hrest n xs
      rcases hkd with rfl | rfl
      · have hq := q1 rfl
        have hLf : Left (fs.map pl) l r (L ++ R) (.app f a) := by
          refine ⟨n + 1, xs ++ a.enc, ?_, ful_app g2⟩
          rw [runW_app g1]
          exact hq
        exact ⟨fun _ => hLf, left_fresh hl hLf⟩
      · obtain ⟨l', r', p1, p2, p3⟩ := q2 rfl
        refine ⟨fun z => (by rcases z with z | z <;> cases z), l', r', n + 1, xs ++ a.enc, ?_, p2, p3, ful_app g2⟩
        rw [runW_app g1]
        exact p1
/-- the whole, with parentheses around it or without -/
theorem Mk.whole {fs D ws t kd} (h : Mk fs [] D ws t kd) (hD : D ≤ 20) : (∃ l r, runW (fs.map pl) (Lv.new "") [] ws = some (l, r) ∧ finT l r = some t.enc) ∧ (∃ l r, runW (fs.map pl) (Lv.new "") [] (wrapW ws) = some (l, r) ∧ finT l r = some t.enc) := by
  have e0 : (Lv.new "").nm = false := by decide +kernel
  constructor
  · obtain ⟨l', r', n, xs, g1, g2, g3, g4, g5⟩ := ((h.read (Lv.new "") [] e0 rfl (by simp only [List.length_nil]; omega)).2.2 rfl rfl).2
    refine ⟨l', r', g1, ?_⟩
    unfold finT
    rw [if_neg (by rw [g2]; simp), g3]
    show some ({ Lv.new "" with pt := n, nd := xs } : Lv).all = _
    have ea : ({ Lv.new "" with pt := n, nd := xs } : Lv).all = t.enc := by
      show List.replicate 0 (V.str "lam") ++ List.replicate (n - 1) (V.str "app") ++ xs = _
      rw [← g5]
      rfl
    rw [ea]
  · have hf := ((h.read (Lv.new "(") [Lv.new ""] (by decide +kernel) rfl (by simp only [List.length_cons, List.length_nil]; omega)).2.2 rfl rfl).2
    have ha := wrapped e0 (by simp) hf
    refine ⟨_, _, ha, ?_⟩
    unfold finT
    rw [if_neg (by
      show ¬ (({ Lv.new "" with pt := 1, nd := t.enc } : Lv).whole = false)
      rw [whole_of e0 (Nat.le_refl 1)]
      simp)]
    show some ((Lv.new "").add t.enc).all = _
    rfl
def IsTok (w : List Nat) : Prop := IsNm w ∨ w = [40] ∨ w = [41] ∨ w = [92] ∨ w = [46]
theorem Mk.toks {fs sc D ws t kd} (h : Mk fs sc D ws t kd) : ∀ w ∈ ws, IsTok w := by
  have wr : ∀ {l : List (List Nat)}, (∀ w ∈ l, IsTok w) → ∀ w ∈ wrapW l, IsTok w := by
    intro l hl w hw
    simp only [wrapW, List.cons_append, List.mem_cons, List.mem_append, List.not_mem_nil, or_false] at hw
    rcases hw with rfl | hw | rfl
    · exact .inr (.inl rfl)
    · exact hl w hw
    · exact .inr (.inr (.inl rfl))
  induction h with
  | name hn _ =>
    intro w hw
    rw [List.mem_singleton.mp hw]
    exact .inl hn
  | abs h1 h2 h3 h4 ih =>
    intro w hw
    simp only [List.mem_cons, List.mem_append] at hw
    rcases hw with rfl | hw | rfl | hw
    · exact .inr (.inr (.inr (.inl rfl)))
    · exact .inl (h3 w hw)
    · exact .inr (.inr (.inr (.inr rfl)))
    · exact ih w hw
  | app h1 h2 hl hr ih1 ih2 =>
    intro w hw
    rcases List.mem_append.mp hw with hw | hw
    · rcases hl with rfl | ⟨rfl, _⟩
      · exact wr ih1 w hw
      · exact ih1 w hw
    · rcases hr with ⟨rfl, _⟩ | ⟨rfl, _⟩ | ⟨rfl, _⟩
      · exact wr ih2 w hw
      · exact ih2 w hw
      · exact ih2 w hw
end Ly
set_option Elab.async false
set_option linter.all false
set_option maxRecDepth 100000
namespace Ly
open PySem PySem.Spec PyProof.Rows L2 Evl
def Tm.apps : Tm → List Tm → Tm
  | h, [] => h
  | h, t :: ts => Tm.apps (.app h t) ts
theorem rep_snoc {α : Type} (n : Nat) (x : α) (r : List α) : List.replicate n x ++ x :: r = List.replicate (n + 1) x ++ r := by
  induction n with
  | zero => rfl
  | succ n ih =>
    rw [List.replicate_succ, List.cons_append, ih]
    simp [List.replicate_succ]
theorem Tm.apps_enc : ∀ (ts : List Tm) (h : Tm), (Tm.apps h ts).enc = List.replicate ts.length (V.str "app") ++ (h.enc ++ encs ts)
  | [], h => by simp [Tm.apps, encs]
  | t :: ts, h => by
    show (Tm.apps (.app h t) ts).enc = _
    rw [Tm.apps_enc ts, encs_cons]
    show List.replicate ts.length (V.str "app") ++ (V.str "app" :: (h.enc ++ t.enc) ++ encs ts) = _
    rw [List.cons_append, rep_snoc]
    simp
theorem rep_flat {x : V} : ∀ n : Nat, (List.replicate n [x]).flatten = List.replicate n x
  | 0 => rfl
  | n + 1 => by rw [List.replicate_succ, List.flatten_cons, rep_flat n, List.replicate_succ]; rfl
theorem Tm.lam_enc (n : Nat) (t : Tm) : (Tm.lamN n t).enc = List.replicate n (V.str "lam") ++ t.enc := by rw [Tm.enc_lamN, rep_flat]
section
variable {K : PySem.W.Frag} {H : Hp} {Q : VK} {l : Addr} {xs : List V}
end
end Ly
set_option Elab.async false
set_option linter.all false
set_option maxRecDepth 100000
namespace Ly
open PySem PySem.Spec PyProof.Rows L2 Evl
/-- n abstractions around the head h applied to the terms as -/
def SpineOf (t : Tm) (n : Nat) (h : Tm) (as : List Tm) : Prop := t = Tm.lamN n (Tm.apps h as) ∧ (∀ f a, h ≠ .app f a) ∧ (as = [] → ∀ b, h ≠ .lam b)
section
variable {t h : Tm} {n : Nat} {as : List Tm}
theorem SpineOf.enc (s : SpineOf t n h as) : t.enc = List.replicate n (V.str "lam") ++ (List.replicate as.length (V.str "app") ++ (h.enc ++ encs as)) := by
  rw [s.1, Tm.lam_enc, Tm.apps_enc]
theorem SpineOf.len (s : SpineOf t n h as) : t.enc.length = n + as.length + h.enc.length + (encs as).length := by
  rw [s.enc]
  simp
  omega
theorem SpineOf.at1 (s : SpineOf t n h as) {j : Nat} (hj : j < n) : t.enc[j]? = some (.str "lam") := by
  rw [s.enc, List.getElem?_append_left (by simpa using hj), List.getElem?_replicate, if_pos hj]
theorem SpineOf.drop (s : SpineOf t n h as) : t.enc.drop (n + as.length) = h.enc ++ encs as := by
  rw [s.enc, ← List.append_assoc]
  have e : n + as.length = (List.replicate n (V.str "lam") ++ List.replicate as.length (V.str "app")).length := by simp
  rw [e, List.drop_left]
end
section
variable {K : PySem.W.Frag} {H : Hp} {Q : VK} {p q l m : Addr} {n v : Int} {bs cs : List Addr} {as : List Tm}
end
end Ly
set_option Elab.async false
set_option linter.all false
set_option maxRecDepth 100000
set_option maxHeartbeats 2000000
namespace Ly
open PySem PySem.Spec PyProof.Rows L2 Evl
/-- the place of the head redex -/
def Tm.hd : Tm → Option (List Nat)
  | .var _ => none
  | .lam b => (Tm.hd b).map (98 :: ·)
  | .app f _ => if f.isLam = true then some [] else (Tm.hd f).map (102 :: ·)
section
variable {t h : Tm} {n : Nat} {as : List Tm}
end
/-- what steps at the head redex come to -/
def Tm.hf : Nat → Tm → Nat × Wk
  | 0, t => (0, match t.hd with | none => .done t | _ => .out)
  | k + 1, t => match t.hd with
    | none => (0, .done t)
    | some p => if fitsV (t.step p).enc = false then (1, .large) else ((Tm.hf k (t.step p)).1 + 1, (Tm.hf k (t.step p)).2)
end Ly
set_option Elab.async false
set_option linter.all false
namespace Ly
open PySem PySem.Spec PyProof.Rows L2 Evl
section
variable {X : Cx} {K : PySem.W.Frag}
end
end Ly
set_option Elab.async false
set_option linter.all false
set_option maxRecDepth 100000
set_option maxHeartbeats 2000000
namespace Ly
open PySem PySem.Spec PyProof.Rows L2 Evl
/-- a tuple that stands frozen: its object bears no dict -/
def SqX (H : Hp) (a : Addr) (xs : List V) : Prop := ∃ ob : Obj, H a = some (.frz ob (.tup xs)) ∧ ob.cls = .type "tuple" ∧ ob.dict = none
section
variable {K : PySem.W.Frag} {H H' : Hp} {a b s p : Addr} {xs ys : List V}
theorem SqX.t (h : SqX H a xs) : SqT K H a xs := by
  obtain ⟨ob, h, _⟩ := h
  exact .inl (.inr ⟨ob, h⟩)
theorem SqX.ex (h : SqX H a xs) (e : Ex H H') : SqX H' a xs := by
  obtain ⟨ob, h, c⟩ := h
  exact ⟨ob, e a _ h, c⟩
theorem SqX.fr (h : SqX H a xs) (e : Fr s H H') (hs : H s = some (.lst ys)) : SqX H' a xs := by
  obtain ⟨ob, h, c⟩ := h
  exact ⟨ob, e a _ (fun z => by rw [z, hs] at h; cases h) h, c⟩
theorem SqX.new {o : HO} (h : SqX H a xs) (hp : H p = none) : SqX (upd H p o) a xs := h.ex (Ex.new hp)
end
section
variable {X : Cx}
/-- t + u, the new tuple frozen -/
def rCatF (K : PySem.W.Frag) : R2 := fun x y H Q => ∃ a b xs ys, x = .ref a ∧ y = .ref b ∧ SqT K H a xs ∧ SqT K H b ys ∧ xs.length + ys.length ≤ sizeLine ∧
  (xs = [] → Q (.ref b) H) ∧ (xs ≠ [] → ys = [] → Q (.ref a) H) ∧ (xs ≠ [] → ys ≠ [] → ∀ p ob, H p = none → ob.cls = .type "tuple" → ob.dict = none → Q (.ref p) (upd H p (.frz ob (.tup (xs ++ ys)))))
theorem op_catF : OpR X (binaryOp .Add) (rCatF X.K) := by
  intro pins s σ H x y v u Q I rx ry h
  obtain ⟨a, b, xs, ys, rfl, rfl, ha, hb, hz, q0, q1, q2⟩ := h
  by_cases hx : xs = []
  · subst hx
    cases rx
    cases ry
    obtain ⟨its, r1, p1, _⟩ := I.tuple ha
    obtain ⟨its2, r2, p2, _⟩ := I.tuple hb
    cases r1
    exact cat_tup0 p1 p2 ⟨.ref b, H, I, rfl, q0 rfl⟩
  · cases rx
    cases ry
    obtain ⟨its, r1, p1, _⟩ := I.tuple ha
    obtain ⟨its2, r2, p2, _⟩ := I.tuple hb
    refine HT.cat_tup p1 p2 (fun z => hx (r1.nil_iff.mp z)) (fun z => ⟨.ref a, H, I, rfl, q1 hx (r2.nil_iff.mp z)⟩) (fun z => ?_) (by rw [← r1.length, ← r2.length]; exact hz)
    refine ⟨.ref s.heap.objs.size, _, I.laid (t' := s.toks) (o := .frz { cls := .type "tuple", data := .seq (its ++ its2).toArray } (.tup (xs ++ ys))) (fun b ob q => Heap.get?_push_of_some _ q) (Nat.le_refl _) ?_, rfl, q2 hx (fun w => z (r2.nil_iff.mpr w)) _ _ (I.hok.fresh (Nat.le_refl _)) rfl rfl⟩
    exact ⟨Heap.get?_push_at rfl rfl, by rw [List.length_append]; exact hz, _, r1.append r2, IsTup.new _ _⟩
/-- tuple(xs), frozen -/
def rTupF (K : PySem.W.Frag) : List V → Hp → VK → Prop := fun xs H Q => ∃ p ys, xs = [.ref p] ∧ SqL K H p ys ∧ ∀ l ob, H l = none → ob.cls = .type "tuple" → ob.dict = none → Q (.ref l) (upd H l (.frz ob (.tup ys)))
theorem call_tupleF : CallR X (.type "tuple") (rTupF X.K) := by
  intro pins s σ H xs us Q I r h
  obtain ⟨p, ys, rfl, hq, q⟩ := h
  obtain ⟨u, rfl, rx⟩ := vals1 r
  cases rx
  obtain ⟨its, r', pl, hz⟩ := I.list hq
  have hlen := r'.length
  refine call_tuple_list pl.isList (fun h' kp => ?_) (by simp only [List.size_toArray] <;> omega)
  have I1 : Inv X pins σ H { s with heap := h' } := I.kept (t' := s.toks) kp
  have I2 : Inv X pins σ (upd H h'.objs.size (.frz { cls := .type "tuple", data := .seq its.toArray } (.tup ys))) { s with heap := h'.push { cls := .type "tuple", data := .seq its.toArray } } :=
    I1.laid (t' := s.toks) (fun b o e => Heap.get?_push_of_some _ e) (Nat.le_refl _) ⟨Heap.get?_push_at rfl rfl, hz, its, r', IsTup.new _ _⟩
  exact ⟨.ref h'.objs.size, _, I2, rfl, q _ _ (I1.hok.fresh (Nat.le_refl _)) rfl rfl⟩
/-- t.count(k), a text, among numbers and texts -/
def rTCnt (K : PySem.W.Frag) : V → List V → Hp → VK → Prop := fun x xs H Q => ∃ (p : Addr) (ys : List V) (k : Str), x = .ref p ∧ xs = [.str k] ∧ SqT K H p ys ∧ (∀ y ∈ ys, (∃ i, y = .int i) ∨ ∃ z, y = .str z) ∧ Q (.int ((ys.countP (fun y => decide (y = .str k)) : Nat) : Int)) H
def eqS (k : Str) (v : Value) : Bool := match v with
  | .str n _ => n == k
  | _ => false
theorem eqS_count {k : Str} : ∀ {ys : List V} {us : List Value}, Vals ys us → (∀ y ∈ ys, (∃ i, y = .int i) ∨ ∃ z, y = .str z) → us.countP (eqS k) = ys.countP (fun y => decide (y = .str k))
  | _, _, .nil, _ => rfl
  | y :: ys, u :: us, .cons r t, h => by
    have ih := eqS_count (k := k) t fun y hy => h y (List.mem_cons_of_mem _ hy)
    rw [List.countP_cons, List.countP_cons, ih]
    rcases h y List.mem_cons_self with ⟨i, rfl⟩ | ⟨z, rfl⟩
    · obtain ⟨tk, rfl⟩ := r
      rfl
    · obtain ⟨tk, rfl⟩ := r
      by_cases e : z = k
      · subst e
        simp [eqS]
      · have e1 : (z == k) = false := beq_eq_false_iff_ne.mpr e
        simp [eqS, e]
theorem eqS_at {k : Str} {tk : Tok} {A : Around} {s : Shared} : ∀ {ys : List V} {us : List Value}, Vals ys us → (∀ y ∈ ys, (∃ i, y = .int i) ∨ ∃ z, y = .str z) → ∀ u ∈ us, SeqAt.EqAt A s u (.str k tk) (eqS k u)
  | _, _, .nil, _ => fun u hu => by cases hu
  | y :: ys, u :: us, .cons r t, h => fun v hv => by
    rcases List.mem_cons.mp hv with e | e
    · rw [e]
      rcases h y List.mem_cons_self with ⟨i, rfl⟩ | ⟨z, rfl⟩
      · obtain ⟨tk, rfl⟩ := r
        exact SeqAt.EqAt.int_str _ _ _ _
      · obtain ⟨tk, rfl⟩ := r
        exact SeqAt.EqAt.str_str _ _ _ _
    · exact eqS_at t (fun y hy => h y (List.mem_cons_of_mem _ hy)) v e
theorem mt_tcount : MtR X "tuple.count" (rTCnt X.K) := by
  intro pins s σ H x xs v us Q I rx rxs h
  obtain ⟨p, ys, k, rfl, rfl, hs, hn, q⟩ := h
  cases rx
  obtain ⟨u, rfl, ru⟩ := rxs.one
  obtain ⟨t, rfl⟩ := ru
  obtain ⟨its, rv, ⟨⟨cls, dd, data, sl⟩, ho, hc, n, hd⟩, hlen⟩ := I.tuple hs
  simp only at hc hd
  subst hc hd
  refine call_meets PySem.F.slot_tuple_count ⟨_, ho, rfl⟩ PySem.F.entry_tuple_count (PySem.F.args_tuple_count_2 _ _)
    (SeqAt.tuple_countAt p its.toArray n dd sl (.str k t) (eqS k)) ⟨ho, fun y hy => eqS_at rv hn y (by simpa using hy), ?_⟩
  have ec := eqS_count (k := k) rv hn
  refine ⟨.int ((ys.countP (fun y => decide (y = .str k)) : Nat) : Int), H, I.tok _, ⟨s.toks, ?_⟩, q⟩
  show Value.int ((its.toArray.toList.countP (eqS k) : Nat) : Int) s.toks = Value.int _ s.toks
  rw [show its.toArray.toList = its from rfl, ec]
/-- o.m(e ..), o a frozen tuple -/
def tBMX (r : V → List V → Hp → VK → Prop) (to : TE) (t : TA) : TE := fun σ H Q => to σ H fun x H1 => (∃ p xs, x = .ref p ∧ SqX H1 p xs) ∧ t σ H1 fun xs H2 => r x xs H2 Q
variable {o e : Expr} {es : List Expr} {to : TE} {t : TA} {name : Str} {apos cpos : Pos} {id : String} {r : V → List V → Hp → VK → Prop}
theorem pe_bmX (pa : PlainAttrs "tuple") (slot : Slot "tuple" name id) (hty : typeOf (.builtin id) = pure (.type "method_descriptor")) (hm : MtR X id r) (ho : PE X o to) (ha : PA X (e :: es) t)
    (hbase : attributeBase o name X.env (eval o X.env) = eval o X.env := by rfl)
    (hfew : ((backTo cpos (starEach (e :: es) X.env)).all (fun x => !x.1) && (backToKw cpos (keywordEach [] X.env)).all (fun x => x.1.isSome)
      && decide ((e :: es).length + ([] : List Keyword).length + (if ([] : List Keyword).isEmpty then 0 else 1) < 30)) = true := by rfl)
    (hline : (apos.endLine == cpos.line) = true := by rfl) (hs : starEach (e :: es) X.env = (false, eval e X.env) :: starEach es X.env := by rfl) (hplain : (backTo cpos (starEach es X.env)).any (·.1) = false := by rfl) :
    PE X (.Call (.Attribute o name apos) (e :: es) [] cpos) (tBMX r to t) := by
  refine ⟨fun pins s σ H Q I h => ?_⟩
  refine wpAny_Call_method_late hbase hfew hline rfl (thn (ho.run pins s σ H _ I h) fun v s1 ⟨x, H1, I1, r1, ⟨p, xs, ex, ob, hp, hc, hd⟩, q1⟩ => ?_)
  subst ex
  obtain rfl : v = Value.ref p := r1
  have hob : s1.heap.get? p = some ob := (I1.hok p _ hp).1
  refine ⟨"tuple", id, pa, slot, hty, ⟨ob, hob, hc⟩, fun a e => ?_, ?_⟩
  · cases e
    exact ⟨ob, hob, hd⟩
  have hA := ha.run cpos pins s1 σ H1 _ I1 q1
  rw [hs] at hA ⊢
  refine Calls.callWith_builtin (by show (false || (backTo cpos (starEach es X.env)).any (·.1)) = false; rw [hplain] <;> rfl) (Calls.evalArgs_plain ?_)
  exact thn hA fun us s2 ⟨vs, H2, I2, r2, q2⟩ => hm pins s2 σ H2 (.ref p) vs (.ref p) us Q I2 rfl r2 q2
end
section
variable {K : PySem.W.Frag} {σ : L2.St} {H : Hp} {Q : VK} {to : TE} {tA : TA} {a b : Addr} {xs ys : List V}
theorem w_bmX {r : V → List V → Hp → VK → Prop} (h : to σ H fun x H1 => (∃ p xs, x = .ref p ∧ SqX H1 p xs) ∧ tA σ H1 fun xs H2 => r x xs H2 Q) : tBMX r to tA σ H Q := h
theorem w_bmX1 {B : Prop} (h : SqX H a xs) (q : B) : (∃ p ys, V.ref a = .ref p ∧ SqX H p ys) ∧ B := ⟨⟨a, xs, rfl, h⟩, q⟩
theorem w_tcnt {k : Str} (h : SqT K H a xs) (n : Nds xs) (q : Q (.int ((xs.countP (fun y => decide (y = .str k)) : Nat) : Int)) H) : rTCnt K (.ref a) [.str k] H Q :=
  ⟨a, xs, k, rfl, rfl, h, fun y hy => by
    rcases n y hy with h | h | h
    · exact .inl h
    · exact .inr ⟨_, h⟩
    · exact .inr ⟨_, h⟩, q⟩
theorem w_catF (h : SqT K H a xs) (h2 : SqT K H b ys) (nx : xs ≠ []) (ny : ys ≠ []) (z : xs.length + ys.length ≤ sizeLine) (q : ∀ p H', Ex H H' → SqX H' p (xs ++ ys) → Q (.ref p) H') : rCatF K (.ref a) (.ref b) H Q :=
  ⟨a, b, xs, ys, rfl, rfl, h, h2, z, fun e => (nx e).elim, fun _ e => (ny e).elim, fun _ _ p ob hp c d => q p _ (Ex.new hp) ⟨ob, upd_same, c, d⟩⟩
theorem w_catFX (h : SqX H a xs) (h2 : SqT K H b ys) (nx : xs ≠ []) (z : xs.length + ys.length ≤ sizeLine) (q : ∀ p H', Ex H H' → SqX H' p (xs ++ ys) → Q (.ref p) H') : rCatF K (.ref a) (.ref b) H Q :=
  ⟨a, b, xs, ys, rfl, rfl, h.t, h2, z, fun e => (nx e).elim, fun _ e => q a H (Ex.refl H) (by rw [e, List.append_nil]; exact h), fun _ _ p ob hp c d => q p _ (Ex.new hp) ⟨ob, upd_same, c, d⟩⟩
theorem w_tupF (h : SqL K H a xs) (q : ∀ p H', Ex H H' → H p = none → SqX H' p xs → Q (.ref p) H') : rTupF K [.ref a] H Q := ⟨a, xs, rfl, h, fun l ob hl c d => q l _ (Ex.new hl) hl ⟨ob, upd_same, c, d⟩⟩
end
end Ly
set_option Elab.async false
set_option linter.all false
set_option maxRecDepth 100000
set_option maxHeartbeats 2000000
namespace Ly
open PySem PySem.Spec PyProof.Rows L2 Evl
/-- what the element says of a sign c, while the module's names are as mg has them -/
def EltM (pr : Program) (w : World) (sc : Scope) (x : Str) (el : Expr) (mg : Str → Option Value) (pb : Nat → Bool) : Prop :=
  ∀ (e : Env) (A : Around) (X : Value → Shared → Prop) (c : Nat) (t : Tok) (z : Shared) (m : Str → Option Value), e.scope = sc → e.globals = mainGlobals →
    z.heap.Ns mainGlobals mg → z.heap.Ns e.locals m → m x = some (.str ⟨#[c]⟩ t) → wpAny (model pr w) A (eval el e) (fun y z' => y = .bool (pb c) ∧ Keeps z z') X z
theorem eltM_in {pr : Program} {w : World} {sc : Scope} {x nm : Str} {mg : Str → Option Value} {d : Str} {u : Tok} {q1 q2 q3 : Pos} (kd : sc.kind = .function) (lx : sc.names.lookup x = some .local)
    (ln : sc.names.lookup nm = some .globalImplicit) (hm : mg nm = some (.str d u)) (d1 : (x == ("__debug__" : Str)) = false := by decide) (d2 : (nm == ("__debug__" : Str)) = false := by decide) :
    EltM pr w sc x (.Compare (.Name x q1) [.In] [.Name nm q2] q3) mg (fun c => decide (c ∈ d.cps.toList)) := by
  intro e A X c t z m es eg hG hL hx
  apply wpAny_Compare1 (hm := by rfl)
  apply wpAny_Name _ d1
  apply wpAny_loadName_local (by rw [es]; exact kd) (show e.scope.names.lookup x = some .local by rw [es]; exact lx) hL hx
  apply Calls.Name_function_global (by rw [es]; exact kd) (show e.scope.names.lookup nm = _ by rw [es]; exact ln) _ d2
  apply Calls.loadGlobal_global (by rw [eg]; exact hG) hm
  apply PyProof.Rows.in_str
  exact ⟨congrArg Value.bool (PySem.StrLaws.found_one d c), ⟨z.heap, _, rfl, fun _ _ h => h⟩⟩
section
open GxR
variable {X : Cx} {pins : List (Addr × Obj)} {σ : L2.St} {H : Hp} {s : Shared}
/-- behind the walk: the def's table may have grown -/
def GoneBy (X : Cx) (pins : List (Addr × Obj)) (σ : L2.St) (H1 : Hp) (P : Addr) (a : Str) (pb : Nat → Bool) (g : Addr) (z : Shared) : Prop := Ready X pins σ H1 P a pb g z
theorem gen_textM {c P : Addr} {el it : Expr} {x : Str} {px gp : Pos} {sc : Scope} {pb : Nat → Bool} {te : TE} {k : Nat} {Fin : Value → Shared → Prop} {R : Str → Hp → Prop}
    (room : Room k X.A) (TB : TabB X.base X.mg c P) (hc : X.env.code = .ref c) (S : GenS X.env sc x) (hi : PE X it te) (hel : EltM X.prog X.w sc x el X.mg pb) (fold : ∀ v, genFold it X.env v = pure v)
    (I : Inv X pins σ H s) (walk : te σ H fun v H1 => ∃ a : Str, v = .str a ∧ TabG H1 P ∧ R a H1) (fin : ∀ a H1 g z, R a H1 → GoneBy X pins σ H1 P a pb g z → Fin (.ref g) z) :
    wpAny (model X.prog X.w) X.A (eval (.GeneratorExp el [⟨.Name x px, it, [], 0⟩] sc gp) X.env) Fin X.xe s := by
  have dp : X.A.depth < recursionLimit := by have := room.dp; omega
  apply wpAny_GeneratorExp_walksQ room.hd S.co (closure_ok S.free) S.cell S.dot S.loc S.kind dp _ fold
  refine thn (hi.run pins s σ H _ I walk) ?_
  rintro v zA ⟨_, HA, IA, rel, a, rfl, ⟨ps, tabH, trip⟩, hR⟩
  obtain ⟨tok, rfl⟩ : ∃ tok, v = Value.str a tok := rel
  apply wpAny_pyIter_str
  intro ob Sg walks start
  have tabA : zA.heap.get? P = some { cls := .none, data := .fields ps } := IA.hok P _ tabH
  have ltP : P < zA.heap.objs.size := Heap.lt_size tabA
  have keepB : ∀ {b : Addr} {u : Obj}, zA.heap.get? b = some u → (zA.heap.push ob).get? b = some u := fun e => Heap.get?_push_of_some _ e
  have szB : (zA.heap.push ob).objs.size = zA.heap.objs.size + 1 := Heap.size_push ..
  have head : PySem.W.CodeHd (zA.heap.push ob) c P := TB.code.keeps fun b u e => keepB (IA.bk b u e)
  have nol := IA.nolimit.push ob
  obtain ⟨mcs, nsS, _⟩ := IA.nolimit
  have csP : cStatics ≠ P := fun z => by
    obtain ⟨oS, eS, pS, atS, dS, _⟩ := nsS
    rw [z, tabA] at atS
    cases atS
    cases dS
  have csLt : cStatics < zA.heap.objs.size := nsS.lt
  have nsG : zA.heap.Ns mainGlobals X.mg := IA.mod.glob.keeps IA.bk
  have mgLt : mainGlobals < zA.heap.objs.size := nsG.lt
  obtain ⟨bm, bo, b1, b2, b3, b4, b5, b6, b7, b8⟩ := TB.bm
  -- whatever code object it gets: the table at P may grow, nothing else changes
  suffices rest : ∀ (code : Value) (hC : Heap) (tk : Nat) (qs : Array Value), Heap.ExtBut P (zA.heap.push ob) hC → (zA.heap.push ob).objs.size ≤ hC.objs.size →
      hC.get? P = some { cls := .none, data := .fields (ps ++ qs) } → TriplesOk (ps ++ qs).toList →
      wpAny (model X.prog X.w) X.A (builtinsFor X.env.globals X.env.builtins) _ X.xe { zA with heap := hC, toks := tk } by
    refine ⟨nol, ?_⟩
    have tabB := keepB tabA
    cases found : codeAmong gp ps.toList with
    | some cv =>
      apply wpAny_genexprCode_hit hc (head.code tabB trip) found
      have := rest cv (zA.heap.push ob) zA.toks #[] (Heap.ExtBut.refl _ _) (Nat.le_refl _) (by simpa using tabB) (by simpa using trip)
      exact this
    | none =>
      apply wpAny_genexprCodeX hc (head.code tabB trip) (head.tab tabB) found
      intro c9 hC tk ext ge lt co _ tab _
      obtain ⟨_, _, _, _, _, _, _, _, _, _, _, _, _, _, _, _, _, _, _, tr, _⟩ := co
      exact rest _ hC tk _ ext (Nat.le_trans ge (Nat.le_of_lt lt)) tab.2 tr
  intro code hC tk qs ext szC tabC tripC
  have keepC : ∀ {b : Addr} {u : Obj}, b ≠ P → zA.heap.get? b = some u → hC.get? b = some u := fun n e => ext _ _ n (keepB e)
  have nsC : hC.Ns mainGlobals X.mg := (nsG.push ob).extBut ext TB.gP
  apply wpAny_builtinsFor (m := X.mg) (by rw [IA.ok.glob]; exact nsC) b1 b2 (keepC b4 (IA.bk _ _ b5)) b6 b7 b8
  have only : ∀ {b : Addr}, b ∈ [zA.heap.objs.size] → b = zA.heap.objs.size := fun hb => List.mem_singleton.mp hb
  refine ⟨zA.heap.objs.size, [zA.heap.objs.size], [zA.heap.objs.size], a.cps.size, SignAt a, Sg, fun _ => true, fun j y => ∃ n, a.cps[j]? = some n ∧ y = .bool (pb n), rfl, walks, ?_, ?_, nol.extBut ext csP, fun hb => ?_, ?_, ?_⟩
  · apply (walks X.A room.hd).frame _ _ _ start
    intro b hb u e
    exact ext b u (by rw [only hb]; exact (Nat.ne_of_lt ltP).symm) e
  · intro b hb
    rw [only hb]
    show zA.heap.objs.size < hC.objs.size
    omega
  · rw [only hb] at csLt
    exact Nat.lt_irrefl _ csLt
  · intro hr keepR
    constructor
    · intro A' E' i v z m _ _ _ _ _
      rw [List.forIn_nil]
      exact wpAny_pure ⟨rfl, ⟨z.heap, z.toks, rfl, fun _ _ h => h⟩⟩
    · intro A' E' i v z m _ at_ _ hL hx same
      obtain ⟨n, u, hn, rfl⟩ := at_
      have nsZ : z.heap.Ns mainGlobals X.mg := by
        obtain ⟨og, es, ep, eg, dg, rg⟩ := nsC
        refine ⟨og, es, ep, same mainGlobals (List.mem_range.mpr (Nat.lt_of_lt_of_le (show mainGlobals < (zA.heap.push ob).objs.size by rw [szB]; exact Nat.lt_succ_of_lt mgLt) szC)) (fun hb => ?_) og (keepR _ _ eg), dg, rg⟩
        rw [only hb] at mgLt
        exact Nat.lt_irrefl _ mgLt
      refine wpAny_mono (hel _ A' E' n u z m rfl IA.ok.glob nsZ hL hx) ?_ fun _ _ e => e
      rintro y z' ⟨e1, e2⟩
      exact ⟨⟨n, hn, e1⟩, e2⟩
  · intro g h5 tk5 gs bare lt5 sz5 keep5 W5 at5
    rw [GxR.passing_true, List.length_range] at W5
    apply fin a HA g _ hR
    refine ⟨_, _, _, _, _, W5.in4_1, at5, ?_, ?_⟩
    · rintro j y zj Qj Ej ⟨i, hi, n, hn, rfl⟩ hQ
      obtain ⟨_, ei⟩ := List.getElem?_eq_some_iff.mp hi
      rw [List.getElem_range] at ei
      subst ei
      have hn' : a.cps.toList[j]? = some n := by rw [Array.getElem?_toList]; exact hn
      have hQ' : Qj (trF pb a.cps.toList j) zj := hQ
      rw [trF_some hn'] at hQ'
      exact wpAny_truthy_bool hQ'
    · intro z mv
      have out : ∀ {b : Addr} {u : Obj}, zA.heap.get? b = some u → b ∉ hC.objs.size :: [zA.heap.objs.size] := fun e hb => by
        have lb := Heap.lt_size e
        rcases List.mem_cons.mp hb with e1 | e1
        · rw [e1] at lb
          have : (hC.objs.size : Nat) < zA.heap.objs.size := lb
          omega
        · rw [only e1] at lb
          exact Nat.lt_irrefl _ lb
      have J := inv_tab (more := qs) (h' := z.heap) (g' := z.gens) (d' := z.drawn) (t' := z.toks) IA tabH
        (fun b u nb e => mv.heap b u (out e) (keep5 b u (keepC nb e))) (mv.heap P _ (out tabA) (keep5 P _ tabC)) (AllBare.movedS (IA.bare.push bare) mv)
      rw [sh_eta zA z mv.os] at J
      exact ⟨upd HA P (.tbl (ps ++ qs)), ⟨⟨ps ++ qs, upd_same, tripC⟩, fun b nb => upd_ne nb⟩, J⟩
theorem pe_allM {c P : Addr} {el it : Expr} {x : Str} {px p pos gp : Pos} {sc : Scope} {pb : Nat → Bool} {te : TE} {k : Nat}
    (room : Room k X.A) (hg : Gl X "all") (hm : X.mg "all" = none) (hb : bootBuiltins "all" = some (.builtin "all")) (TB : TabB X.base X.mg c P) (hc : X.env.code = .ref c) (S : GenS X.env sc x) (hi : PE X it te)
    (hel : EltM X.prog X.w sc x el X.mg pb) (fold : ∀ v, genFold it X.env v = pure v)
    (one : starEach [.GeneratorExp el [⟨.Name x px, it, [], 0⟩] sc gp] X.env = (false, eval (.GeneratorExp el [⟨.Name x px, it, [], 0⟩] sc gp) X.env) :: starEach [] X.env := by rfl) :
    PE X (.Call (.Name "all" p) [.GeneratorExp el [⟨.Name x px, it, [], 0⟩] sc gp] [] pos) (tAllS P pb te) := by
  constructor
  intro pins z σ H Q I h
  apply wpAny_Call_Name_kw
  apply ld_blt I hg hm hb
  apply PyProof.Rows.callWith_builtin1 _ one (by rfl)
  rw [one]
  change wpAny _ _ (spliced ((false, eval (.GeneratorExp el [⟨.Name x px, it, [], 0⟩] sc gp) X.env) :: backTo pos (starEach [] X.env))) _ _ z
  apply Calls.spliced_cons
  refine gen_textM (R := fun a H1 => ∀ H2, Tabbed P H1 H2 → Q (.bl (a.cps.toList.all pb)) H2) room TB hc S hi hel fold I h ?_
  rintro a H1 g s5 go ⟨fp, wr, G, F, St, W, st, tr, after⟩
  apply Calls.spliced_nil
  apply call_all_walkS
  apply W.self 0 _ _ _ st
  refine ⟨g, fp, wr, G, _, F, St, _, rfl, W, st, tr, fun s' mv => ?_⟩
  obtain ⟨H2, T2, J⟩ := after s' mv
  refine ⟨.bl _, H2, J, rfl, ?_⟩
  rw [all_signs a pb]
  exact go H2 T2
end
end Ly
namespace Ly
open PySem PySem.Spec PyProof.Rows L2 Evl
section
variable {P : Program} {w : World} {K : PySem.W.Frag} {mg : Str → Option Value} {base : Heap}
/-- a def whose code object is known to its body -/
theorem okC {x qual : Str} {st : Stmt} {f : Addr} {fd : FuncData} {N ps : List Str} {k : Nat} {sp : Sp} (F : Fun K x qual st f fd) (S : FnScope N ps (defScope st)) (len : ∀ vs H Q E, sp vs H Q E → vs.length = ps.length)
    (body : ∀ (cdv : Value) (A : Around) (outer : List Env) (s : Shared) (H : Hp) (vs : List V) (Q : VK) (E : XK), fd.code = cdv → Room k (A.deeper (envOfC qual (defScope st) s.heap.objs.size f cdv)) → sp vs H Q E →
      ∃ t, PSs (cxOf CX0 P w K mg base N qual (defScope st) f cdv A outer s H E).nox (defBody st) t ∧ t { nx := fun _ H' => Q .non H', rt := Q } (start N vs) H) : FnOk P w K mg base CX0 (k + 1) f fd ps sp := by
  obtain ⟨oc, od, kV, doc, pm, an, cdv, ct, osl, rfl, lk, hcd⟩ := F.ex
  apply fn_of lk hcd S len
  intro A outer s H vs Q E hr hsp
  obtain ⟨t, h, q⟩ := body cdv A outer s H vs Q E rfl hr hsp
  exact ⟨t, h.nox, q⟩
end
theorem gen_s {env : Env} {sc : Scope} {x : Str} (h1 : sc.kind = .function) (h2 : sc.isCoroutine = false) (h3 : ∀ y ∈ sc.names, y.2 ≠ .cell) (h4 : sc.names.lookup (".0" : Str) = some NameKind.local) (h5 : sc.names.lookup x = some .local)
    (h6 : ∀ y ∈ sc.names, y.2 ≠ .free) : GxR.GenS env sc x := ⟨h1, h2, h3, h4, h5, fun y hy e => absurd e (h6 y hy)⟩
/-- the table at P stands, what else is known is kept -/
def Tb (P : Addr) (H H' : Hp) : Prop := GxR.TabG H' P ∧ Fr P H H'
theorem Tb.refl {P : Addr} {H : Hp} (h : GxR.TabG H P) : Tb P H H := ⟨h, Fr.refl P H⟩
theorem Tb.trans {P : Addr} {H H1 H2 : Hp} (a : Tb P H H1) (b : Tb P H1 H2) : Tb P H H2 := ⟨b.1, a.2.trans b.2⟩
theorem Tb.of {P : Addr} {H H' : Hp} (h : GxR.Tabbed P H H') : Tb P H H' := ⟨h.1, fun a o n e => by rw [h.2 a n]; exact e⟩
theorem Tb.ex {P : Addr} {H H' : Hp} (h : GxR.TabG H P) (e : Ex H H') : Tb P H H' := by
  obtain ⟨ps, h1, h2⟩ := h
  exact ⟨⟨ps, e _ _ h1, h2⟩, Fr.ex e⟩
theorem Tb.mut {P p : Addr} {H H' : Hp} {o : HO} (t : GxR.TabG H P) (b : Tb P H H') (h : H p = none) : Tb P H (upd H' p o) := by
  obtain ⟨⟨ps, h1, h2⟩, fr⟩ := b
  have ne : P ≠ p := fun z => by
    obtain ⟨qs, e, _⟩ := t
    rw [z, h] at e
    cases e
  refine ⟨⟨ps, by rw [upd_ne ne]; exact h1, h2⟩, fun x u n e => ?_⟩
  have nx : x ≠ p := fun z => by rw [z, h] at e; cases e
  rw [upd_ne nx]
  exact fr x u n e
theorem Tb.free {P p : Addr} {H H' : Hp} (b : Tb P H H') (h : H' p = none) : H p = none := by
  cases e : H p with
  | none => rfl
  | some o =>
    by_cases ne : p = P
    · obtain ⟨ps, h1, _⟩ := b.1
      rw [ne, h1] at h
      cases h
    · rw [b.2 p o ne e] at h
      cases h
theorem Tb.own {P s : Addr} {H H1 H2 : Hp} {xs : List V} (b : Tb P H H1) (f : Fr s H1 H2) (hs : H s = none) (hl : H1 s = some (.lst xs)) : Tb P H H2 := by
  obtain ⟨⟨ps, h1, h2⟩, fr⟩ := b
  have ne : P ≠ s := fun z => by rw [z, hl] at h1; cases h1
  refine ⟨⟨ps, f P _ ne h1, h2⟩, fun a o n e => ?_⟩
  have na : a ≠ s := fun z => by rw [z, hs] at e; cases e
  exact f a o na (fr a o n e)
theorem tab_fr {P s : Addr} {H H' : Hp} {xs : List V} (t : GxR.TabG H P) (f : Fr s H H') (hl : H s = some (.lst xs)) : GxR.TabG H' P := by
  obtain ⟨ps, h1, h2⟩ := t
  have ne : P ≠ s := fun z => by rw [z, hl] at h1; cases h1
  exact ⟨ps, f P _ ne h1, h2⟩
theorem tab_ex {P : Addr} {H H' : Hp} (t : GxR.TabG H P) (e : Ex H H') : GxR.TabG H' P := (Tb.ex t e).1
theorem tab_up {P p : Addr} {H : Hp} {xs : List V} {o : HO} (t : GxR.TabG H P) (hl : H p = some (.lst xs)) : GxR.TabG (upd H p o) P := by
  obtain ⟨ps, h1, h2⟩ := t
  have ne : P ≠ p := fun z => by rw [z, hl] at h1; cases h1
  exact ⟨ps, by rw [upd_ne ne]; exact h1, h2⟩
theorem tab_ne {P a : Addr} {H : Hp} {o : HO} (h : GxR.TabG H P) (e : H a = some o) (n : ∀ q, o ≠ .tbl q) : a ≠ P := fun z => by
  obtain ⟨ps, h1, _⟩ := h
  rw [z, h1] at e
  exact n ps (Option.some.inj e).symm
theorem Tb.at {P a : Addr} {H H' : Hp} {o : HO} (b : Tb P H H') (t : GxR.TabG H P) (e : H a = some o) (n : ∀ q, o ≠ .tbl q) : H' a = some o := b.2 a o (tab_ne t e n) e
theorem Tb.lst {P a : Addr} {H H' : Hp} {xs : List V} (b : Tb P H H') (t : GxR.TabG H P) (e : H a = some (.lst xs)) : H' a = some (.lst xs) := b.at t e fun q z => nomatch z
theorem Tb.dk {P a : Addr} {H H' : Hp} {kvs : List (L2.Key × V)} (b : Tb P H H') (t : GxR.TabG H P) (e : H a = some (.dK kvs)) : H' a = some (.dK kvs) := b.at t e fun q z => nomatch z
theorem Tb.sl {K : PySem.W.Frag} {P a : Addr} {H H' : Hp} {xs : List V} (b : Tb P H H') (t : GxR.TabG H P) (h : SqL K H a xs) : SqL K H' a xs := by
  rcases h with (h | ⟨ob, h⟩) | h
  · exact .inl (.inl (b.at t h fun q z => nomatch z))
  · exact .inl (.inr ⟨ob, b.at t h fun q z => nomatch z⟩)
  · exact .inr h
theorem w_allS {P : Addr} {pb : Nat → Bool} {te : TE} {σ : L2.St} {H : Hp} {Q : VK} (h : te σ H fun v H1 => ∃ a : Str, v = .str a ∧ GxR.TabG H1 P ∧ ∀ H2, GxR.Tabbed P H1 H2 → Q (.bl (a.cps.toList.all pb)) H2) : GxR.tAllS P pb te σ H Q := h
/-- the end of a law in whose program a def holds a generator expression -/
theorem walk_tab {l : PySem.W.OpenLaw} {n k : Nat} {q : Program} {loose : List Str} {XP : (Str → Option Value) → Heap → Prop} {YP : World → Heap → Prop} {d : DefRec} {K : Params → PySem.W.Frag} {CX : World → CXT} {x : Str}
    (most : l.most = some n) (fits : n ≤ sizeLine) (nodef : d.params.defaults = []) (room : Room k callerA) (inK : ∀ (w : World) (h : Heap), YP w h → (K w.params).In h)
    (F : ∀ (w : World) (mg : Str → Option Value) (fa : Addr) (h : Heap), (K w.params).In h → h.Ns mainGlobals mg → mg d.name = some (.ref fa) →
      (∀ (y : Str) (c P : Addr) (r : DefRec), (recsOf q).find? (fun e => e.name == y) = some r → PySem.W.tabIn (K w.params) y = some (c, P) → PySem.W.CodeHd h c P ∧ h.get? P = some { cls := .none, data := .fields #[] }) →
      LamX.LawAtS l w (K w.params) (CX w) k n x mg fa h)
    (ends : ∀ (w : World) (H : Hp) (s : Shared) (e : Value) (s' : Shared), CX w [] H s (fun _ _ _ => False) e s' → False) :
    PySem.W.WalkO q loose XP YP l.row.toRowW d [] (fun f vs => PySem.call f vs) := by
  apply Att.attach_callB most nodef
  intro w s0 s1 mg mb fa o pm cd doc a vs ns G Y ho hd hcd hmg hobj hints hlen hbits hg
  have ik := inK w _ Y
  have at_ := F w mg fa _ ik G.T.g hmg fun y c P r e1 e2 => PySem.W.tab_of G.T ik e1 e2
  obtain ⟨fd, cs, sp, t1, t2, t3, bind, pre, run⟩ := at_
  apply LamX.law_callTs ik G.T.g G.T.b G.T.builtins G.T.nolimit hg t1 t2 t3 G.T.bmain hobj hints _ room run bind
  · intro H tH sH
    exact pre H a ns hlen hbits tH sH
  · intro H e s'
    exact ends w H s1 e s'
  · exact Nat.le_trans hlen fits
end Ly
set_option Elab.async false
set_option linter.all false
set_option maxRecDepth 100000
set_option maxHeartbeats 2000000
namespace PySem
open W
section
variable {prog : Program} {w : World} {A : Around} {E : Value → Shared → Prop} {s : Shared} {z TI TO i1 i2 : Addr} {fp1 fp2 : List Addr} {n1 n2 i : Nat} {P1 P2 : Nat → Value → Prop} {St1 St2 : Nat → Heap → Prop}
theorem zipD2_held_item {T : Addr} {f : Bool} {oT : Obj} {Q : Value → Shared → Prop} (S : ZipSep2 z TI TO i1 i2 fp1 fp2) (D1 : Draws prog w A i1 fp1 n1 P1 St1) (D2 : Draws prog w A i2 fp2 n2 P2 St2)
    (hz : IsZipHeld s.heap z TI TO T f) (hT : s.heap.get? T = some oT) (hTI : IsTupOf2 s.heap TI (.ref i1) (.ref i2)) (st1 : St1 i s.heap) (st2 : St2 i s.heap) (hlt1 : i < n1) (hlt2 : i < n2)
    (hQ : ∀ x1 x2 h' tk, P1 i x1 → P2 i x2 → IsZipHeld h' z TI TO T true → St1 (i + 1) h' → St2 (i + 1) h' → IsTupOf2 h' s.heap.objs.size x1 x2 → h'.objs.size = s.heap.objs.size + 1 →
      (∀ c o, c ≠ z → c ≠ i1 → c ≠ i2 → s.heap.get? c = some o → h'.get? c = some o) → Q (.ref s.heap.objs.size) { s with heap := h', toks := tk }) :
    wpAny (model prog w) A (Builtin.«zip.__next__» ⟨[.ref z], []⟩) (fun fin s' => ∃ v, fin = .done (.ret v) ∧ Q v s') E s := by
  obtain ⟨hp, g, d, tk0, os⟩ := s
  show wpAny _ _ (field (.ref z) 2 >>= _) _ _ _
  refine wpAny_bind (wpAny_field hz rfl (x := .bool false) rfl ?_)
  show wpAny _ _ (field (.ref z) 3 >>= _) _ _ _
  refine wpAny_bind (wpAny_field hz rfl (x := .ref TI) rfl ?_)
  refine wpAny_bind (wpAny_seqItems hTI rfl ?_)
  show wpAny _ _ (Builtin.SmallTypes.ownedTupleIsFree (.ref z) >>= _) _ _ _
  refine wpAny_bind (wpAny_tupleHeld_zip hz hT fun g0 hz0 hs0 => ?_)
  replace hs0 : Heap.SameBut z hp g0 := hs0
  simp only [Bool.false_eq_true, if_false]
  refine wpAny_bind ?_
  rw [← Array.forIn_toList]
  simp only [List.forIn_cons, List.forIn_nil]
  refine wpAny_bind (wpAny_bind (wpAny_holding ?_))
  show wpAny _ _ (Builtin.SmallTypes.nextOf (.ref i1) >>= _) _ _ ⟨g0, g, d, tk0, os⟩
  refine wpAny_bind (D1.item i _ _ _ hlt1 (D1.over st1 hs0 S.zf1) fun x1 p1 tk1 hx1 sn1 hp1 => wpAny_pure ?_)
  replace hp1 : Heap.SameBut i1 g0 p1 := hp1
  refine wpAny_pure ?_
  refine wpAny_bind (wpAny_bind (wpAny_holding ?_))
  show wpAny _ _ (Builtin.SmallTypes.nextOf (.ref i2) >>= _) _ _ ⟨p1, g, d, tk1, os⟩
  refine wpAny_bind (D2.item i _ _ _ hlt2 (D2.over (D2.over st2 hs0 S.zf2) hp1 S.sep1_2) fun x2 p2 tk2 hx2 sn2 hp2 => wpAny_pure ?_)
  replace hp2 : Heap.SameBut i2 p1 p2 := hp2
  refine wpAny_pure (wpAny_pure ?_)
  show wpAny _ _ (newTuple [x1, x2] >>= _) _ _ ⟨p2, g, d, tk2, os⟩
  refine wpAny_bind (wpAny_newTuple ?_)
  have hsz : p2.objs.size = hp.objs.size := by rw [hp2.1, hp1.1, hs0.1]
  have hz3 : IsZipHeld p2 z TI TO T true := hp2.extBut _ _ S.zi2 (hp1.extBut _ _ S.zi1 hz0)
  have hk : ∀ c o, c ≠ z → c ≠ i1 → c ≠ i2 → hp.get? c = some o → p2.get? c = some o := fun c o c1 c2 c3 e => hp2.extBut _ _ c3 (hp1.extBut _ _ c2 (hs0.extBut _ _ c1 e))
  have hj1 : St1 (i + 1) p2 := D1.over sn1 hp2 S.sep2_1
  refine wpAny_pure ⟨_, rfl, ?_⟩
  show Q (.ref p2.objs.size) _
  have hp3 : IsTupOf2 (p2.push { cls := .type "tuple", data := .seq #[x1, x2] }) p2.objs.size x1 x2 := Heap.get?_push_size _ rfl
  have hz4 : (p2.push { cls := .type "tuple", data := .seq #[x1, x2] }).objs.size = p2.objs.size + 1 := Heap.size_push ..
  rw [hsz] at hp3 hz4 ⊢
  exact hQ x1 x2 _ tk2 hx1 hx2 (Heap.get?_push_of_some _ hz3) (D1.frame _ _ _ hj1 fun b _ o e => Heap.get?_push_of_some _ e) (D2.frame _ _ _ sn2 fun b _ o e => Heap.get?_push_of_some _ e) hp3 hz4 fun c o c1 c2 c3 e => Heap.get?_push_of_some _ (hk c o c1 c2 c3 e)
theorem zipD2_held_end {T : Addr} {f : Bool} {oT : Obj} {Q : Fin → Shared → Prop} (S : ZipSep2 z TI TO i1 i2 fp1 fp2) (D1 : Draws prog w A i1 fp1 n1 P1 St1)
    (hz : IsZipHeld s.heap z TI TO T f) (hT : s.heap.get? T = some oT) (hTI : IsTupOf2 s.heap TI (.ref i1) (.ref i2)) (st1 : St1 n1 s.heap)
    (hE : ∀ h' e, (∀ c o, c ≠ z → c ≠ i1 → s.heap.get? c = some o → h'.get? c = some o) → (∃ o, h'.get? e = some o ∧ o.cls = .type "StopIteration") → E (.ref e) { s with heap := h' }) :
    wpAny (model prog w) A (Builtin.«zip.__next__» ⟨[.ref z], []⟩) Q E s := by
  obtain ⟨hp, g, d, tk0, os⟩ := s
  show wpAny _ _ (field (.ref z) 2 >>= _) _ _ _
  refine wpAny_bind (wpAny_field hz rfl (x := .bool false) rfl ?_)
  show wpAny _ _ (field (.ref z) 3 >>= _) _ _ _
  refine wpAny_bind (wpAny_field hz rfl (x := .ref TI) rfl ?_)
  refine wpAny_bind (wpAny_seqItems hTI rfl ?_)
  show wpAny _ _ (Builtin.SmallTypes.ownedTupleIsFree (.ref z) >>= _) _ _ _
  refine wpAny_bind (wpAny_tupleHeld_zip hz hT fun g0 hz0 hs0 => ?_)
  replace hs0 : Heap.SameBut z hp g0 := hs0
  simp only [Bool.false_eq_true, if_false]
  refine wpAny_bind ?_
  rw [← Array.forIn_toList]
  simp only [List.forIn_cons, List.forIn_nil]
  refine wpAny_bind (wpAny_bind (wpAny_holding ?_))
  show wpAny _ _ (Builtin.SmallTypes.nextOf (.ref i1) >>= _) _ _ ⟨g0, g, d, tk0, os⟩
  refine wpAny_bind (D1.done ⟨g0, g, d, tk0, os⟩ _ _ (D1.over st1 hs0 S.zf1) fun q e hq he => ?_)
  replace hq : Heap.ExtBut i1 g0 q := hq
  exact hE q e (fun c o cz c1 x => hq _ _ c1 (hs0.extBut _ _ cz x)) he
theorem pyNext_zipD2_held_item {T : Addr} {f : Bool} {oT : Obj} {Q : Option Value → Shared → Prop} (S : ZipSep2 z TI TO i1 i2 fp1 fp2) (D1 : Draws prog w A.in1 i1 fp1 n1 P1 St1) (D2 : Draws prog w A.in1 i2 fp2 n2 P2 St2)
    (hz : IsZipHeld s.heap z TI TO T f) (hT : s.heap.get? T = some oT) (hTI : IsTupOf2 s.heap TI (.ref i1) (.ref i2)) (st1 : St1 i s.heap) (st2 : St2 i s.heap) (hlt1 : i < n1) (hlt2 : i < n2)
    (hQ : ∀ x1 x2 h' tk, P1 i x1 → P2 i x2 → IsZipHeld h' z TI TO T true → St1 (i + 1) h' → St2 (i + 1) h' → IsTupOf2 h' s.heap.objs.size x1 x2 → h'.objs.size = s.heap.objs.size + 1 →
      (∀ c o, c ≠ z → c ≠ i1 → c ≠ i2 → s.heap.get? c = some o → h'.get? c = some o) → Q (some (.ref s.heap.objs.size)) { s with heap := h', toks := tk }) :
    wpAny (model prog w) A (pyNext (.ref z)) Q E s := by
  have hTy : s.TypeIs (.ref z) "zip" := ⟨_, hz, rfl⟩
  unfold pyNext
  exact wpAny_bind (wpAny_attempt (wpAny_callSpecial?_slot (name := Str.ofString "__next__") hTy F.slot_zip_next
    (wpAny_call_entry F.slot_zip_next hTy F.entry_zip_next
      (zipD2_held_item S D1 D2 hz hT hTI st1 st2 hlt1 hlt2 fun x1 x2 h' tk a1 a2 a3 a4 a5 a6 a7 a8 => wpAny_pure (hQ x1 x2 h' tk a1 a2 a3 a4 a5 a6 a7 a8)) (F.args_zip_next_1 _))))
theorem pyNext_zipD2_held_end {T : Addr} {f : Bool} {oT : Obj} {Q : Option Value → Shared → Prop} (S : ZipSep2 z TI TO i1 i2 fp1 fp2) (D1 : Draws prog w A.in1 i1 fp1 n1 P1 St1)
    (hz : IsZipHeld s.heap z TI TO T f) (hT : s.heap.get? T = some oT) (hTI : IsTupOf2 s.heap TI (.ref i1) (.ref i2)) (st1 : St1 n1 s.heap)
    (hQ : ∀ h', (∀ c o, c ≠ z → c ≠ i1 → s.heap.get? c = some o → h'.get? c = some o) → Q none { s with heap := h' }) :
    wpAny (model prog w) A (pyNext (.ref z)) Q E s := by
  have hTy : s.TypeIs (.ref z) "zip" := ⟨_, hz, rfl⟩
  unfold pyNext
  refine wpAny_bind (wpAny_attempt (wpAny_callSpecial?_slot (name := Str.ofString "__next__") hTy F.slot_zip_next
    (wpAny_call_entry F.slot_zip_next hTy F.entry_zip_next (zipD2_held_end S D1 hz hT hTI st1 fun h' e hk he => ?_) (F.args_zip_next_1 _))))
  obtain ⟨o, ho, hc⟩ := he
  refine wpAny_bind (wpAny_isInstance (T := "StopIteration") (b := true) ⟨o, ho, hc⟩ isSubtype_stop ?_)
  exact wpAny_pure (hQ _ hk)
end
/-- a zip over two iterators, i drawn, the tuples kept -/
def ZlSt (St1 St2 : Nat → Heap → Prop) (z TI TO i1 i2 S : Addr) (i : Nat) (h : Heap) : Prop :=
  IsTupOf2 h TI (.ref i1) (.ref i2) ∧ St1 i h ∧ St2 i h ∧ ((i = 0 ∧ IsZip h z TI TO .none ∧ ∃ a1 a2, IsTupOf2 h TO a1 a2) ∨ ∃ T f oT, IsZipHeld h z TI TO T f ∧ h.get? T = some oT ∧ S < T)
structure ZlG (P1 P2 : Nat → Value → Prop) (lo : Addr) (h : Heap) (as : List Addr) : Prop where
  rise : as.Pairwise (· < ·)
  above : ∀ a ∈ as, lo < a
  pairs : ∀ (j : Nat) (a : Addr), as[j]? = some a → ∃ x1 x2, P1 j x1 ∧ P2 j x2 ∧ IsTupOf2 h a x1 x2
theorem ZlG.there {P1 P2 : Nat → Value → Prop} {lo : Addr} {h : Heap} {as : List Addr} (g : ZlG P1 P2 lo h as) {a : Addr} (ha : a ∈ as) : a < h.objs.size := by
  obtain ⟨j, hj⟩ := List.mem_iff_getElem?.mp ha
  obtain ⟨_, _, _, _, e⟩ := g.pairs j a hj
  exact Heap.lt_size e
section
variable {prog : Program} {w : World} {A : Around} {E : Value → Shared → Prop} {s : Shared} {z TI TO i1 i2 : Addr} {fp1 fp2 : List Addr} {n : Nat} {P1 P2 : Nat → Value → Prop} {St1 St2 : Nat → Heap → Prop} {R : Result → Shared → Prop}
theorem zl_loop {L : Addr} (S : ZipSep2 z TI TO i1 i2 fp1 fp2) (D1 : Draws prog w A.in1.in1 i1 fp1 n P1 St1) (D2 : Draws prog w A.in1.in1 i2 fp2 n P2 St2) (lt : z < L ∧ TI < L ∧ TO < L ∧ (∀ b ∈ fp1, b < L) ∧ ∀ b ∈ fp2, b < L) (hn : n ≤ sizeLine) (res : Value) {h₁ : Heap}
    (hR : ∀ h' tk acc c as, (∀ b o, b ≠ L → b ≠ z → b ≠ TO → b ≠ i1 → b ≠ i2 → h₁.get? b = some o → h'.get? b = some o) → h'.get? L = some { cls := .type "list", dict := none, data := .seq acc c, slots := #[] } → as.length = n → ZlG P1 P2 L h' as →
      acc.toList = as.map Value.ref → R (.ok (.ret res)) { s with heap := h', toks := tk }) :
    ∀ (k i : Nat) (h : Heap) (tk c : Nat) (acc : Array Value) (as : List Addr), n - i = k → i ≤ n → ZlSt St1 St2 z TI TO i1 i2 L i h → (∀ b o, b ≠ L → b ≠ z → b ≠ TO → b ≠ i1 → b ≠ i2 → h₁.get? b = some o → h.get? b = some o) →
      h.get? L = some { cls := .type "list", dict := none, data := .seq acc c, slots := #[] } → acc.toList = as.map Value.ref → as.length = i → ZlG P1 P2 L h as →
      codeAny (model prog w) A (.builtin "list.extend.loop" ⟨[.ref L, .ref z, res], []⟩) R { s with heap := h, toks := tk } := by
  obtain ⟨lz, lTI, lTO, lf1, lf2⟩ := lt
  have l1 := lf1 _ S.mem1
  have l2 := lf2 _ S.mem2
  have nz : L ≠ z := Nat.ne_of_gt lz
  have nTO : L ≠ TO := Nat.ne_of_gt lTO
  have n1 : L ≠ i1 := Nat.ne_of_gt l1
  have n2 : L ≠ i2 := Nat.ne_of_gt l2
  intro k
  induction k with
  | zero =>
    intro i h tk c acc as hk hi hst hkeep hS hacc hal hG
    have hin : i = n := by omega
    subst hin
    obtain ⟨hTI, st1, st2, hz⟩ := hst
    refine codeAny_builtin PySem.F.entry_extend_loop ?_
    rw [Around.under_plainId PySem.F.plain_extend_loop _]
    show wpAny _ A.in1 (pyNext (.ref z) >>= _) _ _ _
    have fin : ∀ h' tk', (∀ c o, c ≠ z → c ≠ TO → c ≠ i1 → c ≠ i2 → h.get? c = some o → h'.get? c = some o) → R (.ok (.ret res)) { s with heap := h', toks := tk' } := fun h' tk' hk' => by
      refine hR h' tk' acc c as (fun b o h1 h2 h3 h4 h5 e => hk' b o h2 h3 h4 h5 (hkeep b o h1 h2 h3 h4 h5 e)) (hk' L _ nz nTO n1 n2 hS) hal ⟨hG.rise, hG.above, fun j a hj => ?_⟩ hacc
      obtain ⟨x1, x2, e1, e2, e3⟩ := hG.pairs j a hj
      have ha := hG.above a (List.mem_of_getElem? hj)
      exact ⟨x1, x2, e1, e2, hk' a _ (Nat.ne_of_gt (Nat.lt_trans lz ha)) (Nat.ne_of_gt (Nat.lt_trans lTO ha)) (Nat.ne_of_gt (Nat.lt_trans l1 ha)) (Nat.ne_of_gt (Nat.lt_trans l2 ha)) e3⟩
    rcases hz with ⟨h0, hz, a1, a2, hTO⟩ | ⟨T, f, oT, hz, hT, _⟩
    · exact wpAny_bind (wpAny_pyNext_zipD2_end (A := A.in1) (s := { s with heap := h, toks := tk }) S D1 D2 hz hTI hTO st1 st2 (Nat.le_refl _) (Nat.le_refl _) (.inl rfl) fun h' tk' hk' => wpAny_pure (fin h' tk' hk'))
    · exact wpAny_bind (pyNext_zipD2_held_end (A := A.in1) (s := { s with heap := h, toks := tk }) S D1 hz hT hTI st1 fun h' hk' => wpAny_pure (fin h' tk fun c o c1 c2 c3 c4 e => hk' c o c1 c3 e))
  | succ k ih =>
    intro i h tk c acc as hk hi hst hkeep hS hacc hal hG
    have hlt : i < n := by omega
    have hsz : acc.size = i := by rw [← Array.length_toList, hacc, List.length_map, hal]
    obtain ⟨hTI, st1, st2, hz⟩ := hst
    have hSl : L < h.objs.size := Heap.lt_size hS
    refine codeAny_builtin PySem.F.entry_extend_loop ?_
    rw [Around.under_plainId PySem.F.plain_extend_loop _]
    show wpAny _ A.in1 (pyNext (.ref z) >>= _) _ _ _
    have go : ∀ x1 x2 h' tk', P1 i x1 → P2 i x2 → St1 (i + 1) h' → St2 (i + 1) h' → IsTupOf2 h' h.objs.size x1 x2 → h'.objs.size = h.objs.size + 1 → (∃ T f oT, IsZipHeld h' z TI TO T f ∧ h'.get? T = some oT ∧ L < T) →
        (∀ c o, c ≠ z → c ≠ TO → c ≠ i1 → c ≠ i2 → h.get? c = some o → h'.get? c = some o) →
        wpAny (model prog w) A.in1 (updateSeq L (·.push (Value.ref h.objs.size)) >>= fun _ => again (.builtin "list.extend.loop" ⟨[.ref L, .ref z, res], []⟩))
          (fun fin s' => match fin with | .done f => R (.ok f) s' | .again c' => c'.quiet = true ∧ codeAny (model prog w) A c' R s') (fun e s' => R (.error e) s') { s with heap := h', toks := tk' } := by
      intro x1 x2 h' tk' p1 p2 sn1 sn2 ht hz' hheld hkp
      have hS' := hkp L _ nz nTO n1 n2 hS
      have up : ∀ b o, b ≠ L → h'.get? b = some o → (h'.update L (Obj.mapSeq (·.push (Value.ref h.objs.size)))).get? b = some o := fun b o hb e => (Heap.get?_update_other _ _ (Ne.symm hb)).trans e
      refine wpAny_bind ?_
      refine wpAny_updateSeq hS' rfl (wpAny_pure ⟨plainId_quiet PySem.F.plain_extend_loop _, ih (i + 1) _ tk' _ (acc.push (Value.ref h.objs.size)) (as ++ [h.objs.size]) (by omega) hlt ⟨?_, ?_, ?_, ?_⟩
        (fun b o h1 h2 h3 h4 h5 e => up b o h1 (hkp b o h2 h3 h4 h5 (hkeep b o h1 h2 h3 h4 h5 e))) (Heap.get?_update_self _ hS' rfl) (by rw [Array.toList_push, hacc, List.map_append]; rfl) (by rw [List.length_append, hal]; rfl) ⟨?_, ?_, ?_⟩⟩) (by rw [hsz]; omega) (by show (acc.push (Value.ref h.objs.size)).size ≤ sizeLine + 1; rw [Array.size_push, hsz]; omega)
      · exact up _ _ (Nat.ne_of_lt lTI) (hkp TI _ S.TIz S.TITO S.TIi1 S.TIi2 hTI)
      · exact D1.frame _ _ _ sn1 fun b hb o e => up b o (Nat.ne_of_lt (lf1 b hb)) e
      · exact D2.frame _ _ _ sn2 fun b hb o e => up b o (Nat.ne_of_lt (lf2 b hb)) e
      · obtain ⟨T, f, oT, h1, h2, h3⟩ := hheld
        exact .inr ⟨T, f, oT, up _ _ nz.symm h1, up _ _ (Nat.ne_of_gt h3) h2, h3⟩
      · refine List.pairwise_append.mpr ⟨hG.rise, List.pairwise_singleton _ _, fun a ha b hb => ?_⟩
        rw [List.mem_singleton.mp hb]
        exact hG.there ha
      · intro a ha
        rcases List.mem_append.mp ha with ha | ha
        · exact hG.above a ha
        · rw [List.mem_singleton.mp ha]; exact hSl
      · intro j b hj
        rcases Nat.lt_trichotomy j as.length with h1 | h1 | h1
        · rw [List.getElem?_append_left h1] at hj
          obtain ⟨y1, y2, e1, e2, e3⟩ := hG.pairs j b hj
          have hb := hG.above b (List.mem_of_getElem? hj)
          exact ⟨y1, y2, e1, e2, up b _ (Nat.ne_of_gt hb) (hkp b _ (Nat.ne_of_gt (Nat.lt_trans lz hb)) (Nat.ne_of_gt (Nat.lt_trans lTO hb)) (Nat.ne_of_gt (Nat.lt_trans l1 hb)) (Nat.ne_of_gt (Nat.lt_trans l2 hb)) e3)⟩
        · subst h1
          have hb : h.objs.size = b := by simpa using hj
          subst hb
          exact ⟨x1, x2, by rw [hal]; exact p1, by rw [hal]; exact p2, up _ _ (Nat.ne_of_gt hSl) ht⟩
        · have hnone : (as ++ [h.objs.size])[j]? = none := List.getElem?_eq_none (by rw [List.length_append, List.length_singleton]; omega)
          rw [hnone] at hj; cases hj
    rcases hz with ⟨h0, hz, a1, a2, hTO⟩ | ⟨T, f, oT, hz, hT, hLT⟩
    · exact wpAny_bind (wpAny_pyNext_zipD2_item (A := A.in1) (s := { s with heap := h, toks := tk }) S D1 D2 hz hTI hTO st1 st2 hlt hlt fun x1 x2 h' tk' p1 p2 b1 b2 sn1 sn2 b5 b6 hkp =>
        go x1 x2 h' tk' p1 p2 sn1 sn2 b5 b6 ⟨h.objs.size, false, _, b1, b5, hSl⟩ hkp)
    · exact wpAny_bind (pyNext_zipD2_held_item (A := A.in1) (s := { s with heap := h, toks := tk }) S D1 D2 hz hT hTI st1 st2 hlt hlt fun x1 x2 h' tk' p1 p2 b1 sn1 sn2 b5 b6 hkp =>
        go x1 x2 h' tk' p1 p2 sn1 sn2 b5 b6 ⟨T, true, oT, b1, hkp T oT (Nat.ne_of_gt (Nat.lt_trans lz hLT)) (Nat.ne_of_gt (Nat.lt_trans l1 hLT)) (Nat.ne_of_gt (Nat.lt_trans l2 hLT)) hT, hLT⟩ fun c o c1 c2 c3 c4 e => hkp c o c1 c3 c4 e)
end
theorem zip_no_len : typeLookup (.type "zip") "__len__" = pure none := am_miss_of_fast (by decide +kernel)
theorem zip_no_hint : typeLookup (.type "zip") "__length_hint__" = pure none := am_miss_of_fast (by decide +kernel)
section
variable {prog : Program} {w : World} {A : Around} {E : Value → Shared → Prop} {s : Shared} {z TI TO i1 i2 : Addr} {fp1 fp2 : List Addr} {n : Nat} {P1 P2 : Nat → Value → Prop} {St1 St2 : Nat → Heap → Prop}
theorem zl_call {a1 a2 : Value} {Q : Value → Shared → Prop} (hh : A.handled = none) (S : ZipSep2 z TI TO i1 i2 fp1 fp2) (D1 : ∀ A' : Around, A'.handled = none → Draws prog w A' i1 fp1 n P1 St1) (D2 : ∀ A' : Around, A'.handled = none → Draws prog w A' i2 fp2 n P2 St2)
    (hz : IsZip s.heap z TI TO .none) (hTI : IsTupOf2 s.heap TI (.ref i1) (.ref i2)) (hTO : IsTupOf2 s.heap TO a1 a2) (st1 : St1 0 s.heap) (st2 : St2 0 s.heap) (lf1 : ∀ b ∈ fp1, b < s.heap.objs.size) (lf2 : ∀ b ∈ fp2, b < s.heap.objs.size) (hn : n ≤ sizeLine)
    (hQ : ∀ h' tk acc c as, (∀ b o, b ≠ z → b ≠ TO → b ≠ i1 → b ≠ i2 → s.heap.get? b = some o → h'.get? b = some o) → h'.get? s.heap.objs.size = some { cls := .type "list", dict := none, data := .seq acc c, slots := #[] } → as.length = n → ZlG P1 P2 s.heap.objs.size h' as →
      acc.toList = as.map Value.ref → Q (.ref s.heap.objs.size) { s with heap := h', toks := tk }) :
    wpAny (model prog w) A (call (.type "list") [.ref z]) Q E s := by
  have lz : z < s.heap.objs.size := Heap.lt_size hz
  have hSz : s.heap.objs.size ≠ z := Nat.ne_of_gt lz
  refine callType_codes (Q₁ := fun obj s₁ => obj = .ref s.heap.objs.size ∧ s₁ = { s with heap := s.heap.push { cls := .type "list", data := .seq #[] } }) F.called_list (F.typeCall_list_1 _) F.entry_list_init
    (code_list_new _ ⟨rfl, rfl⟩) fun obj s₁ h₁ => ?_
  obtain ⟨rfl, rfl⟩ := h₁
  have hS : (s.heap.push { cls := .type "list", data := .seq #[] }).get? s.heap.objs.size = some { cls := .type "list", data := .seq #[] } := Heap.get?_push_size _ rfl
  refine ⟨⟨_, hS, rfl⟩, F.args_list_init_2 _ _, ?_⟩
  show wpAny _ A.in1.in1 (do let old ← Builtin.List.listItems (.ref s.heap.objs.size); Builtin.List.listUpdate (.ref s.heap.objs.size) (fun _ => #[]); letGo old.toList.reverse; Builtin.List.listExtendWith (.ref s.heap.objs.size) (.ref z) .none) _ _ _
  refine wpAny_bind ?_
  unfold Builtin.List.listItems
  refine wpAny_bind (wpAny_seqItems hS rfl (wpAny_pure ?_))
  show wpAny _ A.in1.in1 (updateSeq s.heap.objs.size (fun _ => #[]) >>= fun _ => letGo (#[] : Array Value).toList.reverse >>= fun _ => Builtin.List.listExtendWith (.ref s.heap.objs.size) (.ref z) .none) _ _ _
  refine wpAny_bind (wpAny_updateSeq hS rfl ?_)
  have hS2 := Heap.get?_update_self (Obj.mapSeq (fun _ => (#[] : Array Value))) hS rfl
  refine wpAny_bind (wpAny_letGo ?_)
  unfold Builtin.List.listExtendWith
  have up : ∀ (h : Heap) (f : Obj → Obj), (∀ b o, s.heap.get? b = some o → h.get? b = some o) → ∀ b o, s.heap.get? b = some o → (h.update s.heap.objs.size f).get? b = some o := fun h f q b o e =>
    (Heap.get?_update_other _ _ (Ne.symm (Nat.ne_of_lt (Heap.lt_size e)))).trans (q b o e)
  have k1 : ∀ b o, s.heap.get? b = some o → (s.heap.push { cls := .type "list", data := .seq #[] }).get? b = some o := fun b o e => Heap.get?_push_of_some _ e
  have k2 := up _ (Obj.mapSeq (fun _ => (#[] : Array Value))) k1
  have zty : ∀ {h : Heap}, (∀ b o, s.heap.get? b = some o → h.get? b = some o) → Shared.TypeIs { s with heap := h } (.ref z) "zip" := fun {h} q => ⟨_, q _ _ hz, rfl⟩
  refine wpAny_bind (wpAny_typeOf (zty k2) ?_)
  have h1 : Builtin.List.listSameRef (.ref s.heap.objs.size) (.ref z) = false := by simp [Builtin.List.listSameRef, hSz]
  have h2 : (Value.type "zip" == Value.type "list") = false := by decide
  have h3 : (Value.type "zip" == Value.type "tuple") = false := by decide
  simp only [h1, h2, h3, Bool.or_false, Bool.false_eq_true, if_false]
  refine wpAny_bind (wpAny_pyIter_zip (s := { s with heap := _ }) (k2 _ _ hz) ?_)
  refine wpAny_bind (wpAny_holding ?_)
  unfold Builtin.List.listLengthHint
  refine wpAny_bind (wpAny_specialOf (zty k2) zip_no_len ?_)
  show wpAny _ A.in1.in1 (specialOf (Value.ref z) (Str.ofString "__length_hint__") >>= _) _ _ _
  refine wpAny_bind (wpAny_specialOf (zty k2) zip_no_hint ?_)
  refine wpAny_pure ?_
  show wpAny _ A.in1.in1 (rule "list.extend.makes-room" >>= fun _ => Builtin.List.listTouch (.ref s.heap.objs.size) >>= fun _ =>
    again (.builtin "list.extend.loop" ⟨[.ref s.heap.objs.size, .ref z, .none], []⟩)) _ _ _
  refine wpAny_bind (wpAny_rule ?_)
  refine wpAny_bind ?_
  show wpAny _ A.in1.in1 (updateSeq s.heap.objs.size (·.push .none) >>= fun _ => updateSeq s.heap.objs.size (·.pop)) _ _ _
  refine wpAny_bind (wpAny_updateSeq hS2 rfl ?_)
  have hS3 := Heap.get?_update_self (Obj.mapSeq (·.push Value.none)) hS2 rfl
  refine wpAny_updateSeq (hz := by seq_fits) hS3 rfl ?_
  have hS4 := Heap.get?_update_self (Obj.mapSeq (·.pop)) hS3 rfl
  have k4 := up _ (Obj.mapSeq (·.pop)) (up _ (Obj.mapSeq (·.push Value.none)) k2)
  refine wpAny_pure ⟨plainId_quiet F.plain_extend_loop _, ?_⟩
  refine zl_loop (A := A.in1) (s := s) (h₁ := s.heap) S (D1 _ hh) (D2 _ hh) ⟨lz, Heap.lt_size hTI, Heap.lt_size hTO, lf1, lf2⟩ hn .none
    (fun h' tk acc c as q1 q2 q3 q4 q5 => ⟨rfl, hQ h' tk acc c as (fun b o c1 c2 c3 c4 e => q1 b o (Nat.ne_of_lt (Heap.lt_size e)) c1 c2 c3 c4 e) q2 q3 q4 q5⟩)
    n 0 _ s.toks _ #[] [] (Nat.sub_zero _) (Nat.zero_le _) ⟨k4 _ _ hTI, (D1 A hh).frame _ _ _ st1 fun b _ o e => k4 b o e, (D2 A hh).frame _ _ _ st2 fun b _ o e => k4 b o e, .inl ⟨rfl, k4 _ _ hz, a1, a2, k4 _ _ hTO⟩⟩
    (fun b o _ _ _ _ _ e => k4 b o e) hS4 rfl rfl ⟨List.Pairwise.nil, (fun _ ha => nomatch ha), fun j a hj => by simp at hj⟩
end
end PySem
namespace Ly
open PySem PySem.Spec PyProof.Rows L2 Evl
section
variable {X : Cx} {pins : List (Addr × Obj)} {σ : L2.St} {H H' : Hp} {s : Shared} {h' : Heap}
theorem _root_.PySem.L2.Inv.more {t' : Nat} (I : Inv X pins σ H s) (k : ∀ b u, s.heap.get? b = some u → h'.get? b = some u) (up : ∀ b u, H b = some u → H' b = some u)
    (new : ∀ b u, H' b = some u → H b = some u ∨ (s.heap.objs.size ≤ b ∧ ObjOk X.prog X.w H' h' b u)) : Inv X pins σ H' { s with heap := h', toks := t' } := by
  refine I.un ⟨fun b u q _ _ _ => k b u q, fun b u q _ _ _ => ⟨u.slots, k b u q⟩, fun b u q n _ => ?_, fun b u q _ => ⟨u, k b u q⟩, fun b xs q => up b _ q, fun b o u q => up b _ q, fun b ps q => ⟨#[], by rw [up b _ q]; simp⟩⟩ fun b u e => ?_
  · cases e : H' b with
    | none => rfl
    | some v =>
      rcases new b v e with z | ⟨z, _⟩
      · rw [n] at z; cases z
      · exact absurd (Nat.lt_of_lt_of_le (Heap.lt_size q) z) (Nat.lt_irrefl _)
  · rcases new b u e with z | ⟨_, z⟩
    · exact (I.hok b u z).stay (fun c v _ q => k c v q) (fun c q => up c _ q) fun c xs q => up c _ q
    · exact z
end
theorem lookup_zip {β : Type} : ∀ (as : List Addr) (ps : List β), as.Nodup → ∀ (j : Nat) (a : Addr) (p : β), as[j]? = some a → ps[j]? = some p → (as.zip ps).lookup a = some p
  | [], _, _, _, _, _, h, _ => by simp at h
  | _ :: _, [], _, _, _, _, _, h => by simp at h
  | b :: as, q :: ps, nd, 0, a, p, h1, h2 => by
    have h1 : b = a := by simpa using h1
    have h2 : q = p := by simpa using h2
    subst h1 h2
    simp [List.lookup]
  | b :: as, q :: ps, nd, j + 1, a, p, h1, h2 => by
    have h1 : as[j]? = some a := by simpa using h1
    have h2 : ps[j]? = some p := by simpa using h2
    have nd := List.nodup_cons.mp nd
    have ne : a ≠ b := fun z => nd.1 (z ▸ List.mem_of_getElem? h1)
    rw [List.zip_cons_cons, List.lookup_cons, beq_eq_false_iff_ne.mpr ne]
    exact lookup_zip as ps nd.2 j a p h1 h2
theorem lookup_got {β : Type} : ∀ (as : List Addr) (ps : List β) (a : Addr) (p : β), (as.zip ps).lookup a = some p → ∃ j : Nat, as[j]? = some a ∧ ps[j]? = some p
  | [], _, _, _, h => by simp [List.lookup] at h
  | _ :: _, [], _, _, h => by simp [List.lookup] at h
  | b :: as, q :: ps, a, p, h => by
    rw [List.zip_cons_cons, List.lookup_cons] at h
    by_cases e : a = b
    · subst e
      rw [beq_self_eq_true] at h
      exact ⟨0, rfl, h⟩
    · rw [beq_eq_false_iff_ne.mpr e] at h
      obtain ⟨j, h1, h2⟩ := lookup_got as ps a p h
      exact ⟨j + 1, h1, h2⟩
/-- the heap with the list of the pairs -/
def putZ (H : Hp) (L : Addr) (as : List Addr) (ps : List (V × V)) : Hp := fun b => if b = L then some (.lst (as.map V.ref)) else match (as.zip ps).lookup b with
  | some p => some (.tup [p.1, p.2])
  | none => H b
def Sq (K : PySem.W.Frag) (H : Hp) (a : Addr) (xs : List V) : Prop := SqL K H a xs ∨ SqT K H a xs
theorem sq_begins {X : Cx} {pins : List (Addr × Obj)} {σ : L2.St} {H : Hp} {s : Shared} {a : Addr} {xs : List V} (I : Inv X pins σ H s) (h : Sq X.K H a xs) :
    ∃ (its : List Value) (o : Obj) (C : Heap → Prop), Begins (.ref a) o C ∧ C s.heap ∧ Vals xs its ∧ xs.length ≤ sizeLine ∧ a < s.heap.objs.size ∧
      ∀ it, a ≠ it → ∃ St : Nat → Heap → Prop, (∀ A' : Around, A'.handled = none → Draws X.prog X.w A' it [it, a] its.length (fun i v => its[i]? = some v) St) ∧ ∀ h' : Heap, h'.get? it = some o → C h' → St 0 h' := by
  rcases h with h | h
  · obtain ⟨its, rv, p, z⟩ := I.list h
    refine ⟨its, _, _, begins_list a its.toArray, p.isList, rv, z, (let ⟨_, e, _⟩ := p.isList; Heap.lt_size e), fun it hne => ⟨fun i h => h.IsListIter it a i ∧ h.IsList a its.toArray, fun A' hA => ?_, fun h' e c => ⟨⟨_, e, rfl, rfl⟩, c⟩⟩⟩
    have D := Draws.list (prog := X.prog) (w := X.w) (A := A') hA it a hne its.toArray
    simpa using D
  · obtain ⟨its, rv, p, z⟩ := I.tuple h
    refine ⟨its, _, _, begins_tuple a its.toArray, p, rv, z, ?_, fun it hne => ⟨fun i h => h.IsTupleIter it a i ∧ h.IsTuple a its.toArray, fun A' hA => ?_, fun h' e c => ⟨⟨_, e, rfl, rfl⟩, c⟩⟩⟩
    · obtain ⟨_, e, _⟩ := id p
      exact Heap.lt_size e
    · have D := Draws.tuple (prog := X.prog) (w := X.w) (A := A') hA it a hne its.toArray
      simpa using D
/-- the list and the tuples of the pairs are there -/
structure Zipped (H H' : Hp) (p : Addr) (ts : List Addr) (xs ys : List V) : Prop where
  ex : Ex H H'
  new : H p = none
  lst : H' p = some (.lst (ts.map V.ref))
  len : ts.length = xs.length
  tup : ∀ (i : Nat) (t : Addr) (x y : V), ts[i]? = some t → xs[i]? = some x → ys[i]? = some y → H' t = some (.tup [x, y])
def tListZip (K : PySem.W.Frag) (ta : TA) : TE := fun σ H Q => ta σ H fun vs H1 => ∃ a b xs ys, vs = [.ref a, .ref b] ∧ Sq K H1 a xs ∧ Sq K H1 b ys ∧ xs.length = ys.length ∧ ∀ H2 p ts, Zipped H1 H2 p ts xs ys → Q (.ref p) H2
theorem pe_listZip {X : Cx} {e e2 : Expr} {ta : TA} {p pos p2 pos2 : Pos} (hc : X.calm = true) (hg : Gl X "list") (hm : X.mg "list" = none) (hg2 : Gl X "zip") (hm2 : X.mg "zip" = none) (ha : PA X [e, e2] ta)
    (hs : starEach [e, e2] X.env = (false, eval e X.env) :: starEach [e2] X.env := by rfl) (hpl : (backTo pos2 (starEach [e2] X.env)).any (·.1) = false := by rfl)
    (na : starEach [.Call (.Name "zip" p2) [e, e2] [] pos2] X.env = (false, eval (.Call (.Name "zip" p2) [e, e2] [] pos2) X.env) :: starEach [] X.env := by rfl) :
    PE X (.Call (.Name "list" p) [.Call (.Name "zip" p2) [e, e2] [] pos2] [] pos) (tListZip X.K ta) := by
  refine ⟨fun pins s σ H Q I h => ?_⟩
  refine Call_ (ld_blt I hg hm boot_list (PyProof.Rows.callWith_type1 (args_cons ?_ na) na))
  refine Call_ (ld_blt I hg2 hm2 PyProof.Rows.boot_zip (PyProof.Rows.callWith_type1 (thn (ha.run pos2 pins s σ H _ I h) fun us s1 ⟨vs, H1, J, rv, q⟩ => ?_) hs hpl))
  obtain ⟨a, b, xs, ys, ev, hx, hy, hl, q⟩ := q
  subst ev
  obtain ⟨u1, us1, e1, r1, rv1⟩ : ∃ u1 us1, us = u1 :: us1 ∧ RelV (.ref a) u1 ∧ Vals [.ref b] us1 := by
    cases rv with
    | cons r rr => exact ⟨_, _, rfl, r, rr⟩
  obtain ⟨u2, e2', r2⟩ := vals1 rv1
  subst e1 e2'
  cases r1
  cases r2
  obtain ⟨its1, o1, C1, B1, c1, v1, z1, l1, D1⟩ := sq_begins J hx
  obtain ⟨its2, o2, C2, B2, c2, v2, z2, l2, D2⟩ := sq_begins J hy
  have n1 := v1.length
  have n2 := v2.length
  refine zip_begins2 B1 B2 c1 c2 fun h' hz hI hO g1 g2 hsz hk => args_nil ?_
  obtain ⟨St1, D1, S1⟩ := D1 s1.heap.objs.size (Nat.ne_of_lt l1)
  obtain ⟨St2, D2, S2⟩ := D2 (s1.heap.objs.size + 1) (Nat.ne_of_lt (Nat.lt_succ_of_lt l2))
  have el : its2.length = its1.length := by omega
  rw [el] at D2
  have J' : Inv X pins σ H1 { s1 with heap := h', toks := s1.toks } := J.kept hk
  have f1 : ∀ c ∈ [a], c < s1.heap.objs.size := fun c hc => by rw [List.mem_singleton.mp hc]; exact l1
  have f2 : ∀ c ∈ [b], c < s1.heap.objs.size := fun c hc => by rw [List.mem_singleton.mp hc]; exact l2
  refine zl_call (s := { s1 with heap := h' }) (J.ok.hd hc) (zip_sep2 f1 f2) D1 D2 hz hI hO (S1 _ g1 (B1.keeps _ _ c1 hk)) (S2 _ g2 (B2.keeps _ _ c2 hk)) ?_ ?_ (by omega) fun h2 tk acc c as kp hL hal hG hacc => ?_
  · intro c hc
    show c < h'.objs.size
    rw [hsz]
    rcases List.mem_cons.mp hc with rfl | hc
    · first | exact Nat.lt_add_of_pos_right (by decide) | exact Nat.add_lt_add_left (by decide : 1 < 5) _
    · exact Nat.lt_of_lt_of_le (f1 c hc) (Nat.le_add_right _ _)
  · intro c hc
    show c < h'.objs.size
    rw [hsz]
    rcases List.mem_cons.mp hc with rfl | hc
    · first | exact Nat.lt_add_of_pos_right (by decide) | exact Nat.add_lt_add_left (by decide : 1 < 5) _
    · exact Nat.lt_of_lt_of_le (f2 c hc) (Nat.le_add_right _ _)
  have kp2 : ∀ b o, s1.heap.get? b = some o → h2.get? b = some o := fun b o e => by
    have lb := Heap.lt_size e
    have ne : ∀ k : Nat, b ≠ s1.heap.objs.size + k := fun k => Nat.ne_of_lt (Nat.lt_of_lt_of_le lb (Nat.le_add_right _ _))
    exact kp b o (ne 4) (ne 3) (ne 0) (ne 1) (hk b o e)
  have hLs : h'.objs.size = s1.heap.objs.size + 5 := hsz
  have nd : as.Nodup := hG.rise.imp fun h => Nat.ne_of_lt h
  have lps : as.length = (xs.zip ys).length := by rw [List.length_zip]; omega
  have gz : ∀ (j : Nat) (a : Addr) (p : V × V), as[j]? = some a → (xs.zip ys)[j]? = some p → ∃ u1 u2, RelV p.1 u1 ∧ RelV p.2 u2 ∧ IsTupOf2 h2 a u1 u2 := fun j a p ea ep => by
    obtain ⟨u1, u2, e1, e2, e3⟩ := hG.pairs j a ea
    have ep := List.getElem?_zip_eq_some.mp ep
    obtain ⟨w1, g1, r1⟩ := v1.get ep.1
    obtain ⟨w2, g2, r2⟩ := v2.get ep.2
    rw [e1] at g1
    rw [e2] at g2
    cases g1
    cases g2
    exact ⟨u1, u2, r1, r2, e3⟩
  have up : ∀ b u, H1 b = some u → putZ H1 h'.objs.size as (xs.zip ys) b = some u := fun b u e => by
    have lb : b < s1.heap.objs.size := J.hok.lt e
    have lbL : b < h'.objs.size := by rw [hLs]; exact Nat.lt_of_lt_of_le lb (Nat.le_add_right _ _)
    unfold putZ
    rw [if_neg (Nat.ne_of_lt lbL)]
    cases hlk : (as.zip (xs.zip ys)).lookup b with
    | none => exact e
    | some p =>
      obtain ⟨j, ea, _⟩ := lookup_got _ _ _ _ hlk
      have := hG.above b (List.mem_of_getElem? ea)
      exact absurd (Nat.lt_trans lbL this) (Nat.lt_irrefl _)
  have F : Zipped H1 (putZ H1 h'.objs.size as (xs.zip ys)) h'.objs.size as xs ys := by
    refine ⟨fun b u e => up b u e, J.hok.fresh (by rw [hLs]; exact Nat.le_add_right _ _), by unfold putZ; rw [if_pos rfl], by omega, fun i t x y e1 e2 e3 => ?_⟩
    unfold putZ
    have ht : h'.objs.size < t := hG.above t (List.mem_of_getElem? e1)
    rw [if_neg (Nat.ne_of_gt ht), lookup_zip as (xs.zip ys) nd i t (x, y) e1 (List.getElem?_zip_eq_some.mpr ⟨e2, e3⟩)]
  refine ⟨.ref h'.objs.size, putZ H1 h'.objs.size as (xs.zip ys), J.more kp2 up fun b u e => ?_, rfl, q _ _ _ F⟩
  unfold putZ at e
  by_cases hb : b = h'.objs.size
  · rw [if_pos hb] at e
    cases e
    subst hb
    refine .inr ⟨by rw [hLs]; exact Nat.le_add_right _ _, ?_, acc.toList, c, ?_, ?_⟩
    · rw [List.length_map]; omega
    · rw [hacc]
      clear hacc lps gz up F nd hal hG
      induction as with
      | nil => exact .nil
      | cons x r ih => exact .cons rfl ih
    · rw [Array.toArray_toList]; exact hL
  · rw [if_neg hb] at e
    cases hlk : (as.zip (xs.zip ys)).lookup b with
    | none => rw [hlk] at e; exact .inl e
    | some p =>
      rw [hlk] at e
      cases e
      obtain ⟨j, ea, ep⟩ := lookup_got _ _ _ _ hlk
      obtain ⟨u1, u2, r1, r2, e3⟩ := gz j b p ea ep
      have : h'.objs.size < b := hG.above b (List.mem_of_getElem? ea)
      exact .inr ⟨Nat.le_trans (by rw [hLs]; exact Nat.le_add_right _ _) (Nat.le_of_lt this), sz_of (Nat.le_of_ble_eq_true rfl), [u1, u2], .cons r1 (.cons r2 .nil), ⟨_, e3, rfl, _, rfl⟩⟩
theorem w_listZip {K : PySem.W.Frag} {ta : TA} {σ : L2.St} {H : Hp} {Q : VK} (h : ta σ H fun vs H1 => ∃ a b xs ys, vs = [.ref a, .ref b] ∧ Sq K H1 a xs ∧ Sq K H1 b ys ∧ xs.length = ys.length ∧ ∀ H2 p ts, Zipped H1 H2 p ts xs ys → Q (.ref p) H2) : tListZip K ta σ H Q := h
end Ly
set_option Elab.async false
set_option linter.all false
set_option maxRecDepth 100000
set_option maxHeartbeats 2000000
namespace Ly
open PySem PySem.Spec PyProof.Rows L2 Evl
def digz (d : Nat) : List Nat := if d < 10 then [48 + d] else [48 + d / 10, 48 + d % 10]
theorem digz_str : ∀ d : Nat, d < 100 → Str.ofString (toString (d : Int)) = pl (digz d) ∧ (d : Int).natAbs.log2 < 1920 := by decide +kernel
def nmN (k : Nat) : List Nat := if k / 26 = 0 then [97 + k % 26] else (97 + k % 26) :: digz (k / 26)
theorem digz_ok {d : Nat} (h : d < 100) : (digz d).all isDig = true ∧ (digz d).length ≤ 2 := by
  unfold digz
  split
  · exact ⟨by simp [isDig]; omega, by simp⟩
  · exact ⟨by simp [isDig]; omega, by simp⟩
theorem nm_ok {k : Nat} (h : k < 2600) : IsNm (nmN k) := by
  have h1 : k / 26 < 100 := by omega
  have h2 := digz_ok h1
  unfold nmN
  have h3 : isLow (97 + k % 26) = true := by simp [isLow]; omega
  split
  · exact ⟨_, [], rfl, h3, rfl, by simp⟩
  · exact ⟨_, _, rfl, h3, h2.1, by omega⟩
def unN : List Nat → Nat
  | [c] => c - 97
  | [c, a] => (a - 48) * 26 + (c - 97)
  | [c, a, b] => ((a - 48) * 10 + (b - 48)) * 26 + (c - 97)
  | _ => 0
theorem un_nm (k : Nat) : k < 2600 → unN (nmN k) = k := fun h => by
  unfold nmN digz
  split
  · show 97 + k % 26 - 97 = k
    omega
  · split
    · show (48 + k / 26 - 48) * 26 + (97 + k % 26 - 97) = k
      omega
    · show ((48 + k / 26 / 10 - 48) * 10 + (48 + k / 26 % 10 - 48)) * 26 + (97 + k % 26 - 97) = k
      omega
theorem nm_inj {i j : Nat} (hi : i < 2600) (hj : j < 2600) (h : nmN i = nmN j) : i = j := by rw [← un_nm i hi, ← un_nm j hj, h]
/-- the first n names of the list, without those of fs -/
def own (fs : List (List Nat)) : Nat → List (List Nat)
  | 0 => []
  | n + 1 => own fs n ++ if nmN n ∈ fs then [] else [nmN n]
theorem own_yes {fs : List (List Nat)} {n : Nat} (h : nmN n ∈ fs) : own fs (n + 1) = own fs n := by
  show own fs n ++ _ = _
  rw [if_pos h, List.append_nil]
theorem own_no {fs : List (List Nat)} {n : Nat} (h : nmN n ∉ fs) : own fs (n + 1) = own fs n ++ [nmN n] := by
  show own fs n ++ _ = _
  rw [if_neg h]
theorem own_le (fs : List (List Nat)) : ∀ n, (own fs n).length ≤ n
  | 0 => Nat.le_refl _
  | n + 1 => by
    have ih := own_le fs n
    by_cases h : nmN n ∈ fs
    · rw [own_yes h]; omega
    · rw [own_no h, List.length_append, List.length_singleton]; omega
/-- how many of the first n names stand in fs -/
def hits (fs : List (List Nat)) : Nat → List (List Nat)
  | 0 => []
  | n + 1 => hits fs n ++ if nmN n ∈ fs then [nmN n] else []
theorem own_hits (fs : List (List Nat)) : ∀ n, (own fs n).length + (hits fs n).length = n
  | 0 => rfl
  | n + 1 => by
    have ih := own_hits fs n
    by_cases h : nmN n ∈ fs
    · rw [own_yes h]
      show _ + (hits fs n ++ _).length = _
      rw [if_pos h, List.length_append, List.length_singleton]
      omega
    · rw [own_no h, List.length_append]
      show _ + (hits fs n ++ _).length = _
      rw [if_neg h, List.length_append, List.length_singleton, List.length_nil]
      omega
theorem hits_mem {fs : List (List Nat)} {w : List Nat} : ∀ {n : Nat}, w ∈ hits fs n → w ∈ fs ∧ ∃ k, k < n ∧ w = nmN k
  | 0, h => by cases h
  | n + 1, h => by
    rcases List.mem_append.mp (show w ∈ hits fs n ++ _ from h) with h | h
    · obtain ⟨h1, k, h2, h3⟩ := hits_mem h
      exact ⟨h1, k, by omega, h3⟩
    · split at h
      · rename_i hm
        rw [List.mem_singleton.mp h]
        exact ⟨hm, n, by omega, rfl⟩
      · cases h
theorem hits_nodup (fs : List (List Nat)) : ∀ {n : Nat}, n ≤ 2600 → (hits fs n).Nodup
  | 0, _ => List.nodup_nil
  | n + 1, h => by
    have ih := hits_nodup fs (n := n) (by omega)
    show (hits fs n ++ _).Nodup
    split
    · refine List.nodup_append.mpr ⟨ih, by simp, fun a ha b hb e => ?_⟩
      rw [List.mem_singleton.mp hb] at e
      obtain ⟨_, k, hk, e2⟩ := hits_mem ha
      have := nm_inj (by omega) (by omega) (e2.symm.trans e)
      omega
    · rw [List.append_nil]; exact ih
theorem nodup_leS {α : Type} [DecidableEq α] : ∀ {xs ys : List α}, xs.Nodup → (∀ x ∈ xs, x ∈ ys) → xs.length ≤ ys.length
  | [], _, _, _ => Nat.zero_le _
  | x :: xs, ys, nd, h => by
    obtain ⟨n1, n2⟩ := List.nodup_cons.mp nd
    have hx := h x List.mem_cons_self
    have ih := nodup_leS (xs := xs) (ys := ys.erase x) n2 fun y hy => (List.mem_erase_of_ne (fun e => n1 (by rw [← e]; exact hy))).mpr (h y (List.mem_cons_of_mem _ hy))
    have := List.length_erase_of_mem hx
    have := List.length_pos_of_mem hx
    rw [List.length_cons]
    omega
theorem own_len {fs : List (List Nat)} {n : Nat} (h : n ≤ 2600) : n ≤ (own fs n).length + fs.length := by
  have h1 := own_hits fs n
  have h2 := nodup_leS (hits_nodup fs h) fun w hw => (hits_mem hw).1
  omega
theorem own_mem {fs : List (List Nat)} {w : List Nat} : ∀ {n : Nat}, w ∈ own fs n → w ∉ fs ∧ ∃ k, k < n ∧ w = nmN k
  | 0, h => by cases h
  | n + 1, h => by
    rcases List.mem_append.mp (show w ∈ own fs n ++ _ from h) with h | h
    · obtain ⟨h1, k, h2, h3⟩ := own_mem h
      exact ⟨h1, k, by omega, h3⟩
    · split at h
      · cases h
      · rename_i hm
        rw [List.mem_singleton.mp h]
        exact ⟨hm, n, by omega, rfl⟩
theorem own_nm {fs : List (List Nat)} {n : Nat} (h : n ≤ 2600) : ∀ w ∈ own fs n, IsNm w := fun w hw => by
  obtain ⟨_, k, hk, rfl⟩ := own_mem hw
  exact nm_ok (by omega)
theorem own_ext (fs : List (List Nat)) (m : Nat) : ∀ k, ∃ r, own fs (m + k) = own fs m ++ r
  | 0 => ⟨[], by simp⟩
  | k + 1 => by
    obtain ⟨r, e⟩ := own_ext fs m k
    exact ⟨r ++ if nmN (m + k) ∈ fs then [] else [nmN (m + k)], by rw [← List.append_assoc, ← e]; rfl⟩
theorem own_pre {fs : List (List Nat)} {m n : Nat} (h : m ≤ n) : ∃ r, own fs n = own fs m ++ r := by
  obtain ⟨r, e⟩ := own_ext fs m (n - m)
  exact ⟨r, by rw [← e, show m + (n - m) = n by omega]⟩
def Tm.isL : Tm → Bool
  | .lam _ => true
  | _ => false
def Tm.isV : Tm → Bool
  | .var _ => true
  | _ => false
def par (c : Bool) (w : List Nat) : List Nat := if c = true then 40 :: (w ++ [41]) else w
/-- an abstraction's text -/
def abT (c : Bool) (n b : List Nat) : List Nat := if c = true then 92 :: (n ++ 32 :: b.drop 1) else 92 :: (n ++ 46 :: 32 :: b)
def shw (bs fs : List (List Nat)) : Nat → Tm → List Nat
  | d, .var i => if i < d then bs.getD (d - 1 - i) [] else fs.getD (i - d) []
  | d, .lam b => abT b.isL (bs.getD d []) (shw bs fs (d + 1) b)
  | d, .app f a => par f.isL (shw bs fs d f) ++ 32 :: par (!a.isV) (shw bs fs d a)
/-- the variables have names -/
def okF (m : Nat) : Nat → Tm → Prop
  | d, .var i => i < d + m
  | d, .lam b => okF m (d + 1) b
  | d, .app f a => okF m d f ∧ okF m d a
def Tm.lams : Tm → Nat
  | .var _ => 0
  | .lam b => b.lams + 1
  | .app f a => f.lams + a.lams
theorem lams_count : ∀ t : Tm, t.enc.countP (fun y => decide (y = V.str "lam")) = t.lams
  | .var i => by
    show (List.countP _ [V.int (i : Int)]) = 0
    simp
  | .lam b => by
    have := lams_count b
    show (List.countP _ (V.str "lam" :: b.enc)) = b.lams + 1
    rw [List.countP_cons, this]
    simp
  | .app f a => by
    have h1 := lams_count f
    have h2 := lams_count a
    show (List.countP _ (V.str "app" :: (f.enc ++ a.enc))) = f.lams + a.lams
    rw [List.countP_cons, List.countP_append, h1, h2]
    have : ¬ (V.str "app" = V.str "lam") := by decide +kernel
    simp [this]
theorem lams_le : ∀ t : Tm, t.lams + 1 ≤ t.enc.length
  | .var _ => Nat.le_refl _
  | .lam b => by
    have := lams_le b
    simp only [Tm.lams, Tm.enc, List.length_cons]
    omega
  | .app f a => by
    have := lams_le f
    have := lams_le a
    simp only [Tm.lams, Tm.enc, List.length_cons, List.length_append]
    omega
/-- a name of point 7 -/
def nmB : List Nat → Bool
  | [] => false
  | c :: ds => isLow c && ds.all isDig && decide (ds.length ≤ 9)
theorem nmB_of {w : List Nat} (h : IsNm w) : nmB w = true := by
  obtain ⟨c, ds, rfl, hc, hd, hl⟩ := h.ex
  show (isLow c && ds.all isDig && decide (ds.length ≤ 9)) = true
  rw [hc, hd, decide_eq_true (by omega)]
  rfl
def Nms (ws : List (List Nat)) : Prop := ∀ w ∈ ws, nmB w = true
theorem Nms.get {ws : List (List Nat)} (h : Nms ws) {i : Nat} (hi : i < ws.length) : nmB (ws.getD i []) = true := by
  rw [List.getD_eq_getElem?_getD, List.getElem?_eq_getElem hi]
  exact h _ (List.getElem_mem hi)
theorem nm_head {w : List Nat} (h : nmB w = true) : ∃ c r, w = c :: r ∧ c ≠ 92 ∧ 32 ∉ w ∧ w.length ≤ 10 := by
  cases w with
  | nil => cases h
  | cons c ds => ?_
  have h : (isLow c && ds.all isDig && decide (ds.length ≤ 9)) = true := h
  rw [Bool.and_eq_true, Bool.and_eq_true] at h
  obtain ⟨⟨hc, hd⟩, hl⟩ := h
  have hl := of_decide_eq_true hl
  have hc := of_decide_eq_true hc
  refine ⟨c, ds, rfl, by omega, fun z => ?_, by simpa using hl⟩
  rcases List.mem_cons.mp z with e | z
  · omega
  · have := of_decide_eq_true (List.all_eq_true.mp hd _ z)
    omega
section
variable {bs fs : List (List Nat)} (hb : Nms bs) (hf : Nms fs)
include hb hf
theorem shw_var {d i : Nat} (hd : d ≤ bs.length) (h : i < d + fs.length) : nmB (shw bs fs d (.var i)) = true := by
  show nmB (if i < d then _ else _) = true
  split
  · exact hb.get (by omega)
  · exact hf.get (by omega)
theorem shw_head : ∀ (t : Tm) (d : Nat), d + t.lams ≤ bs.length → okF fs.length d t → ∃ c r, shw bs fs d t = c :: r ∧ (t.isL = true ↔ c = 92)
  | .var i, d, hd, h => by
    obtain ⟨c, r, e, hc, _⟩ := nm_head (shw_var hb hf (i := i) (by simpa [Tm.lams] using hd) h)
    exact ⟨c, r, e, by simp [Tm.isL, hc]⟩
  | .lam b, d, hd, h => by
    show ∃ c r, abT b.isL (bs.getD d []) (shw bs fs (d + 1) b) = c :: r ∧ _
    unfold abT
    split
    · exact ⟨92, _, rfl, by simp [Tm.isL]⟩
    · exact ⟨92, _, rfl, by simp [Tm.isL]⟩
  | .app f a, d, hd, h => by
    obtain ⟨c, r, e, hc⟩ := shw_head f d (by simp only [Tm.lams] at hd; omega) h.1
    show ∃ c r, par f.isL (shw bs fs d f) ++ _ = c :: r ∧ _
    unfold par
    split
    · exact ⟨40, _, rfl, by simp [Tm.isL]⟩
    · rename_i hl
      refine ⟨c, _, by rw [e]; rfl, ?_⟩
      have : c ≠ 92 := fun z => hl (hc.mpr z)
      simp [Tm.isL, this]
theorem shw_space : ∀ (t : Tm) (d : Nat), d + t.lams ≤ bs.length → okF fs.length d t → (32 ∈ shw bs fs d t ↔ t.isV = false)
  | .var i, d, hd, h => by
    obtain ⟨c, r, e, _, hc, _⟩ := nm_head (shw_var hb hf (i := i) (by simpa [Tm.lams] using hd) h)
    simp [Tm.isV, hc]
  | .lam b, d, hd, h => by
    refine ⟨fun _ => rfl, fun _ => ?_⟩
    show 32 ∈ abT _ _ _
    unfold abT
    split <;> simp
  | .app f a, d, hd, h => by
    refine ⟨fun _ => rfl, fun _ => ?_⟩
    show 32 ∈ par _ _ ++ 32 :: _
    simp
theorem shw_len : ∀ (t : Tm) (d : Nat), d + t.lams ≤ bs.length → okF fs.length d t → (shw bs fs d t).length ≤ 14 * t.enc.length
  | .var i, d, hd, h => by
    obtain ⟨c, r, e, _, hc, hl⟩ := nm_head (shw_var hb hf (i := i) (by simpa [Tm.lams] using hd) h)
    simp only [Tm.enc, List.length_singleton]
    omega
  | .lam b, d, hd, h => by
    simp only [Tm.lams] at hd
    have ih := shw_len b (d + 1) (by omega) h
    obtain ⟨_, _, _, _, _, hl⟩ := nm_head (hb.get (i := d) (by omega))
    show (abT _ _ _).length ≤ _
    unfold abT
    split <;> (simp only [List.length_cons, List.length_append, List.length_drop, Tm.enc]; omega)
  | .app f a, d, hd, h => by
    simp only [Tm.lams] at hd
    have i1 := shw_len f d (by omega) h.1
    have i2 := shw_len a d (by omega) h.2
    show (par _ _ ++ 32 :: par _ _).length ≤ _
    unfold par
    split <;> split <;> (simp only [List.length_cons, List.length_append, List.length_nil, Tm.enc]; omega)
end
/-- names from longer lists are the same -/
theorem shw_more {bs fs r : List (List Nat)} : ∀ (t : Tm) (d : Nat), d + t.lams ≤ bs.length → shw (bs ++ r) fs d t = shw bs fs d t
  | .var i, d, hd => by
    simp only [Tm.lams] at hd
    show (if i < d then _ else _) = if i < d then _ else _
    split
    · rw [List.getD_eq_getElem?_getD, List.getD_eq_getElem?_getD, List.getElem?_append_left (by omega)]
    · rfl
  | .lam b, d, hd => by
    simp only [Tm.lams] at hd
    show abT _ _ _ = abT _ _ _
    rw [shw_more b (d + 1) (by omega), List.getD_eq_getElem?_getD, List.getD_eq_getElem?_getD, List.getElem?_append_left (by omega)]
  | .app f a, d, hd => by
    simp only [Tm.lams] at hd
    show par _ _ ++ 32 :: par _ _ = par _ _ ++ 32 :: par _ _
    rw [shw_more f d (by omega), shw_more a d (by omega)]
def joinW : List (List Nat) → List Nat
  | [] => []
  | [w] => w
  | w :: r => w ++ 32 :: joinW r
theorem join_pl (ws : List (List Nat)) : Txt.join (pl [32]) (ws.map pl) = pl (joinW ws) := by
  show Builtin.Str.glued _ _ = _
  rw [StrLaws.glued_eq_join]
  induction ws with
  | nil => decide +kernel
  | cons w r ih =>
    cases r with
    | nil => rfl
    | cons v r =>
      show pl w ++ pl [32] ++ Str.join (pl [32]) ((v :: r).map pl) = _
      rw [ih, pl_app, pl_app, List.append_assoc]
      rfl
theorem starts_pl (c : Nat) (r : List Nat) : Txt.startswith (pl (c :: r)) (pl [92]) = decide (c = 92) := by
  unfold Txt.startswith
  rw [pl_len, pl_len, StrLaws.subAt_eq, pl_len]
  by_cases h : c = 92 <;> simp [pl, h]
theorem drop_getW {bs : List (List Nat)} {d : Nat} (h : d < bs.length) (n : Nat) : (bs.drop d).take (n + 1) = bs.getD d [] :: (bs.drop (d + 1)).take n := by
  rw [List.drop_eq_getElem_cons h, List.take_succ_cons, List.getD_eq_getElem?_getD, List.getElem?_eq_getElem h]
  rfl
theorem shw_lamN {bs fs : List (List Nat)} {b : Tm} (hb : b.isL = false) : ∀ (n d : Nat), d + n + 1 ≤ bs.length → shw bs fs d (Tm.lamN (n + 1) b) = 92 :: (joinW ((bs.drop d).take (n + 1)) ++ 46 :: 32 :: shw bs fs (d + n + 1) b)
  | 0, d, h => by
    show abT b.isL _ _ = _
    rw [hb, drop_getW (by omega)]
    rfl
  | n + 1, d, h => by
    have ih := shw_lamN (bs := bs) (fs := fs) hb n (d + 1) (by omega)
    show abT true _ (shw bs fs (d + 1) (Tm.lamN (n + 1) b)) = _
    rw [ih, drop_getW (bs := bs) (d := d) (by omega) (n + 1), show d + 1 + n + 1 = d + (n + 1) + 1 by omega]
    have hne : ∃ w r, (bs.drop (d + 1)).take (n + 1) = w :: r := ⟨_, _, drop_getW (bs := bs) (d := d + 1) (by omega) n⟩
    obtain ⟨w, r, e⟩ := hne
    rw [e]
    show 92 :: (bs.getD d [] ++ 32 :: (joinW (w :: r) ++ _)) = 92 :: ((bs.getD d [] ++ 32 :: joinW (w :: r)) ++ _)
    rw [List.append_assoc]
    rfl
def fo (t : Tm) : Nat → List (Tm × Nat)
  | 0 => [(t, 0)]
  | i + 1 => match fo t i with
    | [] => []
    | (.var _, _) :: r => r
    | (.lam b, d) :: r => (b, d + 1) :: r
    | (.app f a, d) :: r => (f, d) :: (a, d) :: r
def encP (ps : List (Tm × Nat)) : List V := (ps.map fun p => p.1.enc).flatten
def depP (ps : List (Tm × Nat)) : List Nat := (ps.map fun p => p.1.deps p.2).flatten
theorem encP_cons (t : Tm) (d : Nat) (r : List (Tm × Nat)) : encP ((t, d) :: r) = t.enc ++ encP r := by simp [encP]
theorem depP_cons (t : Tm) (d : Nat) (r : List (Tm × Nat)) : depP ((t, d) :: r) = t.deps d ++ depP r := by simp [depP]
theorem fo_drop (t : Tm) : ∀ i, i ≤ t.enc.length → t.enc.drop i = encP (fo t i) ∧ (t.deps 0).drop i = depP (fo t i)
  | 0, _ => by simp [fo, encP, depP]
  | i + 1, h => by
    obtain ⟨h1, h2⟩ := fo_drop t i (by omega)
    have e1 : t.enc.drop (i + 1) = (t.enc.drop i).drop 1 := by rw [List.drop_drop]
    have e2 : (t.deps 0).drop (i + 1) = ((t.deps 0).drop i).drop 1 := by rw [List.drop_drop]
    rw [e1, e2, h1, h2]
    cases hf : fo t i with
    | nil =>
      rw [hf] at h1
      have := congrArg List.length h1
      simp [encP] at this
      omega
    | cons p r =>
      obtain ⟨u, d⟩ := p
      rw [encP_cons, depP_cons]
      have e3 : fo t (i + 1) = (match (u, d) :: r with
        | [] => []
        | (.var _, _) :: r => r
        | (.lam b, d) :: r => (b, d + 1) :: r
        | (.app f a, d) :: r => (f, d) :: (a, d) :: r) := by rw [← hf]; rfl
      rw [e3]
      cases u with
      | var n => exact ⟨rfl, rfl⟩
      | lam b => exact ⟨by rw [encP_cons]; rfl, by rw [depP_cons]; rfl⟩
      | app f a => exact ⟨by rw [encP_cons, encP_cons, ← List.append_assoc]; rfl, by rw [depP_cons, depP_cons, ← List.append_assoc]; rfl⟩
theorem fo_end (t : Tm) : fo t t.enc.length = [] := by
  have h := (fo_drop t _ (Nat.le_refl _)).1
  rw [List.drop_length] at h
  cases hf : fo t t.enc.length with
  | nil => rfl
  | cons p r =>
    rw [hf] at h
    have h2 : p.1.enc ++ encP r = [] := by rw [h]; simp [encP]
    exact absurd (List.append_eq_nil_iff.mp h2).1 p.1.enc_ne
/-- what a node is, and the forests before and behind it -/
inductive FoAt (t : Tm) (i : Nat) (v : V) (d : Nat) : Prop
  | var (n : Nat) (r) : v = .int (n : Int) → fo t i = (.var n, d) :: r → fo t (i + 1) = r → FoAt t i v d
  | lam (b : Tm) (r) : v = .str "lam" → fo t i = (.lam b, d) :: r → fo t (i + 1) = (b, d + 1) :: r → FoAt t i v d
  | app (f a : Tm) (r) : v = .str "app" → fo t i = (.app f a, d) :: r → fo t (i + 1) = (f, d) :: (a, d) :: r → FoAt t i v d
theorem fo_at {t : Tm} {i : Nat} {v : V} {d : Nat} (hv : t.enc[i]? = some v) (hd : (t.deps 0)[i]? = some d) : FoAt t i v d := by
  have hi := (List.getElem?_eq_some_iff.mp hv).1
  obtain ⟨h1, h2⟩ := fo_drop t i (by omega)
  cases hf : fo t i with
  | nil =>
    rw [hf] at h1
    have := congrArg List.length h1
    simp [encP] at this
    omega
  | cons p r =>
    obtain ⟨u, d'⟩ := p
    have e3 : fo t (i + 1) = (match (u, d') :: r with
      | [] => []
      | (.var _, _) :: r => r
      | (.lam b, d) :: r => (b, d + 1) :: r
      | (.app f a, d) :: r => (f, d) :: (a, d) :: r) := by rw [← hf]; rfl
    rw [hf, encP_cons, drop_at hv] at h1
    rw [hf, depP_cons, drop_at hd] at h2
    cases u with
    | var n =>
      have a1 := (List.cons.inj (show v :: _ = V.int n :: _ from h1)).1
      have a2 := (List.cons.inj (show d :: _ = d' :: _ from h2)).1
      subst a2
      exact .var n r a1 hf e3
    | lam b =>
      have a1 := (List.cons.inj (show v :: _ = V.str "lam" :: _ from h1)).1
      have a2 := (List.cons.inj (show d :: _ = d' :: _ from h2)).1
      subst a2
      exact .lam b r a1 hf e3
    | app f a =>
      have a1 := (List.cons.inj (show v :: _ = V.str "app" :: _ from h1)).1
      have a2 := (List.cons.inj (show d :: _ = d' :: _ from h2)).1
      subst a2
      exact .app f a r a1 hf e3
theorem fo_lams (t : Tm) : ∀ i, ∀ p ∈ fo t i, p.2 + p.1.lams ≤ t.lams
  | 0, p, hp => by
    rw [show fo t 0 = [(t, 0)] from rfl] at hp
    rw [List.mem_singleton.mp hp]
    exact Nat.le_of_eq (Nat.zero_add _)
  | i + 1, p, hp => by
    have ih := fo_lams t i
    rw [show fo t (i + 1) = (match fo t i with
      | [] => []
      | (.var _, _) :: r => r
      | (.lam b, d) :: r => (b, d + 1) :: r
      | (.app f a, d) :: r => (f, d) :: (a, d) :: r) from rfl] at hp
    split at hp
    · cases hp
    · rename_i r e
      rw [e] at ih
      exact ih p (List.mem_cons_of_mem _ hp)
    · rename_i b d r e
      rw [e] at ih
      rcases List.mem_cons.mp hp with rfl | hp
      · have := ih _ List.mem_cons_self
        simp only [Tm.lams] at this
        show d + 1 + b.lams ≤ _
        omega
      · exact ih p (List.mem_cons_of_mem _ hp)
    · rename_i f a d r e
      rw [e] at ih
      have h0 := ih _ List.mem_cons_self
      simp only [Tm.lams] at h0
      rcases List.mem_cons.mp hp with rfl | hp
      · show d + f.lams ≤ _
        omega
      · rcases List.mem_cons.mp hp with rfl | hp
        · show d + a.lams ≤ _
          omega
        · exact ih p (List.mem_cons_of_mem _ hp)
theorem fo_ok {t : Tm} {m : Nat} (h : okF m 0 t) : ∀ i, ∀ p ∈ fo t i, okF m p.2 p.1
  | 0, p, hp => by
    rw [show fo t 0 = [(t, 0)] from rfl] at hp
    rw [List.mem_singleton.mp hp]
    exact h
  | i + 1, p, hp => by
    have ih := fo_ok h i
    rw [show fo t (i + 1) = (match fo t i with
      | [] => []
      | (.var _, _) :: r => r
      | (.lam b, d) :: r => (b, d + 1) :: r
      | (.app f a, d) :: r => (f, d) :: (a, d) :: r) from rfl] at hp
    split at hp
    · cases hp
    · rename_i r e
      rw [e] at ih
      exact ih p (List.mem_cons_of_mem _ hp)
    · rename_i b d r e
      rw [e] at ih
      rcases List.mem_cons.mp hp with rfl | hp
      · exact ih (.lam b, d) List.mem_cons_self
      · exact ih p (List.mem_cons_of_mem _ hp)
    · rename_i f a d r e
      rw [e] at ih
      have h0 := ih _ List.mem_cons_self
      rcases List.mem_cons.mp hp with rfl | hp
      · exact h0.1
      · rcases List.mem_cons.mp hp with rfl | hp
        · exact h0.2
        · exact ih p (List.mem_cons_of_mem _ hp)
theorem encP_le : ∀ ps : List (Tm × Nat), ps.length ≤ (encP ps).length ∧ ∀ p ∈ ps, p.1.enc.length ≤ (encP ps).length
  | [] => ⟨Nat.zero_le _, fun p hp => nomatch hp⟩
  | (u, d) :: r => by
    obtain ⟨h1, h2⟩ := encP_le r
    have := List.length_pos_iff.mpr u.enc_ne
    rw [encP_cons, List.length_append, List.length_cons]
    refine ⟨by omega, fun p hp => ?_⟩
    rcases List.mem_cons.mp hp with rfl | hp
    · show u.enc.length ≤ _
      omega
    · have := h2 p hp
      omega
theorem fo_le {t : Tm} {i : Nat} (h : i ≤ t.enc.length) : (fo t i).length ≤ t.enc.length ∧ ∀ p ∈ fo t i, p.1.enc.length ≤ t.enc.length := by
  have e := congrArg List.length (fo_drop t i h).1
  rw [List.length_drop] at e
  obtain ⟨h1, h2⟩ := encP_le (fo t i)
  refine ⟨by omega, fun p hp => ?_⟩
  have := h2 p hp
  omega
/-- the texts that are written when the nodes from i on are done -/
def stk (bs fs : List (List Nat)) (t : Tm) (i : Nat) : List (List Nat) := ((fo t i).map fun p => shw bs fs p.2 p.1).reverse
end Ly
set_option Elab.async false
set_option linter.all false
set_option maxRecDepth 100000
set_option maxHeartbeats 2000000
namespace Ly
open PySem PySem.Spec PyProof.Rows L2 Evl
def rLCnt (K : PySem.W.Frag) : V → List V → Hp → VK → Prop := fun x xs H Q => ∃ (p : Addr) (ys : List V) (k : Str), x = .ref p ∧ xs = [.str k] ∧ SqL K H p ys ∧ (∀ y ∈ ys, (∃ i, y = .int i) ∨ ∃ z, y = .str z) ∧ Q (.int ((ys.countP (fun y => decide (y = .str k)) : Nat) : Int)) H
/-- a display of a tuple, held with its object -/
def tTupF (t : TA) : TE := fun σ H Q => t σ H fun xs H1 => xs.length ≤ sizeLine ∧ ∀ p ob, H1 p = none → ob.cls = .type "tuple" → ob.dict = none → Q (.ref p) (upd H1 p (.frz ob (.tup xs)))
theorem pe_tupF {X : Cx} {es : List Expr} {x1} {pos : Pos} {t : TA} (h : PA X es t) : PE X (.Tuple es x1 pos) (tTupF t) := by
  refine ⟨fun pins s σ H Q I hq => ?_⟩
  refine wpAny_Tuple_spliced (thn (h.run pos pins s σ H _ I hq) fun us s1 ⟨xs, H1, I1, r, z, q⟩ => ⟨by rw [← r.length]; exact z, ?_⟩)
  have hf : H1 s1.heap.objs.size = none := I1.hok.fresh (Nat.le_refl _)
  refine ⟨.ref s1.heap.objs.size, upd H1 s1.heap.objs.size (.frz { cls := .type "tuple", data := .seq us.toArray } (.tup xs)), I1.laid (t' := s1.toks) (fun b u e => Heap.get?_push_of_some _ e) (Nat.le_refl _) ?_, rfl, q _ _ hf rfl rfl⟩
  exact ⟨Heap.get?_push_size _ rfl, z, us, r, ⟨_, Heap.get?_push_size _ rfl, rfl, _, rfl⟩⟩
theorem w_tupD {tA : TA} {σ : L2.St} {H : Hp} {Q : VK} (h : tA σ H fun xs H1 => xs.length ≤ sizeLine ∧ ∀ p ob, H1 p = none → ob.cls = .type "tuple" → ob.dict = none → Q (.ref p) (upd H1 p (.frz ob (.tup xs)))) : tTupF tA σ H Q := h
theorem ne_flat {α : Type} {own : List α} (h : own ≠ []) : (List.replicate own.length [V.str "lam"]).flatten ≠ [] := by
  cases own with
  | nil => exact absurd rfl h
  | cons a r => rw [List.length_cons, List.replicate_succ]; simp
theorem count_plcs (ws : List (List Nat)) (r : List Nat) : (plcs ws).countP (fun y => decide (y = V.str (pl r))) = ws.count r := by
  induction ws with
  | nil => rfl
  | cons w ws ih =>
    show (V.str (pl w) :: plcs ws).countP _ = _
    rw [List.countP_cons, List.count_cons, ih]
    by_cases e : w = r
    · subst e; simp
    · have : ¬ (V.str (pl w) = V.str (pl r)) := fun z => e (pl_inj (V.str.inj z))
      simp [this, e]
theorem pl_sp : (" " : Str) = pl [32] := by decide +kernel
theorem pl_dsp : (". " : Str) = pl [46, 32] := by decide +kernel
theorem getD_at {ws : List (List Nat)} {i : Nat} (h : i < ws.length) : ws[i]? = some (ws.getD i []) := by
  rw [List.getD_eq_getElem?_getD, List.getElem?_eq_getElem h]
  rfl
theorem plcs_at {ws : List (List Nat)} {i : Nat} (h : i < ws.length) : (plcs ws)[i]? = some (.str (pl (ws.getD i []))) := by
  rw [List.getElem?_map, getD_at h]
  rfl
theorem em_lp : Str.empty ++ ("(" : Str) = pl [40] := by decide +kernel
theorem lp_rp (w : List Nat) : pl w ++ (")" : Str) = pl (w ++ [41]) := by rw [← pl_rp, pl_app]
theorem sp_sp (w : List Nat) : pl w ++ (" " : Str) = pl (w ++ [32]) := by rw [pl_sp, pl_app]
theorem nms_sum : ∀ {ws : List (List Nat)}, Nms ws → (ws.map List.length).sum ≤ 10 * ws.length
  | [], _ => Nat.zero_le _
  | w :: r, h => by
    have ih := nms_sum (ws := r) fun v hv => h v (List.mem_cons_of_mem _ hv)
    obtain ⟨_, _, _, _, _, hl⟩ := nm_head (h w List.mem_cons_self)
    rw [List.map_cons, List.sum_cons, List.length_cons]
    omega
theorem join_len : ∀ ws : List (List Nat), (joinW ws).length ≤ (ws.map List.length).sum + ws.length
  | [] => Nat.zero_le _
  | [w] => by simp [joinW]
  | w :: v :: r => by
    have ih := join_len (v :: r)
    show (w ++ 32 :: joinW (v :: r)).length ≤ _
    rw [List.length_append, List.length_cons, List.map_cons, List.sum_cons, List.length_cons]
    omega
theorem pl_abc : ("abcdefghijklmnopqrstuvwxyz" : Str) = pl (List.range' 97 26) := by decide +kernel
theorem get_abc {c : Nat} (h : c < 26) : (List.range' 97 26)[c]? = some (97 + c) := by
  rw [List.getElem?_range' h, Nat.one_mul]
theorem fmod26 (n : Nat) : (n : Int).fmod ((26 : Nat) : Int) = ((n % 26 : Nat) : Int) := by
  rw [Int.fmod_eq_emod_of_nonneg _ (by omega)]
  rfl
theorem fdiv26 (n : Nat) : (n : Int).fdiv ((26 : Nat) : Int) = ((n / 26 : Nat) : Int) := by
  rw [Int.fdiv_eq_ediv_of_nonneg _ (by omega)]
  rfl
theorem let_in (c : Nat) : decide (c ∈ ("abcdefghijklmnopqrstuvwxyz" : Str).cps.toList) = isLow c := by
  have e : ("abcdefghijklmnopqrstuvwxyz" : Str).cps.toList = List.range' 97 26 := by decide +kernel
  rw [e]
  unfold isLow
  rw [decide_eq_decide, List.mem_range'_1]
  omega
theorem dig_in (c : Nat) : decide (c ∈ ("0123456789" : Str).cps.toList) = isDig c := by
  have e : ("0123456789" : Str).cps.toList = List.range' 48 10 := by decide +kernel
  rw [e]
  unfold isDig
  rw [decide_eq_decide, List.mem_range'_1]
  omega
section
variable {K : PySem.W.Frag} {H : Hp} {Q : VK} {σ : L2.St} {to te : TE} {R : It → Hp → Prop}
theorem w_lcnt {p : Addr} {ws : List (List Nat)} {r : List Nat} (h : H p = some (.lst (plcs ws))) (q : Q (.int (ws.count r : Nat)) H) : rLCnt K (.ref p) [.str (pl r)] H Q :=
  ⟨p, _, _, rfl, rfl, SqL.of h, fun y hy => by obtain ⟨w, _, rfl⟩ := List.mem_map.mp hy; exact .inr ⟨_, rfl⟩, by rw [count_plcs]; exact q⟩
theorem w_m1 {r : V → List V → Hp → VK → Prop} (h : to σ H fun x H1 => (∃ a, x = .str a) ∧ te σ H1 fun y H2 => r x [y] H2 Q) : tM1 r to te σ H Q := h
theorem w_m11 {z : Str} {B : Prop} (q : B) : (∃ a, V.str z = .str a) ∧ B := ⟨⟨z, rfl⟩, q⟩
theorem w_st2 {z u : Str} {B : Str → Str → Prop} (q : B z u) : ∃ a b, V.str z = .str a ∧ [V.str u] = [.str b] ∧ B a b := ⟨z, u, rfl, rfl, q⟩
theorem w_sg {c : Nat} {z : Str} {B : Nat → Str → Prop} (q : B c z) : ∃ (c' : Nat) (z' : Str), V.str (pl [c]) = .str ⟨#[c']⟩ ∧ V.str z = .str z' ∧ B c' z' := ⟨c, z, rfl, rfl, q⟩
theorem w_sg2 {c : Nat} {z : Str} {B : Nat → Str → Prop} (q : B c z) : ∃ (c' : Nat) (z' : Str), V.str ⟨#[c]⟩ = .str ⟨#[c']⟩ ∧ V.str z = .str z' ∧ B c' z' := ⟨c, z, rfl, rfl, q⟩
theorem w_sgSp {z : Str} {B : Nat → Str → Prop} (q : B 32 z) : ∃ (c' : Nat) (z' : Str), V.str " " = .str ⟨#[c']⟩ ∧ V.str z = .str z' ∧ B c' z' := by
  have e : ((" " : Str)) = pl [32] := by decide +kernel
  exact ⟨32, z, by rw [e]; rfl, rfl, q⟩
theorem w_join {p : Addr} {ws : List (List Nat)} {B : Str → Addr → List Str → Prop} (h : H p = some (.lst (plcs ws))) (hz : (ws.map List.length).sum + ws.length ≤ 16000000) (q : B (pl [32]) p (ws.map pl)) :
    ∃ a p', ∃ ys : List Str, V.str " " = .str a ∧ [V.ref p] = [.ref p'] ∧ (SqL K H p' (ys.map V.str) ∨ SqT K H p' (ys.map V.str)) ∧ (ys.map (·.length)).sum + ys.length * a.length ≤ 16777216 ∧ B a p' ys := by
  have e : ((" " : Str)) = pl [32] := by decide +kernel
  refine ⟨pl [32], p, ws.map pl, by rw [e], rfl, .inl (SqL.of (by rw [h, List.map_map]; rfl)), ?_, q⟩
  have e2 : ((ws.map pl).map (·.length)) = ws.map List.length := by
    rw [List.map_map]
    exact List.map_congr_left fun w _ => pl_len w
  rw [e2, List.length_map, pl_len]
  simp
  omega
theorem w_fmtS {w : List Nat} {A : Prop} {B : Str → Prop} (hl : w.length ≤ 1000000) (q : B (pl w)) : (∃ y : Str, V.str (pl w) = .str y ∧ y.length ≤ sizeLine ∧ B y) ∨ A := .inl ⟨_, rfl, by rw [pl_len]; exact ly_sz (by omega), q⟩
theorem w_js0 {w : List Nat} {A : Str → Prop} (hl : w.length ≤ 1000000) (q : A (pl w)) : ∃ y : Str, V.str (pl w) = .str y ∧ (Str.empty ++ y).length ≤ sizeLine ∧ A y :=
  ⟨_, rfl, by rw [show Str.empty = pl [] from rfl, pl_app, pl_len]; exact ly_sz (by simp; omega), q⟩
theorem w_js2 {a w : List Nat} {A : Str → Prop} (hl : a.length + w.length ≤ 1000000) (q : A (pl w)) : ∃ y : Str, V.str (pl w) = .str y ∧ (pl a ++ y).length ≤ sizeLine ∧ A y :=
  ⟨_, rfl, by rw [pl_app, pl_len]; exact ly_sz (by simp; omega), q⟩
theorem pl_em (w : List Nat) : Str.empty ++ pl w = pl w := by rw [show Str.empty = pl [] from rfl, pl_app]; rfl
end
end Ly
set_option Elab.async false
set_option linter.all false
set_option maxRecDepth 100000
set_option maxHeartbeats 2000000
namespace Ly
open PySem PySem.Spec PyProof.Rows L2 Evl
def appN : Nat → Tm
  | 0 => .var 0
  | n + 1 => .app (appN n) (.var 1)
def n3 : Nat → Nat → Tm
  | d, 0 => .var d
  | d, k + 1 => .lam (.app (n3 (d + 1) k) (.var (d + 1)))
theorem appN_enc : ∀ n, (appN n).enc = List.replicate n (V.str "app") ++ V.int 0 :: List.replicate n (V.int 1)
  | 0 => rfl
  | n + 1 => by
    show V.str "app" :: ((appN n).enc ++ [V.int 1]) = _
    rw [appN_enc n, List.replicate_succ, List.replicate_succ' (n := n) (a := V.int 1)]
    simp
theorem n3_enc : ∀ k d : Nat, (n3 d k).enc = (List.replicate k [V.str "lam", V.str "app"]).flatten ++ V.int ((d + k : Nat) : Int) :: (List.range k).map fun (j : Nat) => V.int ((d + k - j : Nat) : Int)
  | 0, d => rfl
  | k + 1, d => by
    show V.str "lam" :: V.str "app" :: ((n3 (d + 1) k).enc ++ [V.int ((d + 1 : Nat) : Int)]) = _
    rw [n3_enc k (d + 1), List.replicate_succ, List.range_succ, List.map_append]
    have e1 : d + 1 + k = d + (k + 1) := by omega
    have e2 : d + (k + 1) - k = d + 1 := by omega
    simp [e1, e2]
/-- what the law builds -/
def dpT : Nat → Nat → Tm
  | 0, n => Tm.lamN (2 * n) (.var (2 * n))
  | 1, n => appN n
  | 2, n => Tm.rowN 1 n (.var 0)
  | _, n => n3 0 (n / 2)
def dpP : Nat → Nat → List Nat
  | 0, n => List.replicate (2 * n) 98
  | 1, n => List.replicate n 102
  | 2, n => List.replicate n 97
  | _, n => (List.replicate (n / 2) [98, 102]).flatten
theorem wf_lamN {M : Nat} {b : Tm} : ∀ n, b.wf (M + n) → (Tm.lamN n b).wf M
  | 0, h => h
  | n + 1, h => by
    show (Tm.lamN n b).wf (M + 1)
    exact wf_lamN (M := M + 1) n (by rw [show M + 1 + n = M + (n + 1) by omega]; exact h)
theorem wf_rowN {M c : Nat} {b : Tm} (hc : c < M) (hb : b.wf M) : ∀ n, (Tm.rowN c n b).wf M
  | 0 => hb
  | n + 1 => ⟨hc, wf_rowN hc hb n⟩
theorem wf_appN : ∀ n, (appN n).wf 2
  | 0 => by show 0 < 2; decide
  | n + 1 => ⟨wf_appN n, by show 1 < 2; decide⟩
theorem wf_n3 : ∀ k d : Nat, (n3 d k).wf (d + 2)
  | 0, d => by show d < d + 2; omega
  | k + 1, d => by
    show (n3 (d + 1) k).wf (d + 2 + 1) ∧ d + 1 < d + 2 + 1
    exact ⟨by rw [show d + 2 + 1 = d + 1 + 2 by omega]; exact wf_n3 k (d + 1), by omega⟩
theorem dp_wf (p n : Nat) : (dpT p n).wf 2 := by
  unfold dpT
  split
  · exact wf_lamN _ (by show 2 * n < 2 + 2 * n; omega)
  · exact wf_appN n
  · exact wf_rowN (by decide) (by show 0 < 2; decide) n
  · exact wf_n3 _ 0
theorem len_lamN (b : Tm) : ∀ n, (Tm.lamN n b).enc.length = n + b.enc.length
  | 0 => (Nat.zero_add _).symm
  | n + 1 => by
    show (Tm.lamN n b).enc.length + 1 = _
    rw [len_lamN b n]
    omega
theorem len_appN (n : Nat) : (appN n).enc.length = 2 * n + 1 := by
  rw [appN_enc]
  simp
  omega
theorem len_rowN (c : Nat) (b : Tm) : ∀ n, (Tm.rowN c n b).enc.length = 2 * n + b.enc.length
  | 0 => (Nat.zero_add _).symm
  | n + 1 => by
    show ([V.int (c : Int)] ++ (Tm.rowN c n b).enc).length + 1 = _
    rw [List.length_append, len_rowN c b n]
    simp
    omega
theorem len_n3 : ∀ k d : Nat, (n3 d k).enc.length = 3 * k + 1
  | 0, d => rfl
  | k + 1, d => by
    show (V.str "lam" :: V.str "app" :: ((n3 (d + 1) k).enc ++ [V.int ((d + 1 : Nat) : Int)])).length = _
    simp only [List.length_cons, List.length_append, List.length_nil, len_n3 k (d + 1)]
    omega
theorem dp_len {p n : Nat} (h : n ≤ 498) : (dpT p n).enc.length ≤ 997 := by
  unfold dpT
  split
  · rw [len_lamN]
    show 2 * n + 1 ≤ 997
    omega
  · rw [len_appN]
    omega
  · rw [len_rowN]
    show 2 * n + 1 ≤ 997
    omega
  · rw [len_n3]
    omega
theorem sub_lamN0 {b : Tm} {q : List Nat} {i : Nat} {u : Tm} (h : b.sub q = some (i, u)) : ∀ n, (Tm.lamN n b).sub (List.replicate n 98 ++ q) = some (n + i, u)
  | 0 => by rw [Nat.zero_add]; exact h
  | n + 1 => by
    have ih := sub_lamN0 h n
    show ((Tm.lamN n b).sub (List.replicate n 98 ++ q)).map _ = _
    rw [ih]
    simp <;> omega
theorem sub_appN : ∀ n, (appN n).sub (List.replicate n 102) = some (n, .var 0)
  | 0 => rfl
  | n + 1 => by
    have ih := sub_appN n
    rw [List.replicate_succ]
    show ((appN n).sub (List.replicate n 102)).map _ = _
    rw [ih]
    simp <;> omega
theorem sub_rowN : ∀ n, (Tm.rowN 1 n (.var 0)).sub (List.replicate n 97) = some (2 * n, .var 0)
  | 0 => rfl
  | n + 1 => by
    have ih := sub_rowN n
    rw [List.replicate_succ]
    show ((Tm.rowN 1 n (.var 0)).sub (List.replicate n 97)).map _ = _
    rw [ih]
    simp [Tm.enc] <;> omega
theorem sub_n3 : ∀ k d : Nat, (n3 d k).sub (List.replicate k [98, 102]).flatten = some (2 * k, .var (d + k))
  | 0, d => rfl
  | k + 1, d => by
    have ih := sub_n3 k (d + 1)
    rw [List.replicate_succ]
    show (((n3 (d + 1) k).sub (List.replicate k [98, 102]).flatten).map _).map _ = _
    rw [ih]
    simp <;> omega
theorem dp_sub (p n : Nat) : ∃ i v, (dpT p n).sub (dpP p n) = some (i, .var v) := by
  unfold dpT dpP
  split
  · have := sub_lamN0 (b := .var (2 * n)) (q := []) (i := 0) (u := .var (2 * n)) rfl (2 * n)
    rw [List.append_nil] at this
    exact ⟨_, _, this⟩
  · exact ⟨_, _, sub_appN n⟩
  · exact ⟨_, _, sub_rowN n⟩
  · exact ⟨_, _, sub_n3 _ 0⟩
theorem isL_appN : ∀ n, (appN n).isL = false
  | 0 => rfl
  | _ + 1 => rfl
theorem par_f (w : List Nat) : par false w = w := if_neg Bool.false_ne_true
theorem par_t (w : List Nat) : par true w = 40 :: (w ++ [41]) := if_pos rfl
def fxy : List (List Nat) := [[120], [121]]
theorem shw_appN {bs : List (List Nat)} : ∀ n, shw bs fxy 0 (appN n) = 120 :: (List.replicate n [32, 121]).flatten
  | 0 => rfl
  | n + 1 => by
    have ih := shw_appN (bs := bs) n
    show par (appN n).isL (shw bs fxy 0 (appN n)) ++ 32 :: par false [121] = _
    rw [isL_appN, par_f, par_f, ih, List.replicate_succ']
    simp
theorem shw_rowN {bs : List (List Nat)} : ∀ n, shw bs fxy 0 (Tm.rowN 1 (n + 1) (.var 0)) = (List.replicate n [121, 32, 40]).flatten ++ [121, 32, 120] ++ List.replicate n 41
  | 0 => rfl
  | n + 1 => by
    have ih := shw_rowN (bs := bs) n
    show par false [121] ++ 32 :: par true (shw bs fxy 0 (Tm.rowN 1 (n + 1) (.var 0))) = _
    rw [par_f, par_t, ih, List.replicate_succ, List.replicate_succ' (n := n) (a := 41)]
    simp
def frontW (bs : List (List Nat)) (d k : Nat) : List Nat := ((List.range k).map fun j => 92 :: (bs.getD (d + j) [] ++ [46, 32, 40])).flatten
theorem frontW_succ (bs : List (List Nat)) (d k : Nat) : frontW bs d (k + 1) = 92 :: (bs.getD d [] ++ [46, 32, 40]) ++ frontW bs (d + 1) k := by
  unfold frontW
  rw [List.range_succ_eq_map, List.map_cons, List.map_map, List.flatten_cons]
  congr 2
  refine List.map_congr_left fun j _ => ?_
  show 92 :: (bs.getD (d + (j + 1)) [] ++ _) = 92 :: (bs.getD (d + 1 + j) [] ++ _)
  rw [show d + (j + 1) = d + 1 + j by omega]
theorem var_x {bs : List (List Nat)} (d : Nat) : shw bs fxy d (.var d) = [120] := by
  show (if d < d then _ else fxy.getD (d - d) []) = _
  rw [if_neg (Nat.lt_irrefl _), Nat.sub_self]
  rfl
theorem shw_n3 {bs : List (List Nat)} : ∀ k d : Nat, shw bs fxy d (n3 d (k + 1)) = frontW bs d k ++ (92 :: (bs.getD (d + k) [] ++ [46, 32, 120, 32, 120])) ++ (List.replicate k [41, 32, 120]).flatten
  | 0, d => by
    show abT false (bs.getD d []) (par false (shw bs fxy (d + 1) (.var (d + 1))) ++ 32 :: par false (shw bs fxy (d + 1) (.var (d + 1)))) = _
    rw [var_x, par_f]
    simp [abT, frontW]
  | k + 1, d => by
    have ih := shw_n3 (bs := bs) k (d + 1)
    show abT false (bs.getD d []) (par true (shw bs fxy (d + 1) (n3 (d + 1) (k + 1))) ++ 32 :: par false (shw bs fxy (d + 1) (.var (d + 1)))) = _
    rw [var_x, par_f, par_t, ih, frontW_succ, List.replicate_succ' (n := k) (a := [41, 32, 120]), show d + (k + 1) = d + 1 + k by omega]
    simp [abT]
def dpS (bs : List (List Nat)) : Nat → Nat → List Nat
  | 0, n => if n = 0 then [120] else 92 :: (joinW (bs.take (2 * n)) ++ [46, 32, 120])
  | 1, n => 120 :: (List.replicate n [32, 121]).flatten
  | 2, n => if n = 0 then [120] else (List.replicate (n - 1) [121, 32, 40]).flatten ++ [121, 32, 120] ++ List.replicate (n - 1) 41
  | _, n => if n / 2 = 0 then [120] else frontW bs 0 (n / 2 - 1) ++ (92 :: (bs.getD (n / 2 - 1) [] ++ [46, 32, 120, 32, 120])) ++ (List.replicate (n / 2 - 1) [41, 32, 120]).flatten
theorem dp_shw {bs : List (List Nat)} {p n : Nat} (h : 2 * n ≤ bs.length) : shw bs fxy 0 (dpT p n) = dpS bs p n := by
  unfold dpT dpS
  split
  · by_cases h0 : n = 0
    · subst h0; rfl
    · rw [if_neg h0]
      obtain ⟨m, e⟩ : ∃ m, 2 * n = m + 1 := ⟨2 * n - 1, by omega⟩
      rw [e, shw_lamN (bs := bs) (fs := fxy) (b := .var (m + 1)) rfl m 0 (by omega), show 0 + m + 1 = m + 1 by omega, var_x, List.drop_zero]
  · exact shw_appN n
  · by_cases h0 : n = 0
    · subst h0; rfl
    · rw [if_neg h0]
      obtain ⟨m, rfl⟩ : ∃ m, n = m + 1 := ⟨n - 1, by omega⟩
      exact shw_rowN m
  · by_cases h0 : n / 2 = 0
    · rw [if_pos h0, h0]; rfl
    · rw [if_neg h0]
      obtain ⟨m, e⟩ : ∃ m, n / 2 = m + 1 := ⟨n / 2 - 1, by omega⟩
      rw [e, shw_n3, Nat.zero_add]
      rfl
theorem dp_lams {p n : Nat} : (dpT p n).lams ≤ 2 * n := by
  have l1 : ∀ (n : Nat) (b : Tm), (Tm.lamN n b).lams = n + b.lams := fun n b => by
    induction n with
    | zero => exact (Nat.zero_add _).symm
    | succ n ih => show (Tm.lamN n b).lams + 1 = _; omega
  have l2 : ∀ n, (appN n).lams = 0 := fun n => by
    induction n with
    | zero => rfl
    | succ n ih => show (appN n).lams + 0 = 0; omega
  have l3 : ∀ n, (Tm.rowN 1 n (.var 0)).lams = 0 := fun n => by
    induction n with
    | zero => rfl
    | succ n ih => show 0 + (Tm.rowN 1 n (.var 0)).lams = 0; omega
  have l4 : ∀ k d, (n3 d k).lams = k := fun k => by
    induction k with
    | zero => exact fun d => rfl
    | succ k ih => intro d; show (n3 (d + 1) k).lams + 0 + 1 = _; rw [ih]
  unfold dpT
  split
  · rw [l1]; exact Nat.le_refl _
  · rw [l2]; omega
  · rw [l3]; omega
  · rw [l4]; omega
theorem scan_more : ∀ (xs : List V) (m : Int) (y : V), scanV m xs = true → scanV m (xs ++ [y]) = false
  | [], m, y, h => by
    have h : m = 0 := of_decide_eq_true h
    show (if m = 0 ∨ isNodeV y = false then false else _) = false
    rw [if_pos (.inl h)]
  | x :: xs, m, y, h => by
    have h2 : (if m = 0 ∨ isNodeV x = false then false else scanV (m + (pcV x - 1)) xs) = true := h
    split at h2
    · cases h2
    · rename_i hc
      show (if m = 0 ∨ isNodeV x = false then false else scanV (m + (pcV x - 1)) (xs ++ [y])) = false
      rw [if_neg hc]
      exact scan_more xs _ y h2
theorem no_more {t : Tm} (h : t.vars 1000000) (y : V) : isTermV (t.enc ++ [y]) = false := by
  unfold isTermV
  rw [scan_more _ _ y (scan_tm h), Bool.and_false]
theorem no_less {t : Tm} (h : t.vars 1000000) : isTermV t.enc.dropLast = false := by
  unfold isTermV
  cases e : scanV 1 t.enc.dropLast with
  | false => rw [Bool.and_false]
  | true =>
    have h2 := scan_more _ _ (t.enc.getLast t.enc_ne) e
    rw [List.dropLast_concat_getLast, scan_tm h] at h2
    cases h2
theorem fold_repS {α : Type} (w : List α) : ∀ (k : Nat) (xs : List α), (List.replicate k w.toArray).foldl (· ++ ·) xs.toArray = (xs ++ (List.replicate k w).flatten).toArray
  | 0, xs => by simp
  | k + 1, xs => by
    rw [List.replicate_succ, List.foldl_cons]
    have e : xs.toArray ++ w.toArray = (xs ++ w).toArray := by simp
    rw [e, fold_repS w k (xs ++ w), List.replicate_succ]
    simp
/-- a text so many times -/
def rRepS : R2 := fun x y H Q => ∃ (w : List Nat) (k : Nat), x = .str (pl w) ∧ y = .int (k : Int) ∧ w ≠ [] ∧ w.length ≤ 10 ∧ k ≤ 100000 ∧ Q (.str (pl (List.replicate k w).flatten)) H
theorem op_repS {X : Cx} : OpR X (binaryOp .Mult) rRepS := by
  intro pins s σ H x y v u Q I rx ry ⟨w, k, ex, ey, hw, hwl, hk, q⟩
  subst ex ey
  obtain ⟨t1, e1⟩ := rx
  obtain ⟨t2, e2⟩ := ry
  subst e1 e2
  have sl := sizeLine_eq
  have hpos := List.length_pos_iff.mpr hw
  have hl1 : (pl w).length = w.length := pl_len w
  have hkw : k * w.length ≤ 1000000 := Nat.le_trans (Nat.mul_le_mul hk hwl) (by decide)
  refine PySem.P.mul_str (by simp; omega) (fun h1 _ => ?_) (fun h1 _ => ?_) ?_
  · rw [hl1]
    have h2 : (10 : Int) ≤ (2 ^ 63 - 1) / (k : Int) := (Int.le_ediv_iff_mul_le (by omega)).mpr (by omega)
    omega
  · rw [hl1]
    exact decide_eq_false (by rw [Int.toNat_natCast, Nat.mul_comm]; omega)
  · by_cases h0 : (k : Int) < 1
    · rw [if_pos h0]
      have e : k = 0 := by omega
      subst e
      exact ⟨by simp [Str.empty, Str.length], .str (pl []), H, I.tok _, ⟨_, rfl⟩, q⟩
    · rw [if_neg h0]
      by_cases h1 : k = 1
      · subst h1
        rw [if_pos (by simp)]
        have e : (List.replicate 1 w).flatten = w := by simp
        rw [e] at q
        exact ⟨.str (pl w), H, I, ⟨_, rfl⟩, q⟩
      · rw [if_neg (by
          rw [hl1]
          simp [hw]
          omega)]
        have e : (⟨(List.replicate (k : Int).toNat (pl w).cps).foldl (· ++ ·) #[]⟩ : Str) = pl (List.replicate k w).flatten := by
          have := fold_repS w k []
          simp only [List.nil_append] at this
          unfold pl
          rw [Int.toNat_natCast]
          exact congrArg Str.mk this
        refine ⟨?_, .str (pl (List.replicate k w).flatten), H, I.tok _, ⟨s.toks, ?_⟩, q⟩
        · rw [e, pl_len]
          have : ((List.replicate k w).flatten).length = k * w.length := by simp
          omega
        · rw [e]
theorem w_repS {H : Hp} {Q : VK} {w : List Nat} {k : Nat} (hw : w ≠ []) (hl : w.length ≤ 10) (hk : k ≤ 100000) (q : Q (.str (pl (List.replicate k w).flatten)) H) : rRepS (.str (pl w)) (.int (k : Int)) H Q := ⟨w, k, rfl, rfl, hw, hl, hk, q⟩
theorem w_catXF {K : PySem.W.Frag} {H : Hp} {Q : VK} {a b : Addr} {xs ys : List V} (h : SqT K H a xs) (h2 : SqX H b ys) (ny : ys ≠ []) (z : xs.length + ys.length ≤ sizeLine) (q : ∀ p H', Ex H H' → SqX H' p (xs ++ ys) → Q (.ref p) H') : rCatF K (.ref a) (.ref b) H Q :=
  ⟨a, b, xs, ys, rfl, rfl, h, h2.t, z, fun e => by subst e; exact q b H (Ex.refl _) h2, fun _ e => absurd e ny, fun _ _ p ob hp c d => q p _ (Ex.new hp) ⟨ob, upd_same, c, d⟩⟩
end Ly
set_option Elab.async false
set_option linter.all false
set_option maxRecDepth 100000
set_option maxHeartbeats 8000000
namespace Ly
open PySem PySem.Spec PyProof.Rows L2 Evl
local macro_rules | `(tactic| walk_at "ne") => `(tactic| first
  | assumption
  | ((refine' Ne.symm ?hq); (case hq => assumption))
  | ((refine' ne_of_none ?nh1 ?nh2); (case nh2 => assumption); (case nh1 => walk_at "hp"))
  | ((refine' Ne.symm (ne_of_none ?nh1 ?nh2)); (case nh2 => assumption); (case nh1 => walk_at "hp")))
local macro_rules | `(tactic| walk_at "hp") => `(tactic| first
  | assumption
  | exact upd_same
  | ((refine' SqL.of ?hq); (case hq => walk_at "hp"))
  | ((refine' SqT.of ?hq); (case hq => walk_at "hp"))
  | ((refine' (upd_ne ?hne).trans ?hrest); (case hne => walk_at "ne"); (case hrest => walk_at "hp"))
  | ((refine' ly_at ?hex ?hh); (case hex => assumption); (case hh => walk_at "hp"))
  | ((refine' ly_atF ?hex ?hnn ?hh); (case hex => assumption); (case hh => walk_at "hp"); (case hnn => walk_at "ne"))
  | ((refine' ex_t ?hex ?hh); (case hh => assumption); (case hex => walk_at "ex"))
  | ((refine' ex_l ?hex ?hh); (case hh => assumption); (case hex => walk_at "ex")))
local macro_rules | `(tactic| walk_at "ex") => `(tactic| first
  | assumption
  | exact Ex.refl _
  | ((refine' ex_new ?xa ?xb); (case xb => assumption); (case xa => walk_at "ex"))
  | ((refine' ex_upd ?xa ?xb); (case xb => walk_at "free"); (case xa => walk_at "ex"))
  | ((refine' Ex.trans ?xa ?xb); (case xb => assumption); (case xa => walk_at "ex")))
local macro_rules | `(tactic| walk_at "free") => `(tactic| first
  | assumption
  | ((refine' fresh_back ?xa ?xb); (case xb => assumption); (case xa => walk_at "ex")))
local macro_rules | `(tactic| walk_at "fr") => `(tactic| first
  | assumption
  | exact Fr.refl _ _
  | ((refine' Fr.own ?hq); (case hq => walk_at "fr"))
  | ((refine' Fr.new ?xa ?xb); (case xb => assumption); (case xa => walk_at "fr"))
  | ((refine' Fr.mut ?xa ?xb); (case xb => assumption); (case xa => walk_at "fr"))
  | ((refine' Fr.trans ?xa ?xb); (case xb => assumption); (case xa => walk_at "fr"))
  | ((refine' Fr.trans ?xa (Fr.ex ?xb)); (case xb => assumption); (case xa => walk_at "fr")))
local macro_rules | `(tactic| walk_at "go1") => `(tactic| first
  | (with_reducible refine' w_seq ?_)
  | (with_reducible refine' w_asg ?_)
  | (with_reducible refine' w_ret ?_)
  | (with_reducible refine' w_drop ?_)
  | (with_reducible refine' w_if ?_)
  | (with_reducible refine' w_next ?_)
  | (with_reducible refine' w_name ?_)
  | (with_reducible refine' w_sub ?_)
  | ((with_reducible refine' w_var ?hv ?_); (case hv => exact rfl))
  | (with_reducible refine' w_c ?_)
  | (with_reducible refine' w_op ?_)
  | (with_reducible refine' w_un ?_)
  | (with_reducible refine' w_ch ?_)
  | (with_reducible refine' w_I0 ?_)
  | ((with_reducible refine' w_I ?hc ?_); (case hc => first | (exact ly_mulL (by decide) (by decide)) | (exact ly_mulR (by decide) (by decide)) | (exact ly_mulL (by omega) (by omega)) | (show (_ : Int) ≠ 0; decide) | (show (_ : Int) ≠ 0; omega) | (exact ⟨by decide, by decide⟩) | (exact ⟨by omega, by omega⟩)))
  | (with_reducible refine' w_U ?_)
  | ((with_reducible refine' w_eq ?hs ?_); (case hs => exact rfl))
  | ((with_reducible refine' w_ne ?hs ?_); (case hs => exact rfl))
  | (with_reducible refine' w_isB ?_)
  | (with_reducible refine' w_notB ?_)
  | (with_reducible refine' w_nil ?_)
  | (with_reducible refine' w_cons ?_)
  | (with_reducible refine' w_tup ?_)
  | (with_reducible refine' w_lst ?_)
  | (with_reducible refine' w_cb ?_)
  | (with_reducible refine' w_call ?_)
  | (with_reducible refine' w_bm ?_)
  | (with_reducible refine' w_bm0 ?_)
  | ((with_reducible refine' w_app ?hh ?hz ?_); (case hh => walk_at "hp"); (case hz => first | exact ly_lt (by omega) | exact ly_lt (by simp only [List.length_append, List.length_map, List.length_cons, List.length_nil]; omega)))
  | ((with_reducible refine' w_popA ?hh ?_); (case hh => walk_at "hp"))
  | ((with_reducible refine' w_ext ?hh ?hh2 ?hz ?_); (case hh => walk_at "hp"); (case hh2 => walk_at "hp"))
  | ((with_reducible refine' w_ixL ?hh ?ha ?_); (case hh => walk_at "hp"); (case ha => first | exact rfl | exact at_map (by omega) | exact atI_last _ _ | ((refine' at_of ?ae ?ah); (case ah => assumption); (case ae => omega))))
  | ((with_reducible refine' w_ixT ?hh ?ha ?_); (case hh => walk_at "hp"); (case ha => first | exact rfl | exact at_map (by omega) | exact atI_last _ _ | ((refine' at_of ?ae ?ah); (case ah => assumption); (case ae => omega))))
  | ((with_reducible refine' w_cat ?hh ?hh2 ?hz ?_); (case hh => walk_at "hp"); (case hh2 => walk_at "hp"))
  | ((with_reducible refine' w_setL ?hh ?ha ?_); (case hh => walk_at "hp"); (case ha => exact rfl))
  | (with_reducible refine' w_test ?_)
  | (with_reducible refine' w_tB ?_)
  | (with_reducible refine' w_bl ?_)
  | (with_reducible refine' w_and ?_)
  | (with_reducible refine' w_or ?_)
  | (with_reducible refine' w_not ?_)
  | (with_reducible refine' w_andV ?_)
  | (with_reducible refine' w_orV ?_)
  | (with_reducible refine' w_notV ?_)
  | (with_reducible refine' w_ifE ?_)
  | (with_reducible refine' w_for ?_)
  | ((with_reducible refine' w_nin ?hh ?_); (case hh => walk_at "hp"))
  | ((with_reducible refine' w_sorted ?hh ?_); (case hh => walk_at "hp"))
  | (with_reducible refine' w_tsadd ?_)
  | ((with_reducible refine' w_tsadd1 ?hh ?_); (case hh => walk_at "hp"))
  | ((with_reducible refine' w_sadd ?hh ?hr ?_); (case hh => walk_at "hp"); (case hr => omega))
  | (with_reducible refine' w_iZ ?_)
  | ((with_reducible refine' w_iZ1 ?hh ?hh2 ?_); (case hh => walk_at "hp"); (case hh2 => walk_at "hp"))
  | (with_reducible refine' w_iS ?_)
  | (with_reducible refine' w_iS1 ?_)
  | ((with_reducible refine' w_gtup ?hh ?hn ?_); (case hh => walk_at "hp"); (case hn => exact rfl))
  | (with_reducible refine' w_gcons ?_)
  | (with_reducible refine' w_gnil ?_)
  | (with_reducible refine' w_js ?_)
  | (with_reducible refine' w_jsn ?_)
  | ((with_reducible refine' w_js1 ?hl ?_); (case hl => decide +kernel))
  | (with_reducible refine' w_fmt ?_)
  | ((with_reducible refine' w_fmt1 ?hl ?_); (case hl => decide +kernel))
  | (with_reducible refine' w_callS ?_)
  | ((with_reducible refine' w_truL ?hh ?_); (case hh => walk_at "hp"))
  | (with_reducible refine' w_lc ?_)
  | (with_reducible refine' w_yes ?_)
  | ((with_reducible refine' w_wipe ?he ?_); (case he => exact rfl))
  | (with_reducible refine' w_iL ?_)
  | (with_reducible refine' w_iT ?_)
  | (with_reducible refine' w_iR ?_)
  | ((with_reducible refine' w_iL1 ?hh ?_); (case hh => walk_at "hp"))
  | ((with_reducible refine' w_iT1 ?hh ?_); (case hh => walk_at "hp"))
  | ((with_reducible refine' w_iR1 ?h1 ?h2 ?_); (case h1 => omega); (case h2 => omega))
  | ((with_reducible refine' w_aug ?hv ?_); (case hv => exact rfl))
  | (with_reducible refine' w_ipI ?_)
  | ((with_reducible refine' w_isi ?hy ?hk ?_); (case hy => walk_at "ty"); (case hk => walk_at "kit"))
  | ((with_reducible refine' w_int ?_))
  | ((with_reducible refine' w_intB ?_))
  | ((with_reducible refine' w_abs ?_))
  | ((with_reducible refine' w_lenL ?hh ?_); (case hh => walk_at "hp"))
  | ((with_reducible refine' w_lenT ?hh ?_); (case hh => walk_at "hp"))
  | ((with_reducible refine' w_tupL ?hh ?_); (case hh => walk_at "hp"))
  | ((with_reducible refine' w_tupT ?hh ?_); (case hh => walk_at "hp"))
  | ((with_reducible refine' w_catA ?hh ?hh2 ?hz ?_); (case hh => walk_at "hp"); (case hh2 => walk_at "hp"); (case hz => walk_at "len"))
  | ((with_reducible refine' w_repB ?hh ?hne ?h2 ?h3 ?hz ?_); (case hh => walk_at "hp"); (case hne => simp); (case h2 => omega); (case h3 => omega); (case hz => exact Nat.le_of_ble_eq_true rfl))
  | ((with_reducible refine' w_eqN ?hh ?hh2 ?n1 ?n2 ?_); (case hh => walk_at "hp"); (case hh2 => walk_at "hp"); (case n1 => walk_at "nd"); (case n2 => walk_at "nd"))
  | ((with_reducible refine' w_neN ?hh ?hh2 ?n1 ?n2 ?_); (case hh => walk_at "hp"); (case hh2 => walk_at "hp"); (case n1 => walk_at "nd"); (case n2 => walk_at "nd"))
  | ((with_reducible refine' w_eqL ?hh ?hh2 ?n1 ?n2 ?_); (case hh => walk_at "hp"); (case hh2 => walk_at "hp"); (case n1 => walk_at "nd"); (case n2 => walk_at "nd"))
  | ((with_reducible refine' w_neL ?hh ?hh2 ?n1 ?n2 ?_); (case hh => walk_at "hp"); (case hh2 => walk_at "hp"); (case n1 => walk_at "nd"); (case n2 => walk_at "nd"))
  | ((with_reducible refine' w_neNon ?hh2 ?n2 ?_); (case hh2 => walk_at "hp"); (case n2 => walk_at "nd"))
  | ((with_reducible refine' w_eqNon ?hh2 ?n2 ?_); (case hh2 => walk_at "hp"); (case n2 => walk_at "nd"))
  | ((with_reducible refine' w_slA ?hh ?_); (case hh => walk_at "hp"))
  | ((with_reducible refine' w_disp ?hz ?_); (case hz => exact sz_of (Nat.le_of_ble_eq_true rfl)))
  | ((with_reducible refine' w_tyL ?hh ?_); (case hh => walk_at "hp"))
  | (with_reducible refine' iteT ?_)
  | (with_reducible refine' iteF ?_)
  | (with_reducible refine' w_nT ?_)
  | (with_reducible refine' w_nn ?_)
  | (with_reducible refine' w_nnT ?_)
  | (with_reducible refine' w_nnR ?_)
  | (with_reducible refine' w_neG ?_)
  | (with_reducible refine' w_eqG ?_)
  | (with_reducible refine' w_neS ?_)
  | (with_reducible refine' w_eqS ?_)
  | (with_reducible refine' w_neSb ?_)
  | (with_reducible refine' w_eqSb ?_)
  | (with_reducible refine' w_deIS ?_)
  | (with_reducible refine' w_deSI ?_)
  | (with_reducible refine' w_deISn ?_)
  | ((with_reducible refine' w_deST ?he ?_); (case he => decide +kernel))
  | ((with_reducible refine' w_deSF ?he ?_); (case he => decide +kernel))
  | ((with_reducible refine' w_deSTn ?he ?_); (case he => decide +kernel))
  | ((with_reducible refine' w_deSFn ?he ?_); (case he => decide +kernel))
  | (with_reducible refine' w_nF ?_)
  | dsimp only [Bool.not_true, Bool.not_false])
local macro_rules | `(tactic| walk_at "ty") => `(tactic| first
  | exact .base (.int _) | exact .base (.str _) | exact .base (.bl _) | exact .base .non
  | ((refine' tyx_t ?hq); (case hq => walk_at "hp")) | ((refine' tyx_l ?hq); (case hq => walk_at "hp")) | ((refine' .base (.tup ?hq)); (case hq => walk_at "hp")) | assumption)
local macro_rules | `(tactic| walk_at "go") => `(tactic| repeat walk_at "go1")
local macro_rules | `(tactic| walk_at "st") => `(tactic| try dsimp only [cxOf, Cx.nox, Cx.wish])
local macro_rules | `(tactic| walk_at "kit") => `(tactic| with_reducible first | exact kit_int_int | exact kit_int_str | exact kit_int_bool | exact kit_int_tuple | exact kit_int_list | exact kit_str_int | exact kit_str_str | exact kit_str_bool | exact kit_str_tuple | exact kit_str_list | exact kit_bool_int | exact kit_bool_str | exact kit_bool_bool | exact kit_bool_tuple | exact kit_bool_list | exact kit_NoneType_int | exact kit_NoneType_str | exact kit_NoneType_bool | exact kit_NoneType_tuple | exact kit_NoneType_list | exact kit_list_int | exact kit_list_str | exact kit_list_bool | exact kit_list_tuple | exact kit_list_list | exact kit_tuple_int | exact kit_tuple_str | exact kit_tuple_bool | exact kit_tuple_tuple | exact kit_tuple_list)
local macro_rules | `(tactic| walk_at "nd") => `(tactic| first
  | assumption
  | exact Tm.nds _
  | exact Nds.nil
  | exact Nds.ofInts _
  | ((refine' Nds.cons ?na ?nb); (case na => first | exact Nds.I _ | exact Nds.L | exact Nds.A); (case nb => walk_at "nd"))
  | ((refine' Nds.app ?na ?nb); (case na => walk_at "nd"); (case nb => walk_at "nd"))
  | ((refine' Nds.rep ?na _); (case na => walk_at "nd")))
local macro_rules | `(tactic| walk_at "len") => `(tactic| first
  | exact ly_sz (by omega)
  | ((simp only [List.length_append, List.length_cons, List.length_nil, List.length_map, PyProof.Rows.lm_len_rep_flat]); exact ly_sz (by omega)))
local macro_rules | `(tactic| walk_at "go1") => `(tactic| first
  | (with_reducible refine' w_kget2 ?_)
  | (with_reducible refine' w_isRN ?_)
  | (with_reducible refine' w_isNN ?_)
  | (with_reducible refine' w_isIN ?_)
  | ((with_reducible refine' w_kg ?hd ?_); (case hd => assumption)))
def topS (i : Nat) : Stmt := PySem.Challenge.pw_lydite_k15_deep_terms.main.body.getD i (.Pass ⟨0, 0, 0, 0⟩)
abbrev s_is_number : Stmt := topS 9
theorem sc_is_number : FnScope ["value", "most"] ["value", "most"] (defScope s_is_number) := ⟨rfl, rfl, rfl, by decide +kernel, rfl, by decide +kernel, by decide +kernel⟩
abbrev s_is_node : Stmt := topS 10
theorem sc_is_node : FnScope ["value", "words"] ["value", "words"] (defScope s_is_node) := ⟨rfl, rfl, rfl, by decide +kernel, rfl, by decide +kernel, by decide +kernel⟩
abbrev s_part_count : Stmt := topS 11
theorem sc_part_count : FnScope ["node"] ["node"] (defScope s_part_count) := ⟨rfl, rfl, rfl, by decide +kernel, rfl, by decide +kernel, by decide +kernel⟩
abbrev s_is_written : Stmt := topS 12
theorem sc_is_written : FnScope ["value", "words", "missing", "node"] ["value", "words"] (defScope s_is_written) := ⟨rfl, rfl, rfl, by decide +kernel, rfl, by decide +kernel, by decide +kernel⟩
abbrev s_is_term : Stmt := topS 13
theorem sc_is_term : FnScope ["value"] ["value"] (defScope s_is_term) := ⟨rfl, rfl, rfl, by decide +kernel, rfl, by decide +kernel, by decide +kernel⟩
abbrev s_check_size : Stmt := topS 14
theorem sc_check_size : FnScope ["size"] ["size"] (defScope s_check_size) := ⟨rfl, rfl, rfl, by decide +kernel, rfl, by decide +kernel, by decide +kernel⟩
abbrev s_checked : Stmt := topS 15
theorem sc_checked : FnScope ["term", "node"] ["term"] (defScope s_checked) := ⟨rfl, rfl, rfl, by decide +kernel, rfl, by decide +kernel, by decide +kernel⟩
abbrev s_depths : Stmt := topS 16
theorem sc_depths : FnScope ["term", "found", "pending", "node", "depth"] ["term"] (defScope s_depths) := ⟨rfl, rfl, rfl, by decide +kernel, rfl, by decide +kernel, by decide +kernel⟩
abbrev s_stands_free : Stmt := topS 17
theorem sc_stands_free : FnScope ["node", "depth"] ["node", "depth"] (defScope s_stands_free) := ⟨rfl, rfl, rfl, by decide +kernel, rfl, by decide +kernel, by decide +kernel⟩
abbrev s_free : Stmt := topS 18
theorem sc_free : FnScope ["term", "numbers", "node", "depth"] ["term"] (defScope s_free) := ⟨rfl, rfl, rfl, by decide +kernel, rfl, by decide +kernel, by decide +kernel⟩
abbrev s_lifted_nodes : Stmt := topS 19
theorem sc_lifted_nodes : FnScope ["term", "count", "nodes", "node", "depth"] ["term", "count"] (defScope s_lifted_nodes) := ⟨rfl, rfl, rfl, by decide +kernel, rfl, by decide +kernel, by decide +kernel⟩
abbrev s_lift : Stmt := topS 20
theorem sc_lift : FnScope ["term", "count"] ["term", "count"] (defScope s_lift) := ⟨rfl, rfl, rfl, by decide +kernel, rfl, by decide +kernel, by decide +kernel⟩
abbrev s_put : Stmt := topS 21
theorem sc_put : FnScope ["term", "value", "nodes", "node", "depth"] ["term", "value"] (defScope s_put) := ⟨rfl, rfl, rfl, by decide +kernel, rfl, by decide +kernel, by decide +kernel⟩
abbrev s_is_name : Stmt := topS 26
theorem sc_is_name : FnScope ["value", "character"] ["value"] (defScope s_is_name) := ⟨rfl, rfl, rfl, by decide +kernel, rfl, by decide +kernel, by decide +kernel⟩
abbrev s_name_table : Stmt := topS 27
theorem sc_name_table : FnScope ["names", "table", "name"] ["names"] (defScope s_name_table) := ⟨rfl, rfl, rfl, by decide +kernel, rfl, by decide +kernel, by decide +kernel⟩
abbrev s_numbered_name : Stmt := topS 28
theorem sc_numbered_name : FnScope ["number", "letter", "rounds"] ["number"] (defScope s_numbered_name) := ⟨rfl, rfl, rfl, by decide +kernel, rfl, by decide +kernel, by decide +kernel⟩
abbrev s_bound_names : Stmt := topS 29
theorem sc_bound_names : FnScope ["count", "taken", "found", "number", "name"] ["count", "taken"] (defScope s_bound_names) := ⟨rfl, rfl, rfl, by decide +kernel, rfl, by decide +kernel, by decide +kernel⟩
abbrev s_written_variable : Stmt := topS 30
theorem sc_written_variable : FnScope ["number", "depth", "bound", "names"] ["number", "depth", "bound", "names"] (defScope s_written_variable) := ⟨rfl, rfl, rfl, by decide +kernel, rfl, by decide +kernel, by decide +kernel⟩
abbrev s_is_abstraction : Stmt := topS 31
theorem sc_is_abstraction : FnScope ["text"] ["text"] (defScope s_is_abstraction) := ⟨rfl, rfl, rfl, by decide +kernel, rfl, by decide +kernel, by decide +kernel⟩
abbrev s_written_abstraction : Stmt := topS 32
theorem sc_written_abstraction : FnScope ["name", "body"] ["name", "body"] (defScope s_written_abstraction) := ⟨rfl, rfl, rfl, by decide +kernel, rfl, by decide +kernel, by decide +kernel⟩
abbrev s_written_application : Stmt := topS 33
theorem sc_written_application : FnScope ["function", "argument"] ["function", "argument"] (defScope s_written_application) := ⟨rfl, rfl, rfl, by decide +kernel, rfl, by decide +kernel, by decide +kernel⟩
abbrev s_show : Stmt := topS 34
theorem sc_show : FnScope ["term", "names", "bound", "written", "node", "depth", "function"] ["term", "names"] (defScope s_show) := ⟨rfl, rfl, rfl, by decide +kernel, rfl, by decide +kernel, by decide +kernel⟩
abbrev s_letters_of : Stmt := topS 36
theorem sc_letters_of : FnScope ["node"] ["node"] (defScope s_letters_of) := ⟨rfl, rfl, rfl, by decide +kernel, rfl, by decide +kernel, by decide +kernel⟩
abbrev s_places : Stmt := topS 37
theorem sc_places : FnScope ["term", "found", "pending", "node", "place", "letter"] ["term"] (defScope s_places) := ⟨rfl, rfl, rfl, by decide +kernel, rfl, by decide +kernel, by decide +kernel⟩
abbrev s_end_of : Stmt := topS 38
theorem sc_end_of : FnScope ["term", "start", "missing", "end"] ["term", "start"] (defScope s_end_of) := ⟨rfl, rfl, rfl, by decide +kernel, rfl, by decide +kernel, by decide +kernel⟩
abbrev s_start_of : Stmt := topS 39
theorem sc_start_of : FnScope ["term", "place", "start", "letter"] ["term", "place"] (defScope s_start_of) := ⟨rfl, rfl, rfl, by decide +kernel, rfl, by decide +kernel, by decide +kernel⟩
abbrev s_part : Stmt := topS 40
theorem sc_part : FnScope ["term", "place", "start"] ["term", "place"] (defScope s_part) := ⟨rfl, rfl, rfl, by decide +kernel, rfl, by decide +kernel, by decide +kernel⟩
abbrev s_replace : Stmt := topS 41
theorem sc_replace : FnScope ["term", "place", "value", "start", "end"] ["term", "place", "value"] (defScope s_replace) := ⟨rfl, rfl, rfl, by decide +kernel, rfl, by decide +kernel, by decide +kernel⟩
abbrev s_comes_before : Stmt := topS 42
theorem sc_comes_before : FnScope ["first", "second", "mine", "other"] ["first", "second"] (defScope s_comes_before) := ⟨rfl, rfl, rfl, by decide +kernel, rfl, by decide +kernel, by decide +kernel⟩
abbrev s_law_stream : Stmt := topS 44
theorem sc_law_stream : FnScope ["script", "mixed", "cell"] ["script"] (defScope s_law_stream) := ⟨rfl, rfl, rfl, by decide +kernel, rfl, by decide +kernel, by decide +kernel⟩
abbrev s_law_draw : Stmt := topS 45
theorem sc_law_draw : FnScope ["stream", "many", "value"] ["stream", "many"] (defScope s_law_draw) := ⟨rfl, rfl, rfl, by decide +kernel, rfl, by decide +kernel, by decide +kernel⟩
abbrev s_law_depths : Stmt := topS 46
theorem sc_law_depths : FnScope ["term", "depths_v", "waiting", "node", "depth"] ["term"] (defScope s_law_depths) := ⟨rfl, rfl, rfl, by decide +kernel, rfl, by decide +kernel, by decide +kernel⟩
abbrev s_law_lift : Stmt := topS 47
theorem sc_law_lift : FnScope ["term", "count", "nodes", "depths_v", "k"] ["term", "count"] (defScope s_law_lift) := ⟨rfl, rfl, rfl, by decide +kernel, rfl, by decide +kernel, by decide +kernel⟩
abbrev s_law_put : Stmt := topS 48
theorem sc_law_put : FnScope ["term", "value", "nodes", "depths_v", "k"] ["term", "value"] (defScope s_law_put) := ⟨rfl, rfl, rfl, by decide +kernel, rfl, by decide +kernel, by decide +kernel⟩
abbrev s_law_places : Stmt := topS 49
theorem sc_law_places : FnScope ["term", "found", "waiting", "node", "place"] ["term"] (defScope s_law_places) := ⟨rfl, rfl, rfl, by decide +kernel, rfl, by decide +kernel, by decide +kernel⟩
abbrev s_law_deep : Stmt := topS 50
abbrev N_law_deep : List Str := ["pick", "deep", "k"]
theorem sc_law_deep : FnScope ["pick", "deep", "k"] ["pick", "deep"] (defScope s_law_deep) := ⟨rfl, rfl, rfl, by decide +kernel, rfl, by decide +kernel, by decide +kernel⟩
abbrev s_law_own_names : Stmt := topS 51
theorem sc_law_own_names : FnScope ["many", "found", "k", "name"] ["many"] (defScope s_law_own_names) := ⟨rfl, rfl, rfl, by decide +kernel, rfl, by decide +kernel, by decide +kernel⟩
abbrev s_law_shown : Stmt := topS 52
abbrev N_law_shown : List Str := ["pick", "deep", "names", "half", "fronts", "k"]
theorem sc_law_shown : FnScope ["pick", "deep", "names", "half", "fronts", "k"] ["pick", "deep"] (defScope s_law_shown) := ⟨rfl, rfl, rfl, by decide +kernel, rfl, by decide +kernel, by decide +kernel⟩
abbrev s_law_put_told : Stmt := topS 53
theorem sc_law_put_told : FnScope ["term", "value"] ["term", "value"] (defScope s_law_put_told) := ⟨rfl, rfl, rfl, by decide +kernel, rfl, by decide +kernel, by decide +kernel⟩
abbrev s_law : Stmt := topS 54
theorem sc_law : FnScope ["script", "stream", "pick", "deep", "term", "place", "found", "at", "depths_v", "due", "k", "wanted"] ["script"] (defScope s_law) := ⟨rfl, rfl, rfl, by decide +kernel, rfl, by decide +kernel, by decide +kernel⟩
structure Txt (w : World) (K : PySem.W.Frag) (mg : Str → Option Value) (tk : Nat → Tok) (cl : Nat → Addr) : Prop where
  n_int : mg "int" = none
  n_list : mg "list" = none
  n_len : mg "len" = none
  n_abs : mg "abs" = none
  n_isinstance : mg "isinstance" = none
  n_tuple : mg "tuple" = none
  n_range : mg "range" = none
  n_zip : mg "zip" = none
  n_reversed : mg "reversed" = none
  n_sorted : mg "sorted" = none
  n_all : mg "all" = none
  n_set : mg "set" = none
  n_str : mg "str" = none
  n_bool : mg "bool" = none
  g_MOST_NODES : mg "MOST_NODES" = some (.int 1000 (tk 0))
  g_MOST_VARIABLE : mg "MOST_VARIABLE" = some (.int 1000000 (tk 1))
  g_MOST_LENGTH : mg "MOST_LENGTH" = some (.int 10 (tk 2))
  g_LETTERS : mg "LETTERS" = some (.str "abcdefghijklmnopqrstuvwxyz" (tk 100))
  g_DIGITS : mg "DIGITS" = some (.str "0123456789" (tk 101))
  g_PART_COUNTS : mg "PART_COUNTS" = some (.ref (cl 40))
  d_PART_COUNTS : KD K w (cl 40) [("lam", .int 1), ("app", .int 2), ("to", .int 2)]
  n_ValueError : mg "ValueError" = none
  g_LyditeError : mg "LyditeError" = some (.ref (cl 0))
  t_LyditeError : PySem.W.typeIn K (.ref (cl 0)) = some (.type "type")
  h3_LyditeError : PySem.W.hasDictIn K (cl 0) = true
  g_TooLarge : mg "TooLarge" = some (.ref (cl 1))
  x_TooLarge : PySem.W.excIn K (cl 1) [.type "ValueError", .type "Exception", .type "BaseException", .type "object"] "ValueError.__new__" = true
  k_TooLarge : PySem.W.keepIn K (.ref (cl 1)) = true
  b_TooLarge : PySem.W.subIn K (.ref (cl 1)) (.type "BaseException") = some true
  t_TooLarge : PySem.W.typeIn K (.ref (cl 1)) = some (.type "type")
  s0_TooLarge : PySem.W.subIn K (.ref (cl 1)) (.ref (cl 0)) = some true
  sv_TooLarge : PySem.W.subIn K (.ref (cl 1)) (.type "ValueError") = some true
  s1_TooLarge : PySem.W.subIn K (.ref (cl 1)) (.ref (cl 1)) = some true
  s3_TooLarge : PySem.W.subIn K (.ref (cl 1)) (.ref (cl 3)) = some false
  s5_TooLarge : PySem.W.subIn K (.ref (cl 1)) (.ref (cl 5)) = some false
  h1_TooLarge : PySem.W.findIn K (.ref (cl 1)) "__getattribute__" = some (some (.builtin "BaseException.__getattribute__"))
  h2_TooLarge : PySem.W.findIn K (.ref (cl 1)) "__getattr__" = some none
  h3_TooLarge : PySem.W.hasDictIn K (cl 1) = true
  h4_TooLarge : PySem.W.findIn K (.ref (cl 1)) "__class__" = some (some (.builtin "object.__class__"))
  h7_TooLarge : PySem.W.mroIn K (cl 1) (.type "object") = some true
  h5_TooLarge : PySem.W.specialIn K (.builtin "object.__class__") "__get__" = some (some (.builtin "getset_descriptor.__get__"))
  h6_TooLarge : PySem.W.takesIn K (.builtin "object.__class__") = some true
  g_NoPlace : mg "NoPlace" = some (.ref (cl 3))
  x_NoPlace : PySem.W.excIn K (cl 3) [.type "ValueError", .type "Exception", .type "BaseException", .type "object"] "ValueError.__new__" = true
  k_NoPlace : PySem.W.keepIn K (.ref (cl 3)) = true
  b_NoPlace : PySem.W.subIn K (.ref (cl 3)) (.type "BaseException") = some true
  t_NoPlace : PySem.W.typeIn K (.ref (cl 3)) = some (.type "type")
  s0_NoPlace : PySem.W.subIn K (.ref (cl 3)) (.ref (cl 0)) = some true
  sv_NoPlace : PySem.W.subIn K (.ref (cl 3)) (.type "ValueError") = some true
  s1_NoPlace : PySem.W.subIn K (.ref (cl 3)) (.ref (cl 1)) = some false
  s3_NoPlace : PySem.W.subIn K (.ref (cl 3)) (.ref (cl 3)) = some true
  s5_NoPlace : PySem.W.subIn K (.ref (cl 3)) (.ref (cl 5)) = some false
  h1_NoPlace : PySem.W.findIn K (.ref (cl 3)) "__getattribute__" = some (some (.builtin "BaseException.__getattribute__"))
  h2_NoPlace : PySem.W.findIn K (.ref (cl 3)) "__getattr__" = some none
  h3_NoPlace : PySem.W.hasDictIn K (cl 3) = true
  h4_NoPlace : PySem.W.findIn K (.ref (cl 3)) "__class__" = some (some (.builtin "object.__class__"))
  h7_NoPlace : PySem.W.mroIn K (cl 3) (.type "object") = some true
  g_BadNames : mg "BadNames" = some (.ref (cl 5))
  x_BadNames : PySem.W.excIn K (cl 5) [.type "ValueError", .type "Exception", .type "BaseException", .type "object"] "ValueError.__new__" = true
  k_BadNames : PySem.W.keepIn K (.ref (cl 5)) = true
  b_BadNames : PySem.W.subIn K (.ref (cl 5)) (.type "BaseException") = some true
  t_BadNames : PySem.W.typeIn K (.ref (cl 5)) = some (.type "type")
  s0_BadNames : PySem.W.subIn K (.ref (cl 5)) (.ref (cl 0)) = some true
  sv_BadNames : PySem.W.subIn K (.ref (cl 5)) (.type "ValueError") = some true
  s1_BadNames : PySem.W.subIn K (.ref (cl 5)) (.ref (cl 1)) = some false
  s3_BadNames : PySem.W.subIn K (.ref (cl 5)) (.ref (cl 3)) = some false
  s5_BadNames : PySem.W.subIn K (.ref (cl 5)) (.ref (cl 5)) = some true
  h1_BadNames : PySem.W.findIn K (.ref (cl 5)) "__getattribute__" = some (some (.builtin "BaseException.__getattribute__"))
  h2_BadNames : PySem.W.findIn K (.ref (cl 5)) "__getattr__" = some none
  h3_BadNames : PySem.W.hasDictIn K (cl 5) = true
  h4_BadNames : PySem.W.findIn K (.ref (cl 5)) "__class__" = some (some (.builtin "object.__class__"))
  h7_BadNames : PySem.W.mroIn K (cl 5) (.type "object") = some true
theorem Txt.e_TooLarge_TooLarge {w : World} {K : PySem.W.Frag} {mg : Str → Option Value} {tk : Nat → Tok} {cl : Nat → Addr} (T : Txt w K mg tk cl) : PySem.W.exmOne K (.ref (cl 1)) (.ref (cl 1)) = some true := exm_mk T.b_TooLarge T.h3_TooLarge T.t_TooLarge T.s1_TooLarge
section
variable {P : Program} {w : World} {K : PySem.W.Frag} {mg : Str → Option Value} {base : Heap} {tk : Nat → Tok} {cl : Nat → Addr}
def spStream (K : PySem.W.Frag) : Sp := fun vs H Q _ => ∃ (a : Addr) (ns : List Int), vs = [.ref a] ∧ SqL K H a (ns.map V.int) ∧ ns.length ≤ 63 ∧ ∀ H' p l, Ex H H' → H p = none → StAt H' p ⟨l, ns, 0, 0, mixOf ns⟩ → Q (.ref p) H'
theorem ok_stream {f : Addr} {fd : FuncData} {k : Nat} (F : Fun K "_law_stream" "_law_stream" s_law_stream f fd) (T : Txt w K mg tk cl) : FnOk P w K mg base CX0 (k + 1) f fd ["script"] (spStream K) := by
  refine F.ok sc_law_stream (fun vs H Q E h => ?_) (fun cdv A outer s H vs Q E hr h => ?_)
  · obtain ⟨a, ns, rfl, _⟩ := h
    rfl
  · obtain ⟨a, ns, rfl, hS, hlen, q⟩ := h
    refine ⟨_, (pss_cons (ps_set (i := 1) sc_law_stream.nd rfl (.inl rfl) pe_int) (pss_cons (ps_for PassesOwn.never rfl (pi_list (pv 0)) (pg_name (i := 2) sc_law_stream.nd rfl (.inl rfl)) (pss_one (ps_set (i := 1) sc_law_stream.nd rfl (.inl rfl) (pe_op op_modN (pe_callTy call_int1 (by rfl) T.n_int (by decide +kernel) (pa_cons (pe_op op_add (pe_op op_add (pe_op op_mul (pv 1) pe_int) (pe_op op_modN (pe_callTy call_int1 (by rfl) T.n_int (by decide +kernel) (pa_cons (pv 2) pa_nil)) pe_int)) pe_int) pa_nil)) pe_int)))) (pss_one (ps_ret (pe_lst (pa_cons (pe_callTy call_list_of (by rfl) T.n_list (by decide +kernel) (pa_cons (pv 0) pa_nil)) (pa_cons pe_int (pa_cons pe_int (pa_cons (pv 1) pa_nil))))))))), ?_⟩
    refine sl_of (σ2 := [some _, none, none]) rfl ?_
    walk_at "st"
    walk_at "go"
    refine for_list (K := K) (a := a) (xs := ns.map V.int) (fun i σ H' => H' = H ∧ ∃ y, σ = [some (.ref a), some (.int (mixOf (ns.take i))), y]) ⟨rfl, none, rfl⟩ (fun i σ H' _ e => by rw [e.1]; exact hS) ?_ ?_
    · rintro i x σ H' hi ⟨rfl, y, rfl⟩
      obtain ⟨z, hz, rfl⟩ := get_int hi
      walk_at "go"
      exact ⟨rfl, _, by rw [mixOf_take hz]; rfl⟩
    · rintro σ H' ⟨rfl, y, rfl⟩
      walk_at "go"
      intro l hl
      walk_at "go"
      intro p hp
      rw [List.take_of_length_le (by simp)]
      refine q _ _ l ?_ ?_ ⟨?_, ?_, ?_⟩
      · walk_at "ex"
      · walk_at "free"
      · walk_at "ne"
      · walk_at "hp"
      · walk_at "hp"
def spDraw : Sp := fun vs H Q _ => ∃ (s : Addr) (m : Stm) (n : Int), vs = [.ref s, .int n] ∧ StAt H s m ∧ 0 < n ∧ n < 1073741824 ∧ ∀ H', Fr s H H' → StAt H' s (m.next n) → Q (.int (m.val n)) H'
theorem ok_draw {f : Addr} {fd : FuncData} {k : Nat} (F : Fun K "_law_draw" "_law_draw" s_law_draw f fd) (T : Txt w K mg tk cl) : FnOk P w K mg base CX0 (k + 1) f fd ["stream", "many"] spDraw := by
  refine F.ok sc_law_draw (fun vs H Q E h => ?_) (fun cdv A outer s H vs Q E hr h => ?_)
  · obtain ⟨a, m, n, rfl, _⟩ := h
    rfl
  · obtain ⟨a, m, n, rfl, ⟨hla, ha, hl⟩, n0, n1, q⟩ := h
    refine ⟨_, (pss_cut (ps_if (PW.pt (pw_and (pt_cmpR op_eq (pe_ix ix_list (pv 0) pe_int (fun _ _ => rfl)) pe_int (nomark _)) (pw_and1 (pt_cmpR op_lt (pe_ix ix_list (pv 0) pe_int (fun _ _ => rfl)) (pe_callB call_len_seq (by rfl) T.n_len (by decide +kernel) (pa_cons (pe_ix ix_list (pv 0) pe_int (fun _ _ => rfl)) pa_nil)) (nomark _))))) (pss_cons (ps_asg (pe_callB call_abs (by rfl) T.n_abs (by decide +kernel) (pa_cons (pe_callTy call_int1 (by rfl) T.n_int (by decide +kernel) (pa_cons (pe_ix ix_list (pe_ix ix_list (pv 0) pe_int (fun _ _ => rfl)) (pe_ix ix_list (pv 0) pe_int (fun _ _ => rfl)) (fun _ _ => rfl)) pa_nil)) pa_nil)) (pg_sub (pv 0) pe_int set_list)) (pss_one (ps_asg (pe_op op_add (pe_ix ix_list (pv 0) pe_int (fun _ _ => rfl)) pe_int) (pg_sub (pv 0) pe_int set_list)))) pss_nil) (pss_cons (ps_if (pt_cmpR op_eq (pe_ix ix_list (pv 0) pe_int (fun _ _ => rfl)) pe_int (nomark _)) (pss_cons (ps_asg (pe_op op_modN (pe_callTy call_int1 (by rfl) T.n_int (by decide +kernel) (pa_cons (pe_op op_add (pe_op op_mul (pe_ix ix_list (pv 0) pe_int (fun _ _ => rfl)) pe_int) pe_int) pa_nil)) pe_int) (pg_sub (pv 0) pe_int set_list)) (pss_one (ps_ret (pe_op op_modN (pe_callTy call_int1 (by rfl) T.n_int (by decide +kernel) (pa_cons (pe_op op_fdivN (pe_ix ix_list (pv 0) pe_int (fun _ _ => rfl)) pe_int) pa_nil)) (pv 1))))) pss_nil) (pss_cons (ps_set (i := 2) sc_law_draw.nd rfl (.inl rfl) (pe_op op_modN (pe_callTy call_int1 (by rfl) T.n_int (by decide +kernel) (pa_cons (pe_ix ix_list (pv 0) pe_int (fun _ _ => rfl)) pa_nil)) (pv 1))) (pss_cons (ps_asg (pe_op op_fdivN (pe_ix ix_list (pv 0) pe_int (fun _ _ => rfl)) (pv 1)) (pg_sub (pv 0) pe_int set_list)) (pss_one (ps_ret (pv 2))))))), ?_⟩
    refine sl_of (σ2 := [some _, some _, none]) rfl ?_
    walk_at "st"
    walk_at "go"
    refine w_cut (M := fun σ' H' => σ' = [some (.ref a), some (.int n), none] ∧ Fr a H H' ∧ H' a = some (.lst [.ref m.home, .int m.take.cur, .int m.take.pos, .int m.take.mix]) ∧ H' m.home = some (.lst (m.cells.map V.int))) ?_ ?_
    · walk_at "go"
      refine w_brI (fun hc => ?_) (fun hc => ?_)
      · walk_at "go"
        refine w_br (fun hp => ?_) (fun hp => ?_)
        · rw [List.length_map] at hp
          have hp2 : m.pos < m.cells.length := by omega
          have e : m.take = { m with cur := (if m.cells.getD m.pos 0 < 0 then -(m.cells.getD m.pos 0) else m.cells.getD m.pos 0), pos := m.pos + 1 } := if_pos ⟨hc, hp2⟩
          walk_at "go"
          refine ⟨rfl, ?_, ?_, ?_⟩
          · walk_at "fr"
          · rw [e]
            exact upd_same
          · walk_at "hp"
        · rw [List.length_map] at hp
          have e : m.take = m := if_neg (fun z => hp (by omega))
          walk_at "go"
          rw [e]
          exact ⟨rfl, Fr.refl _ _, ha, hl⟩
      · have e : m.take = m := if_neg (fun z => hc z.1)
        walk_at "go"
        rw [e]
        exact ⟨rfl, Fr.refl _ _, ha, hl⟩
    · rintro σ' H' ⟨rfl, fr, ea, el⟩
      walk_at "go"
      refine w_brI (fun hc => ?_) (fun hc => ?_)
      · walk_at "go"
        have e1 : m.next n = m.take.turn := if_pos hc
        have e2 : m.val n = (m.take.turn.mix.fdiv 97).fmod n := if_pos hc
        rw [e1, e2] at q
        refine q _ ?_ ⟨?_, ?_, ?_⟩
        · walk_at "fr"
        · show m.take.home ≠ a
          rw [m.take_home]
          exact hla
        · show _ = some (HO.lst [.ref m.take.home, _, _, _])
          rw [upd_same, m.take_home]
          rfl
        · show _ = some (HO.lst (List.map V.int m.take.cells))
          rw [m.take_cells]
          show upd _ a _ m.take.home = _
          rw [m.take_home]
          walk_at "hp"
      · walk_at "go"
        have e1 : m.next n = { m.take with cur := m.take.cur.fdiv n } := if_neg hc
        have e2 : m.val n = m.take.cur.fmod n := if_neg hc
        rw [e1, e2] at q
        refine q _ ?_ ⟨?_, ?_, ?_⟩
        · walk_at "fr"
        · show m.take.home ≠ a
          rw [m.take_home]
          exact hla
        · show _ = some (HO.lst [.ref m.take.home, _, _, _])
          rw [upd_same, m.take_home]
          rfl
        · show _ = some (HO.lst (List.map V.int m.take.cells))
          rw [m.take_cells]
          show upd _ a _ m.take.home = _
          rw [m.take_home]
          walk_at "hp"
def spDepths (K : PySem.W.Frag) : Sp := fun vs H Q _ => ∃ (a : Addr) (t : Tm), vs = [.ref a] ∧ SqT K H a t.enc ∧ t.enc.length ≤ 2000000 ∧ ∀ H' p, Ex H H' → H p = none → H' p = some (.lst (nums (t.deps 0))) → Q (.ref p) H'
def spEnd (K : PySem.W.Frag) : Sp := fun vs H Q _ => ∃ (a : Addr) (xs : List V) (s : Nat) (u : Tm) (post : List V), vs = [.ref a, .int (s : Int)] ∧ SqT K H a xs ∧ xs.drop s = u.enc ++ post ∧ xs.length ≤ 2000000 ∧ Q (.int ((s + u.enc.length : Nat) : Int)) H
def spLPlaces (K : PySem.W.Frag) : Sp := fun vs H Q _ => ∃ (a : Addr) (t : Tm), vs = [.ref a] ∧ SqT K H a t.enc ∧ t.enc.length ≤ 2000000 ∧ ∀ H' p, Ex H H' → H p = none → H' p = some (.lst (plcs (t.pls []))) → Q (.ref p) H'
end
end Ly
set_option Elab.async false
set_option linter.all false
set_option maxRecDepth 100000
set_option maxHeartbeats 8000000
namespace Ly
open PySem PySem.Spec PyProof.Rows L2 Evl
local macro_rules | `(tactic| walk_at "ne") => `(tactic| first
  | assumption
  | ((refine' Ne.symm ?hq); (case hq => assumption))
  | ((refine' ne_of_none ?nh1 ?nh2); (case nh2 => assumption); (case nh1 => walk_at "hp"))
  | ((refine' Ne.symm (ne_of_none ?nh1 ?nh2)); (case nh2 => assumption); (case nh1 => walk_at "hp")))
local macro_rules | `(tactic| walk_at "hp") => `(tactic| first
  | assumption
  | exact upd_same
  | ((refine' SqL.of ?hq); (case hq => walk_at "hp"))
  | ((refine' SqT.of ?hq); (case hq => walk_at "hp"))
  | ((refine' (upd_ne ?hne).trans ?hrest); (case hne => walk_at "ne"); (case hrest => walk_at "hp"))
  | ((refine' ly_at ?hex ?hh); (case hex => assumption); (case hh => walk_at "hp"))
  | ((refine' ly_atF ?hex ?hnn ?hh); (case hex => assumption); (case hh => walk_at "hp"); (case hnn => walk_at "ne"))
  | ((refine' ex_t ?hex ?hh); (case hh => assumption); (case hex => walk_at "ex"))
  | ((refine' ex_l ?hex ?hh); (case hh => assumption); (case hex => walk_at "ex")))
local macro_rules | `(tactic| walk_at "ex") => `(tactic| first
  | assumption
  | exact Ex.refl _
  | ((refine' ex_new ?xa ?xb); (case xb => assumption); (case xa => walk_at "ex"))
  | ((refine' ex_upd ?xa ?xb); (case xb => walk_at "free"); (case xa => walk_at "ex"))
  | ((refine' Ex.trans ?xa ?xb); (case xb => assumption); (case xa => walk_at "ex")))
local macro_rules | `(tactic| walk_at "free") => `(tactic| first
  | assumption
  | ((refine' fresh_back ?xa ?xb); (case xb => assumption); (case xa => walk_at "ex")))
local macro_rules | `(tactic| walk_at "fr") => `(tactic| first
  | assumption
  | exact Fr.refl _ _
  | ((refine' Fr.own ?hq); (case hq => walk_at "fr"))
  | ((refine' Fr.new ?xa ?xb); (case xb => assumption); (case xa => walk_at "fr"))
  | ((refine' Fr.mut ?xa ?xb); (case xb => assumption); (case xa => walk_at "fr"))
  | ((refine' Fr.trans ?xa ?xb); (case xb => assumption); (case xa => walk_at "fr"))
  | ((refine' Fr.trans ?xa (Fr.ex ?xb)); (case xb => assumption); (case xa => walk_at "fr")))
local macro_rules | `(tactic| walk_at "go1") => `(tactic| first
  | (with_reducible refine' w_seq ?_)
  | (with_reducible refine' w_asg ?_)
  | (with_reducible refine' w_ret ?_)
  | (with_reducible refine' w_drop ?_)
  | (with_reducible refine' w_if ?_)
  | (with_reducible refine' w_next ?_)
  | (with_reducible refine' w_name ?_)
  | (with_reducible refine' w_sub ?_)
  | ((with_reducible refine' w_var ?hv ?_); (case hv => exact rfl))
  | (with_reducible refine' w_c ?_)
  | (with_reducible refine' w_op ?_)
  | (with_reducible refine' w_un ?_)
  | (with_reducible refine' w_ch ?_)
  | (with_reducible refine' w_I0 ?_)
  | ((with_reducible refine' w_I ?hc ?_); (case hc => first | (exact ly_mulL (by decide) (by decide)) | (exact ly_mulR (by decide) (by decide)) | (exact ly_mulL (by omega) (by omega)) | (show (_ : Int) ≠ 0; decide) | (show (_ : Int) ≠ 0; omega) | (exact ⟨by decide, by decide⟩) | (exact ⟨by omega, by omega⟩)))
  | (with_reducible refine' w_U ?_)
  | ((with_reducible refine' w_eq ?hs ?_); (case hs => exact rfl))
  | ((with_reducible refine' w_ne ?hs ?_); (case hs => exact rfl))
  | (with_reducible refine' w_isB ?_)
  | (with_reducible refine' w_notB ?_)
  | (with_reducible refine' w_nil ?_)
  | (with_reducible refine' w_cons ?_)
  | (with_reducible refine' w_tup ?_)
  | (with_reducible refine' w_lst ?_)
  | (with_reducible refine' w_cb ?_)
  | (with_reducible refine' w_call ?_)
  | (with_reducible refine' w_bm ?_)
  | (with_reducible refine' w_bm0 ?_)
  | ((with_reducible refine' w_app ?hh ?hz ?_); (case hh => walk_at "hp"); (case hz => first | exact ly_lt (by omega) | exact ly_lt (by simp only [List.length_append, List.length_map, List.length_cons, List.length_nil]; omega)))
  | ((with_reducible refine' w_popA ?hh ?_); (case hh => walk_at "hp"))
  | ((with_reducible refine' w_ext ?hh ?hh2 ?hz ?_); (case hh => walk_at "hp"); (case hh2 => walk_at "hp"))
  | ((with_reducible refine' w_ixL ?hh ?ha ?_); (case hh => walk_at "hp"); (case ha => first | exact rfl | exact at_map (by omega) | exact atI_last _ _ | ((refine' at_of ?ae ?ah); (case ah => assumption); (case ae => omega))))
  | ((with_reducible refine' w_ixT ?hh ?ha ?_); (case hh => walk_at "hp"); (case ha => first | exact rfl | exact at_map (by omega) | exact atI_last _ _ | ((refine' at_of ?ae ?ah); (case ah => assumption); (case ae => omega))))
  | ((with_reducible refine' w_cat ?hh ?hh2 ?hz ?_); (case hh => walk_at "hp"); (case hh2 => walk_at "hp"))
  | ((with_reducible refine' w_setL ?hh ?ha ?_); (case hh => walk_at "hp"); (case ha => exact rfl))
  | (with_reducible refine' w_test ?_)
  | (with_reducible refine' w_tB ?_)
  | (with_reducible refine' w_bl ?_)
  | (with_reducible refine' w_and ?_)
  | (with_reducible refine' w_or ?_)
  | (with_reducible refine' w_not ?_)
  | (with_reducible refine' w_andV ?_)
  | (with_reducible refine' w_orV ?_)
  | (with_reducible refine' w_notV ?_)
  | (with_reducible refine' w_ifE ?_)
  | (with_reducible refine' w_for ?_)
  | ((with_reducible refine' w_nin ?hh ?_); (case hh => walk_at "hp"))
  | ((with_reducible refine' w_sorted ?hh ?_); (case hh => walk_at "hp"))
  | (with_reducible refine' w_tsadd ?_)
  | ((with_reducible refine' w_tsadd1 ?hh ?_); (case hh => walk_at "hp"))
  | ((with_reducible refine' w_sadd ?hh ?hr ?_); (case hh => walk_at "hp"); (case hr => omega))
  | (with_reducible refine' w_iZ ?_)
  | ((with_reducible refine' w_iZ1 ?hh ?hh2 ?_); (case hh => walk_at "hp"); (case hh2 => walk_at "hp"))
  | (with_reducible refine' w_iS ?_)
  | (with_reducible refine' w_iS1 ?_)
  | ((with_reducible refine' w_gtup ?hh ?hn ?_); (case hh => walk_at "hp"); (case hn => exact rfl))
  | (with_reducible refine' w_gcons ?_)
  | (with_reducible refine' w_gnil ?_)
  | (with_reducible refine' w_js ?_)
  | (with_reducible refine' w_jsn ?_)
  | ((with_reducible refine' w_js1 ?hl ?_); (case hl => decide +kernel))
  | (with_reducible refine' w_fmt ?_)
  | ((with_reducible refine' w_fmt1 ?hl ?_); (case hl => decide +kernel))
  | (with_reducible refine' w_callS ?_)
  | ((with_reducible refine' w_truL ?hh ?_); (case hh => walk_at "hp"))
  | (with_reducible refine' w_lc ?_)
  | (with_reducible refine' w_yes ?_)
  | ((with_reducible refine' w_wipe ?he ?_); (case he => exact rfl))
  | (with_reducible refine' w_iL ?_)
  | (with_reducible refine' w_iT ?_)
  | (with_reducible refine' w_iR ?_)
  | ((with_reducible refine' w_iL1 ?hh ?_); (case hh => walk_at "hp"))
  | ((with_reducible refine' w_iT1 ?hh ?_); (case hh => walk_at "hp"))
  | ((with_reducible refine' w_iR1 ?h1 ?h2 ?_); (case h1 => omega); (case h2 => omega))
  | ((with_reducible refine' w_aug ?hv ?_); (case hv => exact rfl))
  | (with_reducible refine' w_ipI ?_)
  | ((with_reducible refine' w_isi ?hy ?hk ?_); (case hy => walk_at "ty"); (case hk => walk_at "kit"))
  | ((with_reducible refine' w_int ?_))
  | ((with_reducible refine' w_intB ?_))
  | ((with_reducible refine' w_abs ?_))
  | ((with_reducible refine' w_lenL ?hh ?_); (case hh => walk_at "hp"))
  | ((with_reducible refine' w_lenT ?hh ?_); (case hh => walk_at "hp"))
  | ((with_reducible refine' w_tupL ?hh ?_); (case hh => walk_at "hp"))
  | ((with_reducible refine' w_tupT ?hh ?_); (case hh => walk_at "hp"))
  | ((with_reducible refine' w_catA ?hh ?hh2 ?hz ?_); (case hh => walk_at "hp"); (case hh2 => walk_at "hp"); (case hz => walk_at "len"))
  | ((with_reducible refine' w_repB ?hh ?hne ?h2 ?h3 ?hz ?_); (case hh => walk_at "hp"); (case hne => simp); (case h2 => omega); (case h3 => omega); (case hz => exact Nat.le_of_ble_eq_true rfl))
  | ((with_reducible refine' w_eqN ?hh ?hh2 ?n1 ?n2 ?_); (case hh => walk_at "hp"); (case hh2 => walk_at "hp"); (case n1 => walk_at "nd"); (case n2 => walk_at "nd"))
  | ((with_reducible refine' w_neN ?hh ?hh2 ?n1 ?n2 ?_); (case hh => walk_at "hp"); (case hh2 => walk_at "hp"); (case n1 => walk_at "nd"); (case n2 => walk_at "nd"))
  | ((with_reducible refine' w_eqL ?hh ?hh2 ?n1 ?n2 ?_); (case hh => walk_at "hp"); (case hh2 => walk_at "hp"); (case n1 => walk_at "nd"); (case n2 => walk_at "nd"))
  | ((with_reducible refine' w_neL ?hh ?hh2 ?n1 ?n2 ?_); (case hh => walk_at "hp"); (case hh2 => walk_at "hp"); (case n1 => walk_at "nd"); (case n2 => walk_at "nd"))
  | ((with_reducible refine' w_neNon ?hh2 ?n2 ?_); (case hh2 => walk_at "hp"); (case n2 => walk_at "nd"))
  | ((with_reducible refine' w_eqNon ?hh2 ?n2 ?_); (case hh2 => walk_at "hp"); (case n2 => walk_at "nd"))
  | ((with_reducible refine' w_slA ?hh ?_); (case hh => walk_at "hp"))
  | ((with_reducible refine' w_disp ?hz ?_); (case hz => exact sz_of (Nat.le_of_ble_eq_true rfl)))
  | ((with_reducible refine' w_tyL ?hh ?_); (case hh => walk_at "hp"))
  | (with_reducible refine' iteT ?_)
  | (with_reducible refine' iteF ?_)
  | (with_reducible refine' w_nT ?_)
  | (with_reducible refine' w_nn ?_)
  | (with_reducible refine' w_nnT ?_)
  | (with_reducible refine' w_nnR ?_)
  | (with_reducible refine' w_neG ?_)
  | (with_reducible refine' w_eqG ?_)
  | (with_reducible refine' w_neS ?_)
  | (with_reducible refine' w_eqS ?_)
  | (with_reducible refine' w_neSb ?_)
  | (with_reducible refine' w_eqSb ?_)
  | (with_reducible refine' w_deIS ?_)
  | (with_reducible refine' w_deSI ?_)
  | (with_reducible refine' w_deISn ?_)
  | ((with_reducible refine' w_deST ?he ?_); (case he => decide +kernel))
  | ((with_reducible refine' w_deSF ?he ?_); (case he => decide +kernel))
  | ((with_reducible refine' w_deSTn ?he ?_); (case he => decide +kernel))
  | ((with_reducible refine' w_deSFn ?he ?_); (case he => decide +kernel))
  | (with_reducible refine' w_nF ?_)
  | dsimp only [Bool.not_true, Bool.not_false])
local macro_rules | `(tactic| walk_at "ty") => `(tactic| first
  | exact .base (.int _) | exact .base (.str _) | exact .base (.bl _) | exact .base .non
  | ((refine' tyx_t ?hq); (case hq => walk_at "hp")) | ((refine' tyx_l ?hq); (case hq => walk_at "hp")) | ((refine' .base (.tup ?hq)); (case hq => walk_at "hp")) | assumption)
local macro_rules | `(tactic| walk_at "go") => `(tactic| repeat walk_at "go1")
local macro_rules | `(tactic| walk_at "st") => `(tactic| try dsimp only [cxOf, Cx.nox, Cx.wish])
local macro_rules | `(tactic| walk_at "kit") => `(tactic| with_reducible first | exact kit_int_int | exact kit_int_str | exact kit_int_bool | exact kit_int_tuple | exact kit_int_list | exact kit_str_int | exact kit_str_str | exact kit_str_bool | exact kit_str_tuple | exact kit_str_list | exact kit_bool_int | exact kit_bool_str | exact kit_bool_bool | exact kit_bool_tuple | exact kit_bool_list | exact kit_NoneType_int | exact kit_NoneType_str | exact kit_NoneType_bool | exact kit_NoneType_tuple | exact kit_NoneType_list | exact kit_list_int | exact kit_list_str | exact kit_list_bool | exact kit_list_tuple | exact kit_list_list | exact kit_tuple_int | exact kit_tuple_str | exact kit_tuple_bool | exact kit_tuple_tuple | exact kit_tuple_list)
local macro_rules | `(tactic| walk_at "nd") => `(tactic| first
  | assumption
  | exact Tm.nds _
  | exact Nds.nil
  | exact Nds.ofInts _
  | ((refine' Nds.cons ?na ?nb); (case na => first | exact Nds.I _ | exact Nds.L | exact Nds.A); (case nb => walk_at "nd"))
  | ((refine' Nds.app ?na ?nb); (case na => walk_at "nd"); (case nb => walk_at "nd"))
  | ((refine' Nds.rep ?na _); (case na => walk_at "nd")))
local macro_rules | `(tactic| walk_at "len") => `(tactic| first
  | exact ly_sz (by omega)
  | ((simp only [List.length_append, List.length_cons, List.length_nil, List.length_map, PyProof.Rows.lm_len_rep_flat]); exact ly_sz (by omega)))
local macro_rules | `(tactic| walk_at "go1") => `(tactic| first
  | (with_reducible refine' w_kget2 ?_)
  | (with_reducible refine' w_isRN ?_)
  | (with_reducible refine' w_isNN ?_)
  | (with_reducible refine' w_isIN ?_)
  | ((with_reducible refine' w_kg ?hd ?_); (case hd => assumption)))

section
variable {P : Program} {w : World} {K : PySem.W.Frag} {mg : Str → Option Value} {base : Heap} {tk : Nat → Tok} {cl : Nat → Addr}
def spSize (C : Addr) : Sp := fun vs H Q E => ∃ n : Int, vs = [.int n] ∧ (n ≤ 1000 → Q .non H) ∧ (¬ n ≤ 1000 → E (.ref C) none H)
theorem ok_check_size {f : Addr} {fd : FuncData} {k : Nat} (F : Fun K "check_size" "check_size" s_check_size f fd) (T : Txt w K mg tk cl) : FnOk P w K mg base (L2.CX P w) (k + 1) f fd ["size"] (spSize (cl 1)) := by
  refine F.okX sc_check_size (fun vs H Q E h => ?_) (fun cdv A outer s H vs Q E hr h => ?_)
  · obtain ⟨n, rfl, _⟩ := h
    rfl
  · obtain ⟨n, rfl, q, x⟩ := h
    refine ⟨_, (pss_one (ps_if (pt_cmpR op_gt (pv 0) (pe_glob (v := .int 1000) rfl T.g_MOST_NODES ⟨_, rfl⟩) (nomark _)) (pss_one (ps_raise rfl (takes_of rfl rfl rfl rfl) (SkE.pmk_own1 PySem.F.excBase_ValueError T.x_TooLarge T.g_TooLarge T.k_TooLarge (raises_own T.b_TooLarge T.t_TooLarge) rfl (pe_joined (.cons pe_str (.cons (pe_fmt (pe_glob (v := .int 1000) rfl T.g_MOST_NODES ⟨_, rfl⟩)) (.cons pe_str .nil))))))) pss_nil)), ?_⟩
    refine sl_of (σ2 := [some _]) rfl ?_
    walk_at "st"
    walk_at "go"
    refine w_br (fun h1 => ?_) (fun h1 => ?_)
    · walk_at "go"
      exact x (by omega)
    · walk_at "go"
      exact q (by omega)
def spChecked (K : PySem.W.Frag) (C : Addr) : Sp := fun vs H Q E => ∃ a xs, vs = [.ref a] ∧ SqT K H a xs ∧ Flat xs ∧ (fitsV xs = true → Q (.ref a) H) ∧ (fitsV xs = false → E (.ref C) none H)
theorem ok_checked {f : Addr} {fd : FuncData} (F : Fun K "checked" "checked" s_checked f fd) (T : Txt w K mg tk cl)
    (D1 : Def P w K mg base (L2.CX P w) 1 "check_size" ["size"] (spSize (cl 1))) : FnOk P w K mg base (L2.CX P w) 2 f fd ["term"] (spChecked K (cl 1)) := by
  obtain ⟨f1, fd1, g_check_size, kp_check_size, b_check_size, G_check_size⟩ := D1
  refine F.okX sc_checked (fun vs H Q E h => ?_) (fun cdv A outer s H vs Q E hr h => ?_)
  · obtain ⟨a, xs, rfl, _⟩ := h
    rfl
  · obtain ⟨a, xs, rfl, hS, hf, q, x⟩ := h
    refine ⟨_, (pss_cons (ps_expr (pe_call G_check_size (hr.mono (by first | decide | omega)) (by rfl) g_check_size kp_check_size b_check_size .nil (passes_call (takes_of rfl rfl rfl rfl) (fun _ _ _ _ h => h)) (pa_cons (pe_callB call_len_seq (by rfl) T.n_len (by decide +kernel) (pa_cons (pv 0) pa_nil)) pa_nil))) (pss_cons (ps_for (passes_of rfl) rfl (pi_tup (pv 0)) (pg_name (i := 1) sc_checked.nd rfl (.inl rfl)) (pss_one (ps_if (PW.pt (pw_and (pt_val (pe_callB call_isi (by rfl) T.n_isinstance (by decide +kernel) (pa_cons (pv 1) (pa_cons (pe_bltn (v := .ty "int") (by rfl) T.n_int (by decide +kernel) rfl) pa_nil)))) (pw_and1 (pt_cmpR op_gt (pv 1) (pe_glob (v := .int 1000000) rfl T.g_MOST_VARIABLE ⟨_, rfl⟩) (nomark _))))) (pss_one (ps_raise rfl (takes_of rfl rfl rfl rfl) (SkE.pmk_own1 PySem.F.excBase_ValueError T.x_TooLarge T.g_TooLarge T.k_TooLarge (raises_own T.b_TooLarge T.t_TooLarge) rfl (pe_joined (.cons pe_str (.cons (pe_fmt (pe_glob (v := .int 1000000) rfl T.g_MOST_VARIABLE ⟨_, rfl⟩)) .nil)))))) pss_nil))) (pss_one (ps_ret (pv 0))))), ?_⟩
    refine sl_of (σ2 := [some _, none]) rfl ?_
    walk_at "st"
    walk_at "go"
    refine ⟨_, rfl, fun h1 => ?_, fun h1 => x (by simp [fitsV]; omega)⟩
    have h2 : xs.length ≤ 1000 := by omega
    walk_at "go"
    refine for_tup (K := K) (a := a) (xs := xs) (fun i σ H' => H' = H ∧ ∃ y, σ = [some (.ref a), y] ∧ (xs.take i).all okV = true) ⟨rfl, none, rfl, rfl⟩ (fun i σ H' _ e => by rw [e.1]; exact hS) ?_ ?_
    · rintro i v σ H' hi ⟨rfl, y, rfl, hall⟩
      have hv : v ∈ xs := List.mem_of_getElem? hi
      have bad : okV v = false → fitsV xs = false := fun e => by
        have : xs.all okV = false := List.all_eq_false.mpr ⟨v, hv, by simp [e]⟩
        simp [fitsV, this]
      have good : okV v = true → (xs.take (i + 1)).all okV = true := fun e => by
        rw [List.take_add_one, hi, List.all_append, hall]
        simp [e]
      rcases hf v hv with ⟨j, rfl⟩ | ⟨z, rfl⟩
      · walk_at "go"
        refine w_br (fun h3 => ?_) (fun h3 => ?_)
        · walk_at "go"
          exact x (bad (by simp [okV]; omega))
        · walk_at "go"
          exact ⟨rfl, _, rfl, good (by simp [okV]; omega)⟩
      · walk_at "go"
        exact ⟨rfl, _, rfl, good rfl⟩
    · rintro σ H' ⟨rfl, y, rfl, hall⟩
      walk_at "go"
      rw [List.take_length] at hall
      exact q (by simp [fitsV, h2]; simpa using hall)
theorem ok_depths {f : Addr} {fd : FuncData} {k : Nat} (F : Fun K "depths" "depths" s_depths f fd) (T : Txt w K mg tk cl) : FnOk P w K mg base CX0 (k + 1) f fd ["term"] (spDepths K) := by
  refine F.ok sc_depths (fun vs H Q E h => ?_) (fun cdv A outer s H vs Q E hr h => ?_)
  · obtain ⟨a, t, rfl, _⟩ := h
    rfl
  · obtain ⟨a, t, rfl, hS, hlen, q⟩ := h
    refine ⟨_, (pss_cons (ps_set (i := 1) sc_depths.nd rfl (.inl rfl) (pe_lst pa_nil)) (pss_cons (ps_set (i := 2) sc_depths.nd rfl (.inl rfl) (pe_lst (pa_cons pe_int pa_nil))) (pss_cons (ps_for PassesOwn.never rfl (pi_tup (pv 0)) (pg_name (i := 3) sc_depths.nd rfl (.inl rfl)) (pss_cons (ps_set (i := 4) sc_depths.nd rfl (.inl rfl) (pe_bm0 PySem.F.plainAttrs_list PySem.F.slot_list_pop PySem.F.type_list_pop mt_pop (pv 2))) (pss_cons (ps_expr (pe_bm PySem.F.plainAttrs_list PySem.F.slot_list_append PySem.F.type_list_append mt_append (pv 1) (pa_cons (pv 4) pa_nil))) (pss_one (ps_if (pt_cmpR op_eq (pv 3) pe_str (nomark _)) (pss_one (ps_expr (pe_bm PySem.F.plainAttrs_list PySem.F.slot_list_append PySem.F.type_list_append mt_append (pv 2) (pa_cons (pe_op op_add (pv 4) pe_int) pa_nil)))) (pss_one (ps_if (pt_cmpR op_eq (pv 3) pe_str (nomark _)) (pss_cons (ps_expr (pe_bm PySem.F.plainAttrs_list PySem.F.slot_list_append PySem.F.type_list_append mt_append (pv 2) (pa_cons (pv 4) pa_nil))) (pss_one (ps_expr (pe_bm PySem.F.plainAttrs_list PySem.F.slot_list_append PySem.F.type_list_append mt_append (pv 2) (pa_cons (pv 4) pa_nil))))) pss_nil))))))) (pss_one (ps_ret (pv 1)))))), ?_⟩
    refine sl_of (σ2 := [some _, none, none, none, none]) rfl ?_
    walk_at "st"
    walk_at "go"
    intro fl hfl
    walk_at "go"
    intro wl hwl
    have hwf : wl ≠ fl := (ne_of_none upd_same hwl).symm
    have hwl0 : H wl = none := by
      rw [upd_ne hwf] at hwl
      exact hwl
    walk_at "go"
    refine for_tup (K := K) (a := a) (xs := t.enc) (fun i σ H' => ∃ found ds y1 y2, σ = [some (.ref a), some (.ref fl), some (.ref wl), y1, y2] ∧ Ex H H' ∧ H' fl = some (.lst (nums found)) ∧ H' wl = some (.lst (nums ds)) ∧ DInv t i found ds ∧ found.length = i ∧ ds.length ≤ i + 1)
      ⟨[], [0], none, none, rfl, by walk_at "ex", by walk_at "hp", upd_same, DInv.start t, rfl, by simp⟩ (fun i σ H' _ h => by obtain ⟨_, _, _, _, _, e, _⟩ := h; exact ex_t e hS) ?_ ?_
    · rintro i v σ H1 hi ⟨found, ds, y1, y2, rfl, e1, hf1, hw1, hinv, hfl1, hds1⟩
      have hlt : i < t.enc.length := (List.getElem?_eq_some_iff.mp hi).1
      obtain ⟨r, d, rfl, hstep⟩ := hinv.step hi
      have hw1b : H1 wl = some (.lst (nums r ++ [V.int d])) := by rw [hw1]; simp [nums]
      have el : (nums found).length = found.length := List.length_map _
      have el2 : (nums r).length = r.length := List.length_map _
      have hrl : r.length ≤ i := by simpa using hds1
      have ef : nums found ++ [V.int d] = nums (found ++ [d]) := by simp [nums]
      rcases hstep with ⟨n, rfl, hn⟩ | ⟨rfl, hn⟩ | ⟨rfl, hn⟩
      · walk_at "go"
        refine ⟨found ++ [d], r, _, _, rfl, by walk_at "ex", ?_, by walk_at "hp", hn, by simp [hfl1], by omega⟩
        rw [← ef]
        walk_at "hp"
      · walk_at "go"
        refine ⟨found ++ [d], r ++ [d + 1], _, _, rfl, by walk_at "ex", ?_, ?_, hn, by simp [hfl1], by simp; omega⟩
        · rw [← ef]
          walk_at "hp"
        · rw [upd_same]
          simp [nums]
      · walk_at "go"
        refine ⟨found ++ [d], r ++ [d] ++ [d], _, _, rfl, by walk_at "ex", ?_, ?_, hn, by simp [hfl1], by simp; omega⟩
        · rw [← ef]
          walk_at "hp"
        · rw [upd_same]
          simp [nums]
    · rintro σ H1 ⟨found, ds, y1, y2, rfl, e1, hf1, hw1, hinv, hfl1, hds1⟩
      walk_at "go"
      rw [hinv.done] at hf1
      exact q H1 fl e1 hfl hf1
def freeV : V → Int → Bool
  | .int i, d => decide (d ≤ i)
  | _, _ => false
def spFree1 : Sp := fun vs H Q _ => ∃ (v : V) (d : Int), vs = [v, .int d] ∧ ((∃ i, v = .int i) ∨ ∃ z, v = .str z) ∧ Q (.bl (freeV v d)) H
theorem ok_stands_free {f : Addr} {fd : FuncData} {k : Nat} (F : Fun K "stands_free" "stands_free" s_stands_free f fd) (T : Txt w K mg tk cl) : FnOk P w K mg base CX0 (k + 1) f fd ["node", "depth"] spFree1 := by
  refine F.ok sc_stands_free (fun vs H Q E h => ?_) (fun cdv A outer s H vs Q E hr h => ?_)
  · obtain ⟨v, d, rfl, _⟩ := h
    rfl
  · obtain ⟨v, d, rfl, hv, q⟩ := h
    refine ⟨_, (pss_one (ps_ret (pe_and (pe_callB call_isi (by rfl) T.n_isinstance (by decide +kernel) (pa_cons (pv 0) (pa_cons (pe_bltn (v := .ty "int") (by rfl) T.n_int (by decide +kernel) rfl) pa_nil))) (pe_one (pe_cmpR op_ge (pv 0) (pv 1) (nomark _)))))), ?_⟩
    refine sl_of (σ2 := [some _, some _]) rfl ?_
    walk_at "st"
    rcases hv with ⟨i, rfl⟩ | ⟨z, rfl⟩
    · walk_at "go"
      exact q
    · walk_at "go"
      exact q
def spLifted (K : PySem.W.Frag) : Sp := fun vs H Q _ => ∃ (a : Addr) (t : Tm) (c : Nat), vs = [.ref a, .int (c : Int)] ∧ SqT K H a t.enc ∧ t.enc.length ≤ 2000000 ∧
  ∀ H' p, Ex H H' → H p = none → H' p = some (.lst (t.vmap (lif c) 0).enc) → Q (.ref p) H'
theorem ok_lifted {f : Addr} {fd : FuncData} (F : Fun K "lifted_nodes" "lifted_nodes" s_lifted_nodes f fd) (T : Txt w K mg tk cl)
    (D1 : Def P w K mg base CX0 1 "depths" ["term"] (spDepths K)) (D2 : Def P w K mg base CX0 1 "stands_free" ["node", "depth"] spFree1) : FnOk P w K mg base CX0 2 f fd ["term", "count"] (spLifted K) := by
  obtain ⟨f1, fd1, g_depths, kp_depths, b_depths, G_depths⟩ := D1
  obtain ⟨f2, fd2, g_stands_free, kp_stands_free, b_stands_free, G_stands_free⟩ := D2
  refine F.ok sc_lifted_nodes (fun vs H Q E h => ?_) (fun cdv A outer s H vs Q E hr h => ?_)
  · obtain ⟨a, t, c, rfl, _⟩ := h
    rfl
  · obtain ⟨a, t, c, rfl, hS, hlen, q⟩ := h
    refine ⟨_, (pss_cons (ps_set (i := 2) sc_lifted_nodes.nd rfl (.inl rfl) (pe_lst pa_nil)) (pss_cons (ps_for PassesOwn.never rfl (pi_zipM (by rfl) T.n_zip (pa_cons (pv 0) (pa_cons (pe_call G_depths (hr.mono (by first | decide | omega)) (by rfl) g_depths kp_depths b_depths .nil pass0 (pa_cons (pv 0) pa_nil)) pa_nil))) (pg_tup (by rfl) (pgs_cons (pg_name (i := 3) sc_lifted_nodes.nd rfl (.inl rfl)) (pgs_cons (pg_name (i := 4) sc_lifted_nodes.nd rfl (.inl rfl)) pgs_nil))) (pss_one (ps_if (pt_val (pe_call G_stands_free (hr.mono (by first | decide | omega)) (by rfl) g_stands_free kp_stands_free b_stands_free .nil pass0 (pa_cons (pv 3) (pa_cons (pv 4) pa_nil)))) (pss_one (ps_expr (pe_bm PySem.F.plainAttrs_list PySem.F.slot_list_append PySem.F.type_list_append mt_append (pv 2) (pa_cons (pe_op op_add (pv 3) (pv 1)) pa_nil)))) (pss_one (ps_expr (pe_bm PySem.F.plainAttrs_list PySem.F.slot_list_append PySem.F.type_list_append mt_append (pv 2) (pa_cons (pv 3) pa_nil))))))) (pss_one (ps_ret (pv 2))))), ?_⟩
    refine sl_of (σ2 := [some _, some _, none, none, none]) rfl ?_
    walk_at "st"
    walk_at "go"
    intro nl hnl
    walk_at "go"
    refine ⟨a, t, rfl, by walk_at "hp", by omega, fun H1 dl e1 hdl hdn => ?_⟩
    walk_at "go"
    have hdn0 : dl ≠ nl := (ne_of_none upd_same hdl).symm
    have hn1 : H1 nl = some (.lst []) := by walk_at "hp"
    have eH1 : Ex H H1 := by walk_at "ex"
    refine for_zipC (xs := t.enc) (ys := nums (t.deps 0)) (n := t.enc.length) (by simp [Tm.deps_len]) (fun i σ H' => ∃ y1 y2, σ = [some (.ref a), some (.int (c : Int)), some (.ref nl), y1, y2] ∧ Ex H H' ∧ H' dl = some (.lst (nums (t.deps 0))) ∧
        H' nl = some (.lst ((List.zipWith (vm (lif c)) t.enc (t.deps 0)).take i)))
      ⟨none, none, rfl, eH1, hdn, hn1⟩ (fun i σ H' ⟨y1, y2, _, e, hd, _⟩ => ⟨ex_t e hS, SqL.of hd⟩) ?_ ?_
    · rintro i x y T1 σ H2 hx hy ⟨y1, y2, rfl, e2, hd2, hs2⟩ hT1
      obtain ⟨d, hd, rfl⟩ := nums_at hy
      have hil : i < t.enc.length := (List.getElem?_eq_some_iff.mp hx).1
      have hT1s : T1 ≠ nl := (ne_of_none hs2 hT1).symm
      have hT1d : T1 ≠ dl := (ne_of_none hd2 hT1).symm
      have tk1 := zip_take (f := vm (lif c)) hx hd
      have ll : ((List.zipWith (vm (lif c)) t.enc (t.deps 0)).take i).length < 3000000 := by
        rw [List.length_take]
        omega
      have xn := Tm.int_nat (List.mem_of_getElem? hx)
      walk_at "go"
      refine ⟨x, d, rfl, (by rcases xn with ⟨m, e⟩ | e | e; exact .inl ⟨_, e⟩; exact .inr ⟨_, e⟩; exact .inr ⟨_, e⟩), ?_⟩
      cases hf : freeV x d with
      | false =>
        walk_at "go"
        refine ⟨_, _, rfl, by walk_at "ex", by walk_at "hp", ?_⟩
        have ev : vm (lif c) x d = x := by
          rcases xn with ⟨m, rfl⟩ | rfl | rfl
          · have hf : ¬ (d : Int) ≤ m := by simpa [freeV] using hf
            simp only [vm, lif, Int.toNat_natCast]
            rw [if_neg (by omega)]
          · rfl
          · rfl
        rw [upd_same, tk1, ev]
      | true =>
        obtain ⟨m, rfl⟩ : ∃ m : Nat, x = .int m := by
          rcases xn with h | rfl | rfl
          · exact h
          · cases hf
          · cases hf
        have hle : (d : Int) ≤ m := by simpa [freeV] using hf
        walk_at "go"
        refine ⟨_, _, rfl, by walk_at "ex", by walk_at "hp", ?_⟩
        have ev : vm (lif c) (.int m) d = .int ((m : Int) + c) := by
          simp only [vm, lif, Int.toNat_natCast]
          rw [if_pos (by omega), Int.natCast_add]
        rw [upd_same, tk1, ev]
    · rintro σ H2 ⟨y1, y2, rfl, e2, hd2, hs2⟩
      walk_at "go"
      have all : (List.zipWith (vm (lif c)) t.enc (t.deps 0)).take t.enc.length = (t.vmap (lif c) 0).enc := by
        rw [Tm.enc_vmap]
        exact List.take_of_length_le (by simp [Tm.deps_len])
      rw [all] at hs2
      exact q _ nl e2 hnl hs2
def spPut (K : PySem.W.Frag) (C : Addr) : Sp := fun vs H Q E => ∃ (a b : Addr) (t u : Tm), vs = [.ref a, .ref b] ∧ SqT K H a t.enc ∧ SqT K H b u.enc ∧ t.enc.length ≤ 20000 ∧ u.enc.length ≤ 20000 ∧
  (fitsV (Tm.put u 0 t).enc = true → ∀ p H', Ex H H' → SqT K H' p (Tm.put u 0 t).enc → Q (.ref p) H') ∧ (fitsV (Tm.put u 0 t).enc = false → ∀ H', Ex H H' → E (.ref C) none H')
theorem ok_put {f : Addr} {fd : FuncData} (F : Fun K "put" "put" s_put f fd) (T : Txt w K mg tk cl)
    (D1 : Def P w K mg base CX0 1 "depths" ["term"] (spDepths K)) (D2 : Def P w K mg base CX0 1 "stands_free" ["node", "depth"] spFree1)
    (D3 : Def P w K mg base CX0 2 "lifted_nodes" ["term", "count"] (spLifted K)) (D4 : Def P w K mg base (L2.CX P w) 1 "check_size" ["size"] (spSize (cl 1)))
    (D5 : Def P w K mg base (L2.CX P w) 2 "checked" ["term"] (spChecked K (cl 1))) : FnOk P w K mg base (L2.CX P w) 3 f fd ["term", "value"] (spPut K (cl 1)) := by
  obtain ⟨f1, fd1, g_depths, kp_depths, b_depths, G_depths⟩ := D1
  obtain ⟨f2, fd2, g_stands_free, kp_stands_free, b_stands_free, G_stands_free⟩ := D2
  obtain ⟨f3, fd3, g_lifted_nodes, kp_lifted_nodes, b_lifted_nodes, G_lifted_nodes⟩ := D3
  obtain ⟨f4, fd4, g_check_size, kp_check_size, b_check_size, G_check_size⟩ := D4
  obtain ⟨f5, fd5, g_checked, kp_checked, b_checked, G_checked⟩ := D5
  refine F.okX sc_put (fun vs H Q E h => ?_) (fun cdv A outer s H vs Q E hr h => ?_)
  · obtain ⟨a, b, t, u, rfl, _⟩ := h
    rfl
  · obtain ⟨a, b, t, u, rfl, hS, hU, hlen, hul, q, x⟩ := h
    refine ⟨_, (pss_cons (ps_set (i := 2) sc_put.nd rfl (.inl rfl) (pe_lst pa_nil)) (pss_cons (ps_for (passes_of rfl) rfl (pi_zipM (by rfl) T.n_zip (pa_cons (pv 0) (pa_cons (pe_call G_depths (hr.mono (by first | decide | omega)) (by rfl) g_depths kp_depths b_depths .nil pass0 (pa_cons (pv 0) pa_nil)) pa_nil))) (pg_tup (by rfl) (pgs_cons (pg_name (i := 3) sc_put.nd rfl (.inl rfl)) (pgs_cons (pg_name (i := 4) sc_put.nd rfl (.inl rfl)) pgs_nil))) (pss_one (ps_if (pt_not (pt_val (pe_call G_stands_free (hr.mono (by first | decide | omega)) (by rfl) g_stands_free kp_stands_free b_stands_free .nil pass0 (pa_cons (pv 3) (pa_cons (pv 4) pa_nil))))) (pss_one (ps_expr (pe_bm PySem.F.plainAttrs_list PySem.F.slot_list_append PySem.F.type_list_append mt_append (pv 2) (pa_cons (pv 3) pa_nil)))) (pss_one (ps_if (pt_cmpR op_gt (pv 3) (pv 4) (nomark _)) (pss_one (ps_expr (pe_bm PySem.F.plainAttrs_list PySem.F.slot_list_append PySem.F.type_list_append mt_append (pv 2) (pa_cons (pe_op op_sub (pv 3) pe_int) pa_nil)))) (pss_cons (ps_expr (pe_bm PySem.F.plainAttrs_list PySem.F.slot_list_extend PySem.F.type_list_extend mt_extend (pv 2) (pa_cons (pe_call G_lifted_nodes (hr.mono (by first | decide | omega)) (by rfl) g_lifted_nodes kp_lifted_nodes b_lifted_nodes .nil pass0 (pa_cons (pv 1) (pa_cons (pv 4) pa_nil))) pa_nil))) (pss_one (ps_expr (pe_call G_check_size (hr.mono (by first | decide | omega)) (by rfl) g_check_size kp_check_size b_check_size .nil (passes_call (takes_of rfl rfl rfl rfl) (fun _ _ _ _ h => h)) (pa_cons (pe_callB call_len_seq (by rfl) T.n_len (by decide +kernel) (pa_cons (pv 2) pa_nil)) pa_nil)))))))))) (pss_one (ps_ret (pe_call G_checked (hr.mono (by first | decide | omega)) (by rfl) g_checked kp_checked b_checked .nil (passes_call (takes_of rfl rfl rfl rfl) (fun _ _ _ _ h => h)) (pa_cons (pe_callTy call_tuple_of (by rfl) T.n_tuple (by decide +kernel) (pa_cons (pv 2) pa_nil)) pa_nil)))))), ?_⟩
    refine sl_of (σ2 := [some _, some _, none, none, none]) rfl ?_
    walk_at "st"
    walk_at "go"
    intro nl hnl
    walk_at "go"
    refine ⟨a, t, rfl, by walk_at "hp", by omega, fun H1 dl e1 hdl hdn => ?_⟩
    walk_at "go"
    have hdn0 : dl ≠ nl := (ne_of_none upd_same hdl).symm
    have hn1 : H1 nl = some (.lst []) := by walk_at "hp"
    have eH1 : Ex H H1 := by walk_at "ex"
    have full := Tm.enc_put u t 0
    refine for_zipC (xs := t.enc) (ys := nums (t.deps 0)) (n := t.enc.length) (by simp [Tm.deps_len]) (fun i σ H' => ∃ y1 y2, σ = [some (.ref a), some (.ref b), some (.ref nl), y1, y2] ∧ Ex H H' ∧ H' dl = some (.lst (nums (t.deps 0))) ∧
        H' nl = some (.lst ((List.zipWith (pvs u) t.enc (t.deps 0)).take i).flatten) ∧ ((List.zipWith (pvs u) t.enc (t.deps 0)).take i).flatten.length ≤ 1000 + i)
      ⟨none, none, rfl, eH1, hdn, hn1, by simp⟩ (fun i σ H' ⟨y1, y2, _, e, hd, _⟩ => ⟨ex_t e hS, SqL.of hd⟩) ?_ ?_
    · rintro i x1 y T1 σ H2 hx hy ⟨y1, y2, rfl, e2, hd2, hs2, hl2⟩ hT1
      obtain ⟨d, hd, rfl⟩ := nums_at hy
      have hil : i < t.enc.length := (List.getElem?_eq_some_iff.mp hx).1
      have hT1s : T1 ≠ nl := (ne_of_none hs2 hT1).symm
      have hT1d : T1 ≠ dl := (ne_of_none hd2 hT1).symm
      have tk1 := zip_take (f := pvs u) hx hd
      have tk2 : ((List.zipWith (pvs u) t.enc (t.deps 0)).take (i + 1)).flatten = ((List.zipWith (pvs u) t.enc (t.deps 0)).take i).flatten ++ pvs u x1 d := by
        rw [tk1, List.flatten_append]
        simp
      have over := flat_take_le (List.zipWith (pvs u) t.enc (t.deps 0)) (i + 1)
      rw [← full] at over
      generalize ((List.zipWith (pvs u) t.enc (t.deps 0)).take i).flatten = done at *
      rw [tk2] at over
      have hU2 : SqT K H2 b u.enc := ex_t e2 hU
      have xn := Tm.int_nat (List.mem_of_getElem? hx)
      walk_at "go"
      refine ⟨x1, d, rfl, (by rcases xn with ⟨m, e⟩ | e | e; exact .inl ⟨_, e⟩; exact .inr ⟨_, e⟩; exact .inr ⟨_, e⟩), ?_⟩
      cases hf : freeV x1 d with
      | false =>
        walk_at "go"
        have ev : pvs u x1 d = [x1] := by
          rcases xn with ⟨m, rfl⟩ | rfl | rfl
          · have hf : ¬ (d : Int) ≤ m := by simpa [freeV] using hf
            exact pvs_low (by omega)
          · rfl
          · rfl
        rw [ev] at tk2
        refine ⟨_, _, rfl, by walk_at "ex", by walk_at "hp", ?_, by rw [tk2]; simp; omega⟩
        rw [upd_same, tk2]
      | true =>
        obtain ⟨m, rfl⟩ : ∃ m : Nat, x1 = .int m := by
          rcases xn with h | rfl | rfl
          · exact h
          · cases hf
          · cases hf
        have hle : (d : Int) ≤ m := by simpa [freeV] using hf
        walk_at "go"
        refine w_br (fun h3 => ?_) (fun h3 => ?_)
        · walk_at "go"
          rw [pvs_high (by omega)] at tk2
          refine ⟨_, _, rfl, by walk_at "ex", by walk_at "hp", ?_, by rw [tk2]; simp; omega⟩
          rw [upd_same, tk2]
        · have e0 : m = d := by omega
          subst e0
          rw [pvs_at] at tk2 over
          have hT1b : SqT K (upd H2 T1 (.tup [V.int (m : Int), V.int (m : Int)])) b u.enc := ex_t (Ex.new hT1) hU2
          walk_at "go"
          refine ⟨b, u, m, rfl, hT1b, by omega, fun H3 ll e3 hll hl3 => ?_⟩
          have hlne : ll ≠ nl := by
            have g1 : upd H2 T1 (.tup [V.int (m : Int), V.int (m : Int)]) nl = some (.lst done) := (upd_ne hT1s.symm).trans hs2
            exact (ne_of_none g1 hll).symm
          have hs3 : H3 nl = some (.lst done) := e3 _ _ ((upd_ne hT1s.symm).trans hs2)
          have hd3 : H3 dl = some (.lst (nums (t.deps 0))) := e3 _ _ ((upd_ne hT1d.symm).trans hd2)
          have ee : Ex H H3 := (e2.trans (Ex.new hT1)).trans e3
          have vl := Tm.vmap_len (lif m) u 0
          walk_at "go"
          · exact ly_sz (by omega)
          walk_at "go"
          refine ⟨_, rfl, fun hle2 => ?_, fun hgt => x ?_ _ (by walk_at "ex")⟩
          · walk_at "go"
            refine ⟨_, _, rfl, by walk_at "ex", by walk_at "hp", ?_, by rw [tk2]; omega⟩
            rw [upd_same, tk2]
          · have : ¬ (Tm.put u 0 t).enc.length ≤ 1000 := by omega
            simp [fitsV, this]
    · rintro σ H2 ⟨y1, y2, rfl, e2, hd2, hs2, hl2⟩
      have all : ((List.zipWith (pvs u) t.enc (t.deps 0)).take t.enc.length).flatten = (Tm.put u 0 t).enc := by
        rw [full, List.take_of_length_le (by simp [Tm.deps_len])]
      rw [all] at hs2
      walk_at "go"
      intro p hp
      walk_at "go"
      exact ⟨p, _, rfl, by walk_at "hp", Tm.flat _, fun h => q h p _ (by walk_at "ex") (by walk_at "hp"), fun h => x h _ (by walk_at "ex")⟩
end
end Ly
set_option Elab.async false
set_option linter.all false
set_option maxRecDepth 100000
set_option maxHeartbeats 8000000
namespace Ly
open PySem PySem.Spec PyProof.Rows L2 Evl
local macro_rules | `(tactic| walk_at "ne") => `(tactic| first
  | assumption
  | ((refine' Ne.symm ?hq); (case hq => assumption))
  | ((refine' ne_of_none ?nh1 ?nh2); (case nh2 => assumption); (case nh1 => walk_at "hp"))
  | ((refine' Ne.symm (ne_of_none ?nh1 ?nh2)); (case nh2 => assumption); (case nh1 => walk_at "hp")))
local macro_rules | `(tactic| walk_at "hp") => `(tactic| first
  | assumption
  | exact upd_same
  | ((refine' SqL.of ?hq); (case hq => walk_at "hp"))
  | ((refine' SqT.of ?hq); (case hq => walk_at "hp"))
  | ((refine' (upd_ne ?hne).trans ?hrest); (case hne => walk_at "ne"); (case hrest => walk_at "hp"))
  | ((refine' ly_at ?hex ?hh); (case hex => assumption); (case hh => walk_at "hp"))
  | ((refine' ly_atF ?hex ?hnn ?hh); (case hex => assumption); (case hh => walk_at "hp"); (case hnn => walk_at "ne"))
  | ((refine' ex_t ?hex ?hh); (case hh => assumption); (case hex => walk_at "ex"))
  | ((refine' ex_l ?hex ?hh); (case hh => assumption); (case hex => walk_at "ex")))
local macro_rules | `(tactic| walk_at "ex") => `(tactic| first
  | assumption
  | exact Ex.refl _
  | ((refine' ex_new ?xa ?xb); (case xb => assumption); (case xa => walk_at "ex"))
  | ((refine' ex_upd ?xa ?xb); (case xb => walk_at "free"); (case xa => walk_at "ex"))
  | ((refine' Ex.trans ?xa ?xb); (case xb => assumption); (case xa => walk_at "ex")))
local macro_rules | `(tactic| walk_at "free") => `(tactic| first
  | assumption
  | ((refine' fresh_back ?xa ?xb); (case xb => assumption); (case xa => walk_at "ex")))
local macro_rules | `(tactic| walk_at "fr") => `(tactic| first
  | assumption
  | exact Fr.refl _ _
  | ((refine' Fr.own ?hq); (case hq => walk_at "fr"))
  | ((refine' Fr.new ?xa ?xb); (case xb => assumption); (case xa => walk_at "fr"))
  | ((refine' Fr.mut ?xa ?xb); (case xb => assumption); (case xa => walk_at "fr"))
  | ((refine' Fr.trans ?xa ?xb); (case xb => assumption); (case xa => walk_at "fr"))
  | ((refine' Fr.trans ?xa (Fr.ex ?xb)); (case xb => assumption); (case xa => walk_at "fr")))
local macro_rules | `(tactic| walk_at "go1") => `(tactic| first
  | (with_reducible refine' w_seq ?_)
  | (with_reducible refine' w_asg ?_)
  | (with_reducible refine' w_ret ?_)
  | (with_reducible refine' w_drop ?_)
  | (with_reducible refine' w_if ?_)
  | (with_reducible refine' w_next ?_)
  | (with_reducible refine' w_name ?_)
  | (with_reducible refine' w_sub ?_)
  | ((with_reducible refine' w_var ?hv ?_); (case hv => exact rfl))
  | (with_reducible refine' w_c ?_)
  | (with_reducible refine' w_op ?_)
  | (with_reducible refine' w_un ?_)
  | (with_reducible refine' w_ch ?_)
  | (with_reducible refine' w_I0 ?_)
  | ((with_reducible refine' w_I ?hc ?_); (case hc => first | (exact ly_mulL (by decide) (by decide)) | (exact ly_mulR (by decide) (by decide)) | (exact ly_mulL (by omega) (by omega)) | (show (_ : Int) ≠ 0; decide) | (show (_ : Int) ≠ 0; omega) | (exact ⟨by decide, by decide⟩) | (exact ⟨by omega, by omega⟩)))
  | (with_reducible refine' w_U ?_)
  | ((with_reducible refine' w_eq ?hs ?_); (case hs => exact rfl))
  | ((with_reducible refine' w_ne ?hs ?_); (case hs => exact rfl))
  | (with_reducible refine' w_isB ?_)
  | (with_reducible refine' w_notB ?_)
  | (with_reducible refine' w_nil ?_)
  | (with_reducible refine' w_cons ?_)
  | (with_reducible refine' w_tup ?_)
  | (with_reducible refine' w_lst ?_)
  | (with_reducible refine' w_cb ?_)
  | (with_reducible refine' w_call ?_)
  | (with_reducible refine' w_bm ?_)
  | (with_reducible refine' w_bm0 ?_)
  | ((with_reducible refine' w_app ?hh ?hz ?_); (case hh => walk_at "hp"); (case hz => first | exact ly_lt (by omega) | exact ly_lt (by simp only [List.length_append, List.length_map, List.length_cons, List.length_nil]; omega)))
  | ((with_reducible refine' w_popA ?hh ?_); (case hh => walk_at "hp"))
  | ((with_reducible refine' w_ext ?hh ?hh2 ?hz ?_); (case hh => walk_at "hp"); (case hh2 => walk_at "hp"))
  | ((with_reducible refine' w_ixL ?hh ?ha ?_); (case hh => walk_at "hp"); (case ha => first | exact rfl | exact at_map (by omega) | exact atI_last _ _ | ((refine' at_of ?ae ?ah); (case ah => assumption); (case ae => omega))))
  | ((with_reducible refine' w_ixT ?hh ?ha ?_); (case hh => walk_at "hp"); (case ha => first | exact rfl | exact at_map (by omega) | exact atI_last _ _ | ((refine' at_of ?ae ?ah); (case ah => assumption); (case ae => omega))))
  | ((with_reducible refine' w_cat ?hh ?hh2 ?hz ?_); (case hh => walk_at "hp"); (case hh2 => walk_at "hp"))
  | ((with_reducible refine' w_setL ?hh ?ha ?_); (case hh => walk_at "hp"); (case ha => exact rfl))
  | (with_reducible refine' w_test ?_)
  | (with_reducible refine' w_tB ?_)
  | (with_reducible refine' w_bl ?_)
  | (with_reducible refine' w_and ?_)
  | (with_reducible refine' w_or ?_)
  | (with_reducible refine' w_not ?_)
  | (with_reducible refine' w_andV ?_)
  | (with_reducible refine' w_orV ?_)
  | (with_reducible refine' w_notV ?_)
  | (with_reducible refine' w_ifE ?_)
  | (with_reducible refine' w_for ?_)
  | ((with_reducible refine' w_nin ?hh ?_); (case hh => walk_at "hp"))
  | ((with_reducible refine' w_sorted ?hh ?_); (case hh => walk_at "hp"))
  | (with_reducible refine' w_tsadd ?_)
  | ((with_reducible refine' w_tsadd1 ?hh ?_); (case hh => walk_at "hp"))
  | ((with_reducible refine' w_sadd ?hh ?hr ?_); (case hh => walk_at "hp"); (case hr => omega))
  | (with_reducible refine' w_iZ ?_)
  | ((with_reducible refine' w_iZ1 ?hh ?hh2 ?_); (case hh => walk_at "hp"); (case hh2 => walk_at "hp"))
  | (with_reducible refine' w_iS ?_)
  | (with_reducible refine' w_iS1 ?_)
  | ((with_reducible refine' w_gtup ?hh ?hn ?_); (case hh => walk_at "hp"); (case hn => exact rfl))
  | (with_reducible refine' w_gcons ?_)
  | (with_reducible refine' w_gnil ?_)
  | (with_reducible refine' w_js ?_)
  | (with_reducible refine' w_jsn ?_)
  | ((with_reducible refine' w_js1 ?hl ?_); (case hl => decide +kernel))
  | (with_reducible refine' w_fmt ?_)
  | ((with_reducible refine' w_fmt1 ?hl ?_); (case hl => decide +kernel))
  | (with_reducible refine' w_callS ?_)
  | ((with_reducible refine' w_truL ?hh ?_); (case hh => walk_at "hp"))
  | (with_reducible refine' w_lc ?_)
  | (with_reducible refine' w_yes ?_)
  | ((with_reducible refine' w_wipe ?he ?_); (case he => exact rfl))
  | (with_reducible refine' w_iL ?_)
  | (with_reducible refine' w_iT ?_)
  | (with_reducible refine' w_iR ?_)
  | ((with_reducible refine' w_iL1 ?hh ?_); (case hh => walk_at "hp"))
  | ((with_reducible refine' w_iT1 ?hh ?_); (case hh => walk_at "hp"))
  | ((with_reducible refine' w_iR1 ?h1 ?h2 ?_); (case h1 => omega); (case h2 => omega))
  | ((with_reducible refine' w_aug ?hv ?_); (case hv => exact rfl))
  | (with_reducible refine' w_ipI ?_)
  | ((with_reducible refine' w_isi ?hy ?hk ?_); (case hy => walk_at "ty"); (case hk => walk_at "kit"))
  | ((with_reducible refine' w_int ?_))
  | ((with_reducible refine' w_intB ?_))
  | ((with_reducible refine' w_abs ?_))
  | ((with_reducible refine' w_lenL ?hh ?_); (case hh => walk_at "hp"))
  | ((with_reducible refine' w_lenT ?hh ?_); (case hh => walk_at "hp"))
  | ((with_reducible refine' w_tupL ?hh ?_); (case hh => walk_at "hp"))
  | ((with_reducible refine' w_tupT ?hh ?_); (case hh => walk_at "hp"))
  | ((with_reducible refine' w_catA ?hh ?hh2 ?hz ?_); (case hh => walk_at "hp"); (case hh2 => walk_at "hp"); (case hz => walk_at "len"))
  | ((with_reducible refine' w_repB ?hh ?hne ?h2 ?h3 ?hz ?_); (case hh => walk_at "hp"); (case hne => simp); (case h2 => omega); (case h3 => omega); (case hz => exact Nat.le_of_ble_eq_true rfl))
  | ((with_reducible refine' w_eqN ?hh ?hh2 ?n1 ?n2 ?_); (case hh => walk_at "hp"); (case hh2 => walk_at "hp"); (case n1 => walk_at "nd"); (case n2 => walk_at "nd"))
  | ((with_reducible refine' w_neN ?hh ?hh2 ?n1 ?n2 ?_); (case hh => walk_at "hp"); (case hh2 => walk_at "hp"); (case n1 => walk_at "nd"); (case n2 => walk_at "nd"))
  | ((with_reducible refine' w_eqL ?hh ?hh2 ?n1 ?n2 ?_); (case hh => walk_at "hp"); (case hh2 => walk_at "hp"); (case n1 => walk_at "nd"); (case n2 => walk_at "nd"))
  | ((with_reducible refine' w_neL ?hh ?hh2 ?n1 ?n2 ?_); (case hh => walk_at "hp"); (case hh2 => walk_at "hp"); (case n1 => walk_at "nd"); (case n2 => walk_at "nd"))
  | ((with_reducible refine' w_neNon ?hh2 ?n2 ?_); (case hh2 => walk_at "hp"); (case n2 => walk_at "nd"))
  | ((with_reducible refine' w_eqNon ?hh2 ?n2 ?_); (case hh2 => walk_at "hp"); (case n2 => walk_at "nd"))
  | ((with_reducible refine' w_slA ?hh ?_); (case hh => walk_at "hp"))
  | ((with_reducible refine' w_disp ?hz ?_); (case hz => exact sz_of (Nat.le_of_ble_eq_true rfl)))
  | ((with_reducible refine' w_tyL ?hh ?_); (case hh => walk_at "hp"))
  | (with_reducible refine' iteT ?_)
  | (with_reducible refine' iteF ?_)
  | (with_reducible refine' w_nT ?_)
  | (with_reducible refine' w_nn ?_)
  | (with_reducible refine' w_nnT ?_)
  | (with_reducible refine' w_nnR ?_)
  | (with_reducible refine' w_neG ?_)
  | (with_reducible refine' w_eqG ?_)
  | (with_reducible refine' w_neS ?_)
  | (with_reducible refine' w_eqS ?_)
  | (with_reducible refine' w_neSb ?_)
  | (with_reducible refine' w_eqSb ?_)
  | (with_reducible refine' w_deIS ?_)
  | (with_reducible refine' w_deSI ?_)
  | (with_reducible refine' w_deISn ?_)
  | ((with_reducible refine' w_deST ?he ?_); (case he => decide +kernel))
  | ((with_reducible refine' w_deSF ?he ?_); (case he => decide +kernel))
  | ((with_reducible refine' w_deSTn ?he ?_); (case he => decide +kernel))
  | ((with_reducible refine' w_deSFn ?he ?_); (case he => decide +kernel))
  | (with_reducible refine' w_nF ?_)
  | dsimp only [Bool.not_true, Bool.not_false])
local macro_rules | `(tactic| walk_at "ty") => `(tactic| first
  | exact .base (.int _) | exact .base (.str _) | exact .base (.bl _) | exact .base .non
  | ((refine' tyx_t ?hq); (case hq => walk_at "hp")) | ((refine' tyx_l ?hq); (case hq => walk_at "hp")) | ((refine' .base (.tup ?hq)); (case hq => walk_at "hp")) | assumption)
local macro_rules | `(tactic| walk_at "go") => `(tactic| repeat walk_at "go1")
local macro_rules | `(tactic| walk_at "st") => `(tactic| try dsimp only [cxOf, Cx.nox, Cx.wish])
local macro_rules | `(tactic| walk_at "kit") => `(tactic| with_reducible first | exact kit_int_int | exact kit_int_str | exact kit_int_bool | exact kit_int_tuple | exact kit_int_list | exact kit_str_int | exact kit_str_str | exact kit_str_bool | exact kit_str_tuple | exact kit_str_list | exact kit_bool_int | exact kit_bool_str | exact kit_bool_bool | exact kit_bool_tuple | exact kit_bool_list | exact kit_NoneType_int | exact kit_NoneType_str | exact kit_NoneType_bool | exact kit_NoneType_tuple | exact kit_NoneType_list | exact kit_list_int | exact kit_list_str | exact kit_list_bool | exact kit_list_tuple | exact kit_list_list | exact kit_tuple_int | exact kit_tuple_str | exact kit_tuple_bool | exact kit_tuple_tuple | exact kit_tuple_list)
local macro_rules | `(tactic| walk_at "nd") => `(tactic| first
  | assumption
  | exact Tm.nds _
  | exact Nds.nil
  | exact Nds.ofInts _
  | ((refine' Nds.cons ?na ?nb); (case na => first | exact Nds.I _ | exact Nds.L | exact Nds.A); (case nb => walk_at "nd"))
  | ((refine' Nds.app ?na ?nb); (case na => walk_at "nd"); (case nb => walk_at "nd"))
  | ((refine' Nds.rep ?na _); (case na => walk_at "nd")))
local macro_rules | `(tactic| walk_at "len") => `(tactic| first
  | exact ly_sz (by omega)
  | ((simp only [List.length_append, List.length_cons, List.length_nil, List.length_map, PyProof.Rows.lm_len_rep_flat]); exact ly_sz (by omega)))
local macro_rules | `(tactic| walk_at "go1") => `(tactic| first
  | (with_reducible refine' w_kget2 ?_)
  | (with_reducible refine' w_isRN ?_)
  | (with_reducible refine' w_isNN ?_)
  | (with_reducible refine' w_isIN ?_)
  | ((with_reducible refine' w_kg ?hd ?_); (case hd => assumption)))
local macro_rules | `(tactic| walk_at "go1") => `(tactic| first
  | ((with_reducible refine' w_extT ?hh ?hh2 ?hz ?_); (case hh => walk_at "hp"); (case hh2 => walk_at "hp"))
  | ((with_reducible refine' w_I ?hc ?_); (case hc => exact ⟨by decide, by decide, by decide⟩))
  | (with_reducible refine' w_sl ?_)
  | (with_reducible refine' w_noP ?_)
  | (with_reducible refine' w_part ?_)
  | (with_reducible refine' w_part1 ?_)
  | (with_reducible refine' w_it ?_)
  | (with_reducible refine' w_it1 ?_)
  | ((with_reducible refine' w_lenZ ?hz ?_); (case hz => omega))
  | ((with_reducible refine' w_addZb ?hz ?_); (case hz => omega))
  | ((with_reducible refine' w_addZf ?hz ?_); (case hz => omega))
  | ((with_reducible refine' w_addZa ?hz ?_); (case hz => omega))
  | ((with_reducible refine' w_inS ?hh ?_); (case hh => walk_at "hp"))
  | ((with_reducible refine' w_ixT ?hh ?ha ?_); (case hh => assumption); (case ha => exact atI_nat (by assumption))))

section
variable {P : Program} {w : World} {K : PySem.W.Frag} {mg : Str → Option Value} {base : Heap} {tk : Nat → Tok} {cl : Nat → Addr}
def spCountN : Sp := fun vs H Q _ => ∃ v, vs = [v] ∧ (((∃ n : Nat, v = .int n) ∧ Q (.int 0) H) ∨ (v = .str "lam" ∧ Q (.int 1) H) ∨ (v = .str "app" ∧ Q (.int 2) H))
theorem ok_part_count {f : Addr} {fd : FuncData} {k : Nat} (F : Fun K "part_count" "part_count" s_part_count f fd) (T : Txt w K mg tk cl) : FnOk P w K mg base CX0 (k + 1) f fd ["node"] spCountN := by
  refine F.ok sc_part_count (fun vs H Q E h => ?_) (fun cdv A outer s H vs Q E hr h => ?_)
  · obtain ⟨v, rfl, _⟩ := h
    rfl
  · obtain ⟨v, rfl, h⟩ := h
    refine ⟨_, (pss_one (ps_ret (pe_kget2 (pe_glob (v := .ref (cl 40)) (by rfl) T.g_PART_COUNTS (by rfl)) (pv 0) pe_int ⟨by rfl, by rfl, by rfl, by rfl⟩))), ?_⟩
    refine sl_of (σ2 := [some _]) rfl ?_
    walk_at "st"
    have hd := T.d_PART_COUNTS
    rcases h with ⟨⟨n, rfl⟩, q⟩ | ⟨rfl, q⟩ | ⟨rfl, q⟩
    · walk_at "go"
      exact ⟨kV_int _, q⟩
    · walk_at "go"
      exact ⟨kV_str _, q_eq q (by decide +kernel)⟩
    · walk_at "go"
      exact ⟨kV_str _, q_eq q (by decide +kernel)⟩
theorem ok_end_of {f : Addr} {fd : FuncData} (F : Fun K "end_of" "end_of" s_end_of f fd) (T : Txt w K mg tk cl)
    (D1 : Def P w K mg base CX0 1 "part_count" ["node"] spCountN) : FnOk P w K mg base CX0 2 f fd ["term", "start"] (spEnd K) := by
  obtain ⟨f1, fd1, g_part_count, kp_part_count, b_part_count, G_part_count⟩ := D1
  refine F.ok sc_end_of (fun vs H Q E h => ?_) (fun cdv A outer s H vs Q E hr h => ?_)
  · obtain ⟨a, xs, s, u, post, rfl, _⟩ := h
    rfl
  · obtain ⟨a, xs, s, u, post, rfl, hS, hu, hlen, q⟩ := h
    refine ⟨_, (pss_cons (ps_set (i := 2) sc_end_of.nd rfl (.inl rfl) pe_int) (pss_cons (ps_set (i := 3) sc_end_of.nd rfl (.inl rfl) (pv 1)) (pss_cons (ps_while PassesOwn.never (pt_cmpR op_gt (pv 2) pe_int (nomark _)) (pss_cons (ps_aug (i := 2) sc_end_of.nd rfl (.inl rfl) (pe_op op_sub (pe_call G_part_count (hr.mono (by first | decide | omega)) (by rfl) g_part_count kp_part_count b_part_count .nil pass0 (pa_cons (pe_ix ix_tup (pv 0) (pv 3) (fun _ _ => rfl)) pa_nil)) pe_int) ip_add) (pss_one (ps_aug (i := 3) sc_end_of.nd rfl (.inl rfl) pe_int ip_add)))) (pss_one (ps_ret (pv 3)))))), ?_⟩
    refine sl_of (σ2 := [some _, some _, none, none]) rfl ?_
    walk_at "st"
    walk_at "go"
    refine w_while (fun m σ H' => H' = H ∧ ∃ (e : Nat) (ts : List Tm), σ = [some (.ref a), some (.int (s : Int)), some (.int (ts.length : Int)), some (.int (e : Int))] ∧ EInv xs (s + u.enc.length) e ts ∧ m = s + u.enc.length - e) _ ⟨rfl, s, [u], rfl, EInv.start hu, rfl⟩ ?_
    rintro m σ H ⟨rfl, e, ts, rfl, inv, rfl⟩
    walk_at "go"
    cases ts with
    | nil =>
      obtain ⟨post2, h1, h2⟩ := inv
      have h2 : e = s + u.enc.length := by simpa [encs] using h2
      walk_at "go"
      refine w_br (fun h => by simp at h) (fun _ => ?_)
      walk_at "go"
      rw [h2]
      exact q
    | cons t ts =>
      obtain ⟨lt, v, ts', hv, inv', hcase⟩ := inv.step
      refine w_br (fun h => ?_) (fun h => absurd h (by simp))
      refine ⟨fun σ' H' => H' = H ∧ ∃ (e' : Nat) (ts2 : List Tm), σ' = [some (.ref a), some (.int (s : Int)), some (.int (ts2.length : Int)), some (.int (e' : Int))] ∧ EInv xs (s + u.enc.length) e' ts2 ∧ e' = e + 1, fun σ' H' ⟨h1, e', ts2, h2, h3, h4⟩ => ⟨_, ?_, h1, e', ts2, h2, h3, rfl⟩, ?_⟩
      · omega
      · walk_at "go"
        refine ⟨v, rfl, ?_⟩
        have stp : ∀ {j : Int}, (t :: ts).length + (j - 1) = (ts'.length : Int) → H = H ∧ ∃ (e' : Nat) (ts2 : List Tm), [some (V.ref a), some (.int (s : Int)), some (.int (((t :: ts).length : Int) + (j - 1))), some (.int ((e : Int) + 1))] = [some (.ref a), some (.int (s : Int)), some (.int (ts2.length : Int)), some (.int (e' : Int))] ∧ EInv xs (s + u.enc.length) e' ts2 ∧ e' = e + 1 := fun hj =>
          ⟨rfl, e + 1, ts', by rw [hj]; rfl, inv', rfl⟩
        rcases hcase with ⟨n, rfl, hl⟩ | ⟨rfl, hl⟩ | ⟨rfl, hl⟩
        · refine .inl ⟨⟨n, rfl⟩, ?_⟩
          walk_at "go"
          exact stp (by simp; omega)
        · refine .inr (.inl ⟨rfl, ?_⟩)
          walk_at "go"
          exact stp (by simp; omega)
        · refine .inr (.inr ⟨rfl, ?_⟩)
          walk_at "go"
          exact stp (by simp; omega)
def spLetters : Sp := fun vs H Q _ => ∃ v, vs = [v] ∧ (((∃ n : Nat, v = .int n) ∧ Q (.str (pl [])) H) ∨ (v = .str "lam" ∧ Q (.str (pl [98])) H) ∨ (v = .str "app" ∧ Q (.str (pl [102, 97])) H))
theorem pl_fa : ("fa" : Str) = pl [102, 97] := by decide +kernel
theorem ok_letters {f : Addr} {fd : FuncData} {k : Nat} (F : Fun K "letters_of" "letters_of" s_letters_of f fd) (T : Txt w K mg tk cl) : FnOk P w K mg base CX0 (k + 1) f fd ["node"] spLetters := by
  refine F.ok sc_letters_of (fun vs H Q E h => ?_) (fun cdv A outer s H vs Q E hr h => ?_)
  · obtain ⟨v, rfl, _⟩ := h
    rfl
  · obtain ⟨v, rfl, h⟩ := h
    refine ⟨_, (pss_cons (ps_if (pt_cmpR op_eq (pv 0) pe_str (nomark _)) (pss_one (ps_ret pe_str)) pss_nil) (pss_cons (ps_if (pt_cmpR op_eq (pv 0) pe_str (nomark _)) (pss_one (ps_ret pe_str)) pss_nil) (pss_one (ps_ret pe_str)))), ?_⟩
    refine sl_of (σ2 := [some _]) rfl ?_
    walk_at "st"
    rcases h with ⟨⟨n, rfl⟩, q⟩ | ⟨rfl, q⟩ | ⟨rfl, q⟩
    · walk_at "go"
      rw [pl_e]
      exact q
    · walk_at "go"
      rw [pl_b]
      exact q
    · walk_at "go"
      rw [pl_fa]
      exact q
theorem for_revP {ls : List Nat} {g : TG} {tb : TS} {D : Ends} {σ : L2.St} {H : Hp} (Pv : Nat → L2.St → Hp → Prop) (h0 : Pv 0 σ H)
    (hs : ∀ i c σ H, ls.reverse[i]? = some c → Pv i σ H → g (.str (pl [c])) σ H fun σ2 H2 => tb { D with nx := Pv (i + 1), ct := Pv (i + 1), bk := D.nx } σ2 H2) (hd : ∀ σ H, Pv ls.length σ H → D.nx σ H) : ForB (ItvS (pl ls)) g tb D σ H := by
  have sz : (pl ls).cps.size = ls.length := by simp [pl]
  refine for_revS Pv h0 (fun i c σ H hc lt p => hs i c σ H ?_ p) (fun σ H p => hd σ H (by rw [sz] at p; exact p))
  rw [sz] at hc lt
  rw [List.getElem?_reverse lt]
  simpa [pl] using hc
theorem w_rv {te : TE} {σ : L2.St} {H : Hp} {R : It → Hp → Prop} (h : te σ H fun v H1 => ∃ z, v = .str z ∧ z.length ≤ sizeLine ∧ R (ItvS z) H1) : iRevS te σ H R := h
theorem w_rv1 {p : List Nat} {B : Str → Prop} (z : p.length ≤ 1000) (q : B (pl p)) : ∃ x, V.str (pl p) = .str x ∧ x.length ≤ sizeLine ∧ B x := ⟨pl p, rfl, by rw [pl_len]; exact ly_sz (by omega), q⟩
local macro_rules | `(tactic| walk_at "go1") => `(tactic| first
  | (with_reducible refine' w_rv ?_)
  | ((with_reducible refine' w_addZ ?hz ?_); (case hz => simp; omega)))
theorem ok_places {f : Addr} {fd : FuncData} (F : Fun K "places" "places" s_places f fd) (T : Txt w K mg tk cl)
    (D1 : Def P w K mg base CX0 1 "letters_of" ["node"] spLetters) : FnOk P w K mg base CX0 2 f fd ["term"] (spLPlaces K) := by
  obtain ⟨f1, fd1, g_letters_of, kp_letters_of, b_letters_of, G_letters_of⟩ := D1
  refine F.ok sc_places (fun vs H Q E h => ?_) (fun cdv A outer s H vs Q E hr h => ?_)
  · obtain ⟨a, t, rfl, _⟩ := h
    rfl
  · obtain ⟨a, t, rfl, hS, hlen, q⟩ := h
    refine ⟨_, (pss_cons (ps_set (i := 1) sc_places.nd rfl (.inl rfl) (pe_lst pa_nil)) (pss_cons (ps_set (i := 2) sc_places.nd rfl (.inl rfl) (pe_lst (pa_cons pe_str pa_nil))) (pss_cons (ps_for PassesOwn.never rfl (pi_tup (pv 0)) (pg_name (i := 3) sc_places.nd rfl (.inl rfl)) (pss_cons (ps_set (i := 4) sc_places.nd rfl (.inl rfl) (pe_bm0 PySem.F.plainAttrs_list PySem.F.slot_list_pop PySem.F.type_list_pop mt_pop (pv 2))) (pss_cons (ps_expr (pe_bm PySem.F.plainAttrs_list PySem.F.slot_list_append PySem.F.type_list_append mt_append (pv 1) (pa_cons (pv 4) pa_nil))) (pss_one (ps_for PassesOwn.never rfl (pi_revS (by rfl) T.n_reversed (pe_call G_letters_of (hr.mono (by first | decide | omega)) (by rfl) g_letters_of kp_letters_of b_letters_of .nil pass0 (pa_cons (pv 3) pa_nil))) (pg_name (i := 5) sc_places.nd rfl (.inl rfl)) (pss_one (ps_expr (pe_bm PySem.F.plainAttrs_list PySem.F.slot_list_append PySem.F.type_list_append mt_append (pv 2) (pa_cons (pe_op op_addZ (pv 4) (pv 5)) pa_nil))))))))) (pss_one (ps_ret (pv 1)))))), ?_⟩
    refine sl_of (σ2 := [some _, none, none, none, none, none]) rfl ?_
    walk_at "st"
    walk_at "go"
    intro fl hfl
    walk_at "go"
    intro wl hwl
    have hwf : wl ≠ fl := (ne_of_none upd_same hwl).symm
    have hwl0 : H wl = none := by
      rw [upd_ne hwf] at hwl
      exact hwl
    rw [pl_e]
    walk_at "go"
    refine for_tup (K := K) (a := a) (xs := t.enc) (fun i σ H' => ∃ found ds y1 y2 y3, σ = [some (.ref a), some (.ref fl), some (.ref wl), y1, y2, y3] ∧ Ex H H' ∧ H' fl = some (.lst (plcs found)) ∧ H' wl = some (.lst (plcs ds)) ∧ PInv t i found ds ∧ found.length = i ∧ ds.length ≤ i + 1 ∧ ∀ d ∈ ds, d.length ≤ i)
      ⟨[], [[]], none, none, none, rfl, by walk_at "ex", by walk_at "hp", upd_same, PInv.start t, rfl, by simp, by simp⟩ (fun i σ H' _ h => by obtain ⟨_, _, _, _, _, _, e, _⟩ := h; exact ex_t e hS) ?_ ?_
    · rintro i v σ H1 hi ⟨found, ds, y1, y2, y3, rfl, e1, hf1, hw1, hinv, hfl1, hds1, hdl1⟩
      have hlt : i < t.enc.length := (List.getElem?_eq_some_iff.mp hi).1
      obtain ⟨r, d, rfl, hstep⟩ := hinv.step hi
      have hw1b : H1 wl = some (.lst (plcs r ++ [V.str (pl d)])) := by rw [hw1]; simp [plcs]
      have el : (plcs found).length = found.length := List.length_map _
      have el2 : (plcs r).length = r.length := List.length_map _
      have hrl : r.length ≤ i := by simpa using hds1
      have hdl : d.length ≤ i := hdl1 d (by simp)
      have hrd : ∀ x ∈ r, x.length ≤ i + 1 := fun x hx => Nat.le_succ_of_le (hdl1 x (by simp [hx]))
      have ef : plcs found ++ [V.str (pl d)] = plcs (found ++ [d]) := by simp [plcs]
      walk_at "go"
      rw [ef]
      have inner : ∀ (ls : List Nat) (H2 : Hp) (σ : L2.St), ls.length ≤ 2 → Ex H H2 → H2 fl = some (.lst (plcs (found ++ [d]))) → H2 wl = some (.lst (plcs r)) → PInv t (i + 1) (found ++ [d]) (r ++ ls.reverse.map fun c => d ++ [c]) → True := fun _ _ _ _ _ _ _ _ => trivial
      refine ⟨v, rfl, ?_⟩
      rcases hstep with ⟨n, rfl, hn⟩ | ⟨rfl, hn⟩ | ⟨rfl, hn⟩
      · refine .inl ⟨⟨n, rfl⟩, w_rv1 (by simp) ?_⟩
        refine for_revP (ls := []) (fun j σ H' => ∃ y3, σ = [some (.ref a), some (.ref fl), some (.ref wl), some (.int (n : Int)), some (.str (pl d)), y3] ∧ Ex H H' ∧ H' fl = some (.lst (plcs (found ++ [d]))) ∧ H' wl = some (.lst (plcs (r ++ (([] : List Nat).reverse.take j).map fun c => d ++ [c]))))
          ⟨_, rfl, by walk_at "ex", by walk_at "hp", by simp; walk_at "hp"⟩ (fun j c σ H' hc => by simp at hc) ?_
        rintro σ H' ⟨y3, rfl, e2, hf2, hw2⟩
        refine ⟨found ++ [d], r, _, _, _, rfl, e2, hf2, ?_, hn, by simp [hfl1], by omega, hrd⟩
        rw [hw2]
        simp
      · refine .inr (.inl ⟨rfl, w_rv1 (by simp) ?_⟩)
        refine for_revP (ls := [98]) (fun j σ H' => ∃ y3, σ = [some (.ref a), some (.ref fl), some (.ref wl), some (.str "lam"), some (.str (pl d)), y3] ∧ Ex H H' ∧ H' fl = some (.lst (plcs (found ++ [d]))) ∧ H' wl = some (.lst (plcs (r ++ (([98] : List Nat).reverse.take j).map fun c => d ++ [c]))))
          ⟨_, rfl, by walk_at "ex", by walk_at "hp", by simp; walk_at "hp"⟩ ?_ ?_
        · rintro j c σ H' hc ⟨y3, rfl, e2, hf2, hw2⟩
          have tk : (([98] : List Nat).reverse.take (j + 1)).map (fun c => d ++ [c]) = (([98] : List Nat).reverse.take j).map (fun c => d ++ [c]) ++ [d ++ [c]] := by
            rw [List.take_add_one, hc]
            simp
          have ll : (plcs (r ++ (([98] : List Nat).reverse.take j).map fun c => d ++ [c])).length ≤ 2500000 := by
            simp
            omega
          generalize (([98] : List Nat).reverse.take j).map (fun c => d ++ [c]) = part at *
          walk_at "go"
          refine ⟨_, rfl, by walk_at "ex", by walk_at "hp", ?_⟩
          rw [upd_same, tk]
          simp [plcs]
        · rintro σ H' ⟨y3, rfl, e2, hf2, hw2⟩
          refine ⟨found ++ [d], r ++ [d ++ [98]], _, _, _, rfl, e2, hf2, ?_, hn, by simp [hfl1], by simp; omega, fun x hx => ?_⟩
          · rw [hw2]
            simp
          · rcases List.mem_append.mp hx with h | h
            · exact hrd x h
            · rw [List.mem_singleton.mp h]
              simp
              omega
      · refine .inr (.inr ⟨rfl, w_rv1 (by simp) ?_⟩)
        refine for_revP (ls := [102, 97]) (fun j σ H' => ∃ y3, σ = [some (.ref a), some (.ref fl), some (.ref wl), some (.str "app"), some (.str (pl d)), y3] ∧ Ex H H' ∧ H' fl = some (.lst (plcs (found ++ [d]))) ∧ H' wl = some (.lst (plcs (r ++ (([102, 97] : List Nat).reverse.take j).map fun c => d ++ [c]))))
          ⟨_, rfl, by walk_at "ex", by walk_at "hp", by simp; walk_at "hp"⟩ ?_ ?_
        · rintro j c σ H' hc ⟨y3, rfl, e2, hf2, hw2⟩
          have tk : (([102, 97] : List Nat).reverse.take (j + 1)).map (fun c => d ++ [c]) = (([102, 97] : List Nat).reverse.take j).map (fun c => d ++ [c]) ++ [d ++ [c]] := by
            rw [List.take_add_one, hc]
            simp
          have ll : (plcs (r ++ (([102, 97] : List Nat).reverse.take j).map fun c => d ++ [c])).length ≤ 2500000 := by
            simp
            omega
          generalize (([102, 97] : List Nat).reverse.take j).map (fun c => d ++ [c]) = part at *
          walk_at "go"
          refine ⟨_, rfl, by walk_at "ex", by walk_at "hp", ?_⟩
          rw [upd_same, tk]
          simp [plcs]
        · rintro σ H' ⟨y3, rfl, e2, hf2, hw2⟩
          refine ⟨found ++ [d], r ++ [d ++ [97]] ++ [d ++ [102]], _, _, _, rfl, e2, hf2, ?_, hn, by simp [hfl1], by simp; omega, fun x hx => ?_⟩
          · rw [hw2]
            simp
          · simp only [List.mem_append, List.mem_singleton] at hx
            rcases hx with (h | h) | h
            · exact hrd x h
            · rw [h]
              simp
              omega
            · rw [h]
              simp
              omega
    · rintro σ H1 ⟨found, ds, y1, y2, y3, rfl, e1, hf1, hw1, hinv, hfl1, hds1, hdl1⟩
      walk_at "go"
      rw [hinv.done] at hf1
      exact q H1 fl e1 hfl hf1
def spStart (K : PySem.W.Frag) (C : Addr) : Sp := fun vs H Q E => ∃ (a : Addr) (t : Tm) (p : List Nat), vs = [.ref a, .str (pl p)] ∧ SqT K H a t.enc ∧ t.enc.length ≤ 2000000 ∧ p.length ≤ 2000000 ∧
  (∀ i u, t.sub p = some (i, u) → Q (.int (i : Int)) H) ∧ (t.sub p = none → E (.ref C) none H)
/-- in the midst of the walk: the part that is reached -/
def WInv (t : Tm) (p : List Nat) (i s : Nat) (u : Tm) : Prop := (∃ post, t.enc.drop s = u.enc ++ post) ∧ t.sub p = (u.sub (p.drop i)).map (fun r => (r.1 + s, r.2))
theorem WInv.start (t : Tm) (p : List Nat) : WInv t p 0 0 t := ⟨⟨[], by simp⟩, by
  have : (fun r : Nat × Tm => (r.1 + 0, r.2)) = id := by funext r; rfl
  rw [this]
  simp⟩
theorem WInv.step {t : Tm} {p : List Nat} {i s c : Nat} {u : Tm} (h : WInv t p i s u) (hc : p[i]? = some c) : ∃ v, t.enc[s]? = some v ∧
    (((∃ n : Nat, v = .int n) ∧ t.sub p = none) ∨
     (v = .str "lam" ∧ ((c = 98 ∧ ∃ b : Tm, WInv t p (i + 1) (s + 1) b) ∨ (c ≠ 98 ∧ t.sub p = none))) ∨
     (v = .str "app" ∧ ((c = 102 ∧ ∃ g : Tm, WInv t p (i + 1) (s + 1) g) ∨ (c = 97 ∧ ∃ (g a : Tm) (post : List V), t.enc.drop (s + 1) = g.enc ++ post ∧ WInv t p (i + 1) (s + 1 + g.enc.length) a) ∨ (c ≠ 102 ∧ c ≠ 97 ∧ t.sub p = none)))) := by
  obtain ⟨⟨post, h1⟩, h2⟩ := h
  rw [drop_at hc] at h2
  cases u with
  | var n =>
    have g := drop_get (i := s) (v := .int n) (r := post) (by rw [h1]; rfl)
    exact ⟨_, g.1, .inl ⟨⟨n, rfl⟩, by rw [h2]; rfl⟩⟩
  | lam b =>
    have g := drop_get (i := s) (v := .str "lam") (r := b.enc ++ post) (by rw [h1]; simp [Tm.enc])
    refine ⟨_, g.1, .inr (.inl ⟨rfl, ?_⟩)⟩
    by_cases e : c = 98
    · refine .inl ⟨e, b, ⟨post, g.2⟩, ?_⟩
      rw [h2]
      simp only [Tm.sub, if_pos e, Option.map_map]
      congr 1
      funext r
      simp
      omega
    · exact .inr ⟨e, by rw [h2]; simp [Tm.sub, e]⟩
  | app f a =>
    have g := drop_get (i := s) (v := .str "app") (r := f.enc ++ (a.enc ++ post)) (by rw [h1]; simp [Tm.enc])
    refine ⟨_, g.1, .inr (.inr ⟨rfl, ?_⟩)⟩
    by_cases e : c = 102
    · refine .inl ⟨e, f, ⟨_, g.2⟩, ?_⟩
      rw [h2]
      simp only [Tm.sub, if_pos e, Option.map_map]
      congr 1
      funext r
      simp
      omega
    · by_cases e2 : c = 97
      · refine .inr (.inl ⟨e2, f, a, _, g.2, ⟨post, ?_⟩, ?_⟩)
        · rw [← List.drop_drop, g.2]
          simp
        · rw [h2]
          simp only [Tm.sub, if_neg e, if_pos e2, Option.map_map]
          congr 1
          funext r
          simp
          omega
      · exact .inr (.inr ⟨e, e2, by rw [h2]; simp [Tm.sub, e, e2]⟩)
theorem ok_start {f : Addr} {fd : FuncData} (F : Fun K "start_of" "start_of" s_start_of f fd) (T : Txt w K mg tk cl)
    (D1 : Def P w K mg base CX0 2 "end_of" ["term", "start"] (spEnd K)) (D2 : Def P w K mg base CX0 1 "letters_of" ["node"] spLetters) : FnOk P w K mg base (L2.CX P w) 3 f fd ["term", "place"] (spStart K (cl 3)) := by
  obtain ⟨f1, fd1, g_end_of, kp_end_of, b_end_of, G_end_of⟩ := D1
  obtain ⟨f2, fd2, g_letters_of, kp_letters_of, b_letters_of, G_letters_of⟩ := D2
  refine F.okX sc_start_of (fun vs H Q E h => ?_) (fun cdv A outer s H vs Q E hr h => ?_)
  · obtain ⟨a, t, p, rfl, _⟩ := h
    rfl
  · obtain ⟨a, t, p, rfl, hS, hlen, hpl, q, x⟩ := h
    refine ⟨_, (pss_cons (ps_set (i := 2) sc_start_of.nd rfl (.inl rfl) pe_int) (pss_cons (ps_for (passes_of rfl) rfl (pi_str (pv 1)) (pg_name (i := 3) sc_start_of.nd rfl (.inl rfl)) (pss_cons (ps_if (pt_cmpR op_notIn_sign (pv 3) (pe_call G_letters_of (hr.mono (by first | decide | omega)) (by rfl) g_letters_of kp_letters_of b_letters_of .nil pass0 (pa_cons (pe_ix ix_tup (pv 0) (pv 2) (fun _ _ => rfl)) pa_nil)) rfl) (pss_one (ps_raise rfl (takes_of rfl rfl rfl rfl) (SkE.pmk_own1 PySem.F.excBase_ValueError T.x_NoPlace T.g_NoPlace T.k_NoPlace (raises_own T.b_NoPlace T.t_NoPlace) rfl pe_str))) pss_nil) (pss_cons (ps_aug (i := 2) sc_start_of.nd rfl (.inl rfl) pe_int ip_add) (pss_one (ps_if (pt_cmpR op_eq (pv 3) pe_str (nomark _)) (pss_one (ps_set (i := 2) sc_start_of.nd rfl (.inl rfl) (pe_call G_end_of (hr.mono (by first | decide | omega)) (by rfl) g_end_of kp_end_of b_end_of .nil pass0 (pa_cons (pv 0) (pa_cons (pv 2) pa_nil))))) pss_nil))))) (pss_one (ps_ret (pv 2))))), ?_⟩
    refine sl_of (σ2 := [some _, some _, none, none]) rfl ?_
    walk_at "st"
    walk_at "go"
    refine for_str (z := pl p) (fun i σ H' => H' = H ∧ ∃ (s : Nat) (u : Tm) (y : Option V), σ = [some (.ref a), some (.str (pl p)), some (.int (s : Int)), y] ∧ WInv t p i s u) ⟨rfl, 0, t, none, rfl, WInv.start t p⟩ ?_ ?_
    · rintro i c σ H hc ⟨rfl, s, u, y, rfl, inv⟩
      have hc2 : p[i]? = some c := by simpa [pl] using hc
      obtain ⟨v, hv, hcase⟩ := inv.step hc2
      walk_at "go"
      refine ⟨v, rfl, ?_⟩
      rcases hcase with ⟨⟨n, rfl⟩, hsub⟩ | ⟨rfl, ⟨rfl, b, inv2⟩ | ⟨hc3, hsub⟩⟩ | ⟨rfl, ⟨rfl, g, inv2⟩ | ⟨rfl, g, a2, post, hdr, inv2⟩ | ⟨hc3, hc4, hsub⟩⟩
      · refine .inl ⟨⟨n, rfl⟩, c, pl [], rfl, rfl, ?_⟩
        rw [decide_eq_false (by simp [pl])]
        walk_at "go"
        exact x hsub
      · refine .inr (.inl ⟨rfl, 98, pl [98], rfl, rfl, ?_⟩)
        rw [decide_eq_true (by simp [pl])]
        walk_at "go"
        exact ⟨rfl, s + 1, b, _, rfl, inv2⟩
      · refine .inr (.inl ⟨rfl, c, pl [98], rfl, rfl, ?_⟩)
        rw [decide_eq_false (by simp [pl]; exact hc3)]
        walk_at "go"
        exact x hsub
      · refine .inr (.inr ⟨rfl, 102, pl [102, 97], rfl, rfl, ?_⟩)
        rw [decide_eq_true (by simp [pl])]
        walk_at "go"
        exact ⟨rfl, s + 1, g, _, rfl, inv2⟩
      · refine .inr (.inr ⟨rfl, 97, pl [102, 97], rfl, rfl, ?_⟩)
        rw [decide_eq_true (by simp [pl])]
        walk_at "go"
        refine ⟨a, t.enc, s + 1, g, post, rfl, hS, hdr, hlen, ?_⟩
        walk_at "go"
        exact ⟨rfl, s + 1 + g.enc.length, a2, _, rfl, inv2⟩
      · refine .inr (.inr ⟨rfl, c, pl [102, 97], rfl, rfl, ?_⟩)
        rw [decide_eq_false (by simp [pl]; exact ⟨hc3, hc4⟩)]
        walk_at "go"
        exact x hsub
    · rintro σ H ⟨rfl, s, u, y, rfl, inv⟩
      walk_at "go"
      refine q s u ?_
      have e : p.drop (pl p).cps.size = [] := List.drop_of_length_le (by simp [pl])
      rw [inv.2, e, Tm.sub_nil]
      simp
end
end Ly
set_option Elab.async false
set_option linter.all false
set_option maxRecDepth 100000
set_option maxHeartbeats 8000000
namespace Ly
open PySem PySem.Spec PyProof.Rows L2 Evl
local macro_rules | `(tactic| walk_at "ne") => `(tactic| first
  | assumption
  | ((refine' Ne.symm ?hq); (case hq => assumption))
  | ((refine' ne_of_none ?nh1 ?nh2); (case nh2 => assumption); (case nh1 => walk_at "hp"))
  | ((refine' Ne.symm (ne_of_none ?nh1 ?nh2)); (case nh2 => assumption); (case nh1 => walk_at "hp")))
local macro_rules | `(tactic| walk_at "hp") => `(tactic| first
  | assumption
  | exact upd_same
  | ((refine' SqL.of ?hq); (case hq => walk_at "hp"))
  | ((refine' SqT.of ?hq); (case hq => walk_at "hp"))
  | ((refine' (upd_ne ?hne).trans ?hrest); (case hne => walk_at "ne"); (case hrest => walk_at "hp"))
  | ((refine' ly_at ?hex ?hh); (case hex => assumption); (case hh => walk_at "hp"))
  | ((refine' ly_atF ?hex ?hnn ?hh); (case hex => assumption); (case hh => walk_at "hp"); (case hnn => walk_at "ne"))
  | ((refine' ex_t ?hex ?hh); (case hh => assumption); (case hex => walk_at "ex"))
  | ((refine' ex_l ?hex ?hh); (case hh => assumption); (case hex => walk_at "ex")))
local macro_rules | `(tactic| walk_at "ex") => `(tactic| first
  | assumption
  | exact Ex.refl _
  | ((refine' ex_new ?xa ?xb); (case xb => assumption); (case xa => walk_at "ex"))
  | ((refine' ex_upd ?xa ?xb); (case xb => walk_at "free"); (case xa => walk_at "ex"))
  | ((refine' Ex.trans ?xa ?xb); (case xb => assumption); (case xa => walk_at "ex")))
local macro_rules | `(tactic| walk_at "free") => `(tactic| first
  | assumption
  | ((refine' fresh_back ?xa ?xb); (case xb => assumption); (case xa => walk_at "ex")))
local macro_rules | `(tactic| walk_at "fr") => `(tactic| first
  | assumption
  | exact Fr.refl _ _
  | ((refine' Fr.own ?hq); (case hq => walk_at "fr"))
  | ((refine' Fr.new ?xa ?xb); (case xb => assumption); (case xa => walk_at "fr"))
  | ((refine' Fr.mut ?xa ?xb); (case xb => assumption); (case xa => walk_at "fr"))
  | ((refine' Fr.trans ?xa ?xb); (case xb => assumption); (case xa => walk_at "fr"))
  | ((refine' Fr.trans ?xa (Fr.ex ?xb)); (case xb => assumption); (case xa => walk_at "fr")))
local macro_rules | `(tactic| walk_at "go1") => `(tactic| first
  | (with_reducible refine' w_seq ?_)
  | (with_reducible refine' w_asg ?_)
  | (with_reducible refine' w_ret ?_)
  | (with_reducible refine' w_drop ?_)
  | (with_reducible refine' w_if ?_)
  | (with_reducible refine' w_next ?_)
  | (with_reducible refine' w_name ?_)
  | (with_reducible refine' w_sub ?_)
  | ((with_reducible refine' w_var ?hv ?_); (case hv => exact rfl))
  | (with_reducible refine' w_c ?_)
  | (with_reducible refine' w_op ?_)
  | (with_reducible refine' w_un ?_)
  | (with_reducible refine' w_ch ?_)
  | (with_reducible refine' w_I0 ?_)
  | ((with_reducible refine' w_I ?hc ?_); (case hc => first | (exact ly_mulL (by decide) (by decide)) | (exact ly_mulR (by decide) (by decide)) | (exact ly_mulL (by omega) (by omega)) | (show (_ : Int) ≠ 0; decide) | (show (_ : Int) ≠ 0; omega) | (exact ⟨by decide, by decide⟩) | (exact ⟨by omega, by omega⟩)))
  | (with_reducible refine' w_U ?_)
  | ((with_reducible refine' w_eq ?hs ?_); (case hs => exact rfl))
  | ((with_reducible refine' w_ne ?hs ?_); (case hs => exact rfl))
  | (with_reducible refine' w_isB ?_)
  | (with_reducible refine' w_notB ?_)
  | (with_reducible refine' w_nil ?_)
  | (with_reducible refine' w_cons ?_)
  | (with_reducible refine' w_tup ?_)
  | (with_reducible refine' w_lst ?_)
  | (with_reducible refine' w_cb ?_)
  | (with_reducible refine' w_call ?_)
  | (with_reducible refine' w_bm ?_)
  | (with_reducible refine' w_bm0 ?_)
  | ((with_reducible refine' w_app ?hh ?hz ?_); (case hh => walk_at "hp"); (case hz => first | exact ly_lt (by omega) | exact ly_lt (by simp only [List.length_append, List.length_map, List.length_cons, List.length_nil]; omega)))
  | ((with_reducible refine' w_popA ?hh ?_); (case hh => walk_at "hp"))
  | ((with_reducible refine' w_ext ?hh ?hh2 ?hz ?_); (case hh => walk_at "hp"); (case hh2 => walk_at "hp"))
  | ((with_reducible refine' w_ixL ?hh ?ha ?_); (case hh => walk_at "hp"); (case ha => first | exact rfl | exact at_map (by omega) | exact atI_last _ _ | ((refine' at_of ?ae ?ah); (case ah => assumption); (case ae => omega))))
  | ((with_reducible refine' w_ixT ?hh ?ha ?_); (case hh => walk_at "hp"); (case ha => first | exact rfl | exact at_map (by omega) | exact atI_last _ _ | ((refine' at_of ?ae ?ah); (case ah => assumption); (case ae => omega))))
  | ((with_reducible refine' w_cat ?hh ?hh2 ?hz ?_); (case hh => walk_at "hp"); (case hh2 => walk_at "hp"))
  | ((with_reducible refine' w_setL ?hh ?ha ?_); (case hh => walk_at "hp"); (case ha => exact rfl))
  | (with_reducible refine' w_test ?_)
  | (with_reducible refine' w_tB ?_)
  | (with_reducible refine' w_bl ?_)
  | (with_reducible refine' w_and ?_)
  | (with_reducible refine' w_or ?_)
  | (with_reducible refine' w_not ?_)
  | (with_reducible refine' w_andV ?_)
  | (with_reducible refine' w_orV ?_)
  | (with_reducible refine' w_notV ?_)
  | (with_reducible refine' w_ifE ?_)
  | (with_reducible refine' w_for ?_)
  | ((with_reducible refine' w_nin ?hh ?_); (case hh => walk_at "hp"))
  | ((with_reducible refine' w_sorted ?hh ?_); (case hh => walk_at "hp"))
  | (with_reducible refine' w_tsadd ?_)
  | ((with_reducible refine' w_tsadd1 ?hh ?_); (case hh => walk_at "hp"))
  | ((with_reducible refine' w_sadd ?hh ?hr ?_); (case hh => walk_at "hp"); (case hr => omega))
  | (with_reducible refine' w_iZ ?_)
  | ((with_reducible refine' w_iZ1 ?hh ?hh2 ?_); (case hh => walk_at "hp"); (case hh2 => walk_at "hp"))
  | (with_reducible refine' w_iS ?_)
  | (with_reducible refine' w_iS1 ?_)
  | ((with_reducible refine' w_gtup ?hh ?hn ?_); (case hh => walk_at "hp"); (case hn => exact rfl))
  | (with_reducible refine' w_gcons ?_)
  | (with_reducible refine' w_gnil ?_)
  | (with_reducible refine' w_js ?_)
  | (with_reducible refine' w_jsn ?_)
  | ((with_reducible refine' w_js1 ?hl ?_); (case hl => decide +kernel))
  | (with_reducible refine' w_fmt ?_)
  | ((with_reducible refine' w_fmt1 ?hl ?_); (case hl => decide +kernel))
  | (with_reducible refine' w_callS ?_)
  | ((with_reducible refine' w_truL ?hh ?_); (case hh => walk_at "hp"))
  | (with_reducible refine' w_lc ?_)
  | (with_reducible refine' w_yes ?_)
  | ((with_reducible refine' w_wipe ?he ?_); (case he => exact rfl))
  | (with_reducible refine' w_iL ?_)
  | (with_reducible refine' w_iT ?_)
  | (with_reducible refine' w_iR ?_)
  | ((with_reducible refine' w_iL1 ?hh ?_); (case hh => walk_at "hp"))
  | ((with_reducible refine' w_iT1 ?hh ?_); (case hh => walk_at "hp"))
  | ((with_reducible refine' w_iR1 ?h1 ?h2 ?_); (case h1 => omega); (case h2 => omega))
  | ((with_reducible refine' w_aug ?hv ?_); (case hv => exact rfl))
  | (with_reducible refine' w_ipI ?_)
  | ((with_reducible refine' w_isi ?hy ?hk ?_); (case hy => walk_at "ty"); (case hk => walk_at "kit"))
  | ((with_reducible refine' w_int ?_))
  | ((with_reducible refine' w_intB ?_))
  | ((with_reducible refine' w_abs ?_))
  | ((with_reducible refine' w_lenL ?hh ?_); (case hh => walk_at "hp"))
  | ((with_reducible refine' w_lenT ?hh ?_); (case hh => walk_at "hp"))
  | ((with_reducible refine' w_tupL ?hh ?_); (case hh => walk_at "hp"))
  | ((with_reducible refine' w_tupT ?hh ?_); (case hh => walk_at "hp"))
  | ((with_reducible refine' w_catA ?hh ?hh2 ?hz ?_); (case hh => walk_at "hp"); (case hh2 => walk_at "hp"); (case hz => walk_at "len"))
  | ((with_reducible refine' w_repB ?hh ?hne ?h2 ?h3 ?hz ?_); (case hh => walk_at "hp"); (case hne => simp); (case h2 => omega); (case h3 => omega); (case hz => exact Nat.le_of_ble_eq_true rfl))
  | ((with_reducible refine' w_eqN ?hh ?hh2 ?n1 ?n2 ?_); (case hh => walk_at "hp"); (case hh2 => walk_at "hp"); (case n1 => walk_at "nd"); (case n2 => walk_at "nd"))
  | ((with_reducible refine' w_neN ?hh ?hh2 ?n1 ?n2 ?_); (case hh => walk_at "hp"); (case hh2 => walk_at "hp"); (case n1 => walk_at "nd"); (case n2 => walk_at "nd"))
  | ((with_reducible refine' w_eqL ?hh ?hh2 ?n1 ?n2 ?_); (case hh => walk_at "hp"); (case hh2 => walk_at "hp"); (case n1 => walk_at "nd"); (case n2 => walk_at "nd"))
  | ((with_reducible refine' w_neL ?hh ?hh2 ?n1 ?n2 ?_); (case hh => walk_at "hp"); (case hh2 => walk_at "hp"); (case n1 => walk_at "nd"); (case n2 => walk_at "nd"))
  | ((with_reducible refine' w_neNon ?hh2 ?n2 ?_); (case hh2 => walk_at "hp"); (case n2 => walk_at "nd"))
  | ((with_reducible refine' w_eqNon ?hh2 ?n2 ?_); (case hh2 => walk_at "hp"); (case n2 => walk_at "nd"))
  | ((with_reducible refine' w_slA ?hh ?_); (case hh => walk_at "hp"))
  | ((with_reducible refine' w_disp ?hz ?_); (case hz => exact sz_of (Nat.le_of_ble_eq_true rfl)))
  | ((with_reducible refine' w_tyL ?hh ?_); (case hh => walk_at "hp"))
  | (with_reducible refine' iteT ?_)
  | (with_reducible refine' iteF ?_)
  | (with_reducible refine' w_nT ?_)
  | (with_reducible refine' w_nn ?_)
  | (with_reducible refine' w_nnT ?_)
  | (with_reducible refine' w_nnR ?_)
  | (with_reducible refine' w_neG ?_)
  | (with_reducible refine' w_eqG ?_)
  | (with_reducible refine' w_neS ?_)
  | (with_reducible refine' w_eqS ?_)
  | (with_reducible refine' w_neSb ?_)
  | (with_reducible refine' w_eqSb ?_)
  | (with_reducible refine' w_deIS ?_)
  | (with_reducible refine' w_deSI ?_)
  | (with_reducible refine' w_deISn ?_)
  | ((with_reducible refine' w_deST ?he ?_); (case he => decide +kernel))
  | ((with_reducible refine' w_deSF ?he ?_); (case he => decide +kernel))
  | ((with_reducible refine' w_deSTn ?he ?_); (case he => decide +kernel))
  | ((with_reducible refine' w_deSFn ?he ?_); (case he => decide +kernel))
  | (with_reducible refine' w_nF ?_)
  | dsimp only [Bool.not_true, Bool.not_false])
local macro_rules | `(tactic| walk_at "ty") => `(tactic| first
  | exact .base (.int _) | exact .base (.str _) | exact .base (.bl _) | exact .base .non
  | ((refine' tyx_t ?hq); (case hq => walk_at "hp")) | ((refine' tyx_l ?hq); (case hq => walk_at "hp")) | ((refine' .base (.tup ?hq)); (case hq => walk_at "hp")) | assumption)
local macro_rules | `(tactic| walk_at "go") => `(tactic| repeat walk_at "go1")
local macro_rules | `(tactic| walk_at "st") => `(tactic| try dsimp only [cxOf, Cx.nox, Cx.wish])
local macro_rules | `(tactic| walk_at "kit") => `(tactic| with_reducible first | exact kit_int_int | exact kit_int_str | exact kit_int_bool | exact kit_int_tuple | exact kit_int_list | exact kit_str_int | exact kit_str_str | exact kit_str_bool | exact kit_str_tuple | exact kit_str_list | exact kit_bool_int | exact kit_bool_str | exact kit_bool_bool | exact kit_bool_tuple | exact kit_bool_list | exact kit_NoneType_int | exact kit_NoneType_str | exact kit_NoneType_bool | exact kit_NoneType_tuple | exact kit_NoneType_list | exact kit_list_int | exact kit_list_str | exact kit_list_bool | exact kit_list_tuple | exact kit_list_list | exact kit_tuple_int | exact kit_tuple_str | exact kit_tuple_bool | exact kit_tuple_tuple | exact kit_tuple_list)
local macro_rules | `(tactic| walk_at "nd") => `(tactic| first
  | assumption
  | exact Tm.nds _
  | exact Nds.nil
  | exact Nds.ofInts _
  | ((refine' Nds.cons ?na ?nb); (case na => first | exact Nds.I _ | exact Nds.L | exact Nds.A); (case nb => walk_at "nd"))
  | ((refine' Nds.app ?na ?nb); (case na => walk_at "nd"); (case nb => walk_at "nd"))
  | ((refine' Nds.rep ?na _); (case na => walk_at "nd")))
local macro_rules | `(tactic| walk_at "len") => `(tactic| first
  | exact ly_sz (by omega)
  | ((simp only [List.length_append, List.length_cons, List.length_nil, List.length_map, PyProof.Rows.lm_len_rep_flat]); exact ly_sz (by omega)))
local macro_rules | `(tactic| walk_at "go1") => `(tactic| first
  | (with_reducible refine' w_kget2 ?_)
  | (with_reducible refine' w_isRN ?_)
  | (with_reducible refine' w_isNN ?_)
  | (with_reducible refine' w_isIN ?_)
  | ((with_reducible refine' w_kg ?hd ?_); (case hd => assumption)))
section
variable {P : Program} {w : World} {K : PySem.W.Frag} {mg : Str → Option Value} {base : Heap} {tk : Nat → Tok} {cl : Nat → Addr}
def spNumber : Sp := fun vs H Q _ => ∃ (v : V) (m : Int), vs = [v, .int m] ∧ Kd H v ∧ Q (.bl (numV m v)) H
theorem ok_is_number {f : Addr} {fd : FuncData} {k : Nat} (F : Fun K "is_number" "is_number" s_is_number f fd) (T : Txt w K mg tk cl) : FnOk P w K mg base CX0 (k + 1) f fd ["value", "most"] spNumber := by
  refine F.ok sc_is_number (fun vs H Q E h => ?_) (fun cdv A outer s H vs Q E hr h => ?_)
  · obtain ⟨v, m, rfl, _⟩ := h
    rfl
  · obtain ⟨v, m, rfl, hk, q⟩ := h
    refine ⟨_, (pss_cons (ps_if (PW.pt (pw_or (pt_val (pe_callB call_isi (by rfl) T.n_isinstance (by decide +kernel) (pa_cons (pv 0) (pa_cons (pe_bltn (v := .ty "bool") (by rfl) T.n_bool (by decide +kernel) rfl) pa_nil)))) (pw_or1 (pt_not (pt_val (pe_callB call_isi (by rfl) T.n_isinstance (by decide +kernel) (pa_cons (pv 0) (pa_cons (pe_bltn (v := .ty "int") (by rfl) T.n_int (by decide +kernel) rfl) pa_nil)))))))) (pss_one (ps_ret pe_bl)) pss_nil) (pss_one (ps_ret (pe_chain op_le op_le pe_int (pv 0) (pv 1))))), ?_⟩
    refine sl_of (σ2 := [some _, some _]) rfl ?_
    walk_at "st"
    cases hk with
    | int i =>
      walk_at "go"
      refine w_br (fun h1 => ?_) (fun h1 => ?_)
      · walk_at "go"
        exact qeq q (by simp [numV, h1])
      · exact qeq q (by simp [numV, h1])
    | str x => walk_at "go"; exact q
    | bl b => walk_at "go"; exact q
    | non => walk_at "go"; exact q
    | lst h => walk_at "go"; exact q
    | tup h => walk_at "go"; exact q
def spNodeW (K : PySem.W.Frag) : Sp := fun vs H Q _ => ∃ (v : V) (b : Addr) (ws : List Str), vs = [v, .ref b] ∧ Kd H v ∧ SqT K H b (ws.map V.str) ∧ Q (.bl (nodeW ws v)) H
theorem ok_is_node {f : Addr} {fd : FuncData} (F : Fun K "is_node" "is_node" s_is_node f fd) (T : Txt w K mg tk cl)
    (D1 : Def P w K mg base CX0 1 "is_number" ["value", "most"] spNumber) : FnOk P w K mg base CX0 2 f fd ["value", "words"] (spNodeW K) := by
  obtain ⟨f1, fd1, g_is_number, kp_is_number, b_is_number, G_is_number⟩ := D1
  refine F.ok sc_is_node (fun vs H Q E h => ?_) (fun cdv A outer s H vs Q E hr h => ?_)
  · obtain ⟨v, b, ws, rfl, _⟩ := h
    rfl
  · obtain ⟨v, b, ws, rfl, hk, hb, q⟩ := h
    refine ⟨_, (pss_cons (ps_if (pt_val (pe_callB call_isi (by rfl) T.n_isinstance (by decide +kernel) (pa_cons (pv 0) (pa_cons (pe_bltn (v := .ty "str") (by rfl) T.n_str (by decide +kernel) rfl) pa_nil)))) (pss_one (ps_ret (pe_cmpR op_in_seq (pv 0) (pv 1) (by rfl)))) pss_nil) (pss_one (ps_ret (pe_call G_is_number (hr.mono (by first | decide | omega)) (by rfl) g_is_number kp_is_number b_is_number .nil pass0 (pa_cons (pv 0) (pa_cons (pe_glob (v := .int 1000000) rfl T.g_MOST_VARIABLE ⟨_, rfl⟩) pa_nil)))))), ?_⟩
    refine sl_of (σ2 := [some _, some _]) rfl ?_
    walk_at "st"
    cases hk with
    | int i =>
      walk_at "go"
      exact ⟨_, _, rfl, .int i, q⟩
    | str x =>
      walk_at "go"
      exact w_inW hb q
    | bl c =>
      walk_at "go"
      exact ⟨_, _, rfl, .bl c, q⟩
    | non =>
      walk_at "go"
      exact ⟨_, _, rfl, .non, q⟩
    | lst h =>
      walk_at "go"
      exact ⟨_, _, rfl, .lst h, q⟩
    | tup h =>
      walk_at "go"
      exact ⟨_, _, rfl, .tup h, q⟩
def spCountD : Sp := fun vs H Q _ => ∃ v, vs = [v] ∧ (∃ k, v = kV k) ∧ Q (.int (pcD v)) H
theorem ok_part_countD {f : Addr} {fd : FuncData} {k : Nat} (F : Fun K "part_count" "part_count" s_part_count f fd) (T : Txt w K mg tk cl) : FnOk P w K mg base CX0 (k + 1) f fd ["node"] spCountD := by
  refine F.ok sc_part_count (fun vs H Q E h => ?_) (fun cdv A outer s H vs Q E hr h => ?_)
  · obtain ⟨v, rfl, _⟩ := h
    rfl
  · obtain ⟨v, rfl, h, q⟩ := h
    refine ⟨_, (pss_one (ps_ret (pe_kget2 (pe_glob (v := .ref (cl 40)) (by rfl) T.g_PART_COUNTS (by rfl)) (pv 0) pe_int ⟨by rfl, by rfl, by rfl, by rfl⟩))), ?_⟩
    refine sl_of (σ2 := [some _]) rfl ?_
    walk_at "st"
    have hd := T.d_PART_COUNTS
    walk_at "go"
    exact ⟨h, q_eq q (pcD_get h)⟩
def spWritten (K : PySem.W.Frag) : Sp := fun vs H Q _ => ∃ (v : V) (wb : Addr) (ws : List Str), vs = [v, .ref wb] ∧ SqT K H wb (ws.map V.str) ∧ ((∃ a xs, v = .ref a ∧ SqT K H a xs ∧ xs.length ≤ 100000 ∧ (∀ x ∈ xs, Kd H x) ∧ Q (.bl (isW ws xs)) H) ∨ (∃ n b, TyX K H v (.type n) ∧ PySem.W.kitOne K (.type n) (.type "tuple") = some b ∧ b = false ∧ Q (.bl false) H))
theorem ok_is_written {f : Addr} {fd : FuncData} (F : Fun K "is_written" "is_written" s_is_written f fd) (T : Txt w K mg tk cl)
    (D1 : Def P w K mg base CX0 2 "is_node" ["value", "words"] (spNodeW K)) (D2 : Def P w K mg base CX0 1 "part_count" ["node"] spCountD) : FnOk P w K mg base CX0 3 f fd ["value", "words"] (spWritten K) := by
  obtain ⟨f1, fd1, g_is_node, kp_is_node, b_is_node, G_is_node⟩ := D1
  obtain ⟨f2, fd2, g_part_count, kp_part_count, b_part_count, G_part_count⟩ := D2
  refine F.ok sc_is_written (fun vs H Q E h => ?_) (fun cdv A outer s H vs Q E hr h => ?_)
  · obtain ⟨v, wb, ws, rfl, _⟩ := h
    rfl
  · obtain ⟨v, wb, ws, rfl, hw, h⟩ := h
    refine ⟨_, (pss_cons (ps_if (PW.pt (pw_or (pt_not (pt_val (pe_callB call_isi (by rfl) T.n_isinstance (by decide +kernel) (pa_cons (pv 0) (pa_cons (pe_bltn (v := .ty "tuple") (by rfl) T.n_tuple (by decide +kernel) rfl) pa_nil))))) (pw_or1 (pt_cmpR op_gt (pe_callB call_len_seq (by rfl) T.n_len (by decide +kernel) (pa_cons (pv 0) pa_nil)) (pe_glob (v := .int 1000) rfl T.g_MOST_NODES ⟨_, rfl⟩) (nomark _))))) (pss_one (ps_ret pe_bl)) pss_nil) (pss_cons (ps_set (i := 2) sc_is_written.nd rfl (.inl rfl) pe_int) (pss_cons (ps_for PassesOwn.never rfl (pi_tup (pv 0)) (pg_name (i := 3) sc_is_written.nd rfl (.inl rfl)) (pss_cons (ps_if (PW.pt (pw_or (pt_cmpR op_eq (pv 2) pe_int (nomark _)) (pw_or1 (pt_not (pt_val (pe_call G_is_node (hr.mono (by first | decide | omega)) (by rfl) g_is_node kp_is_node b_is_node .nil pass0 (pa_cons (pv 3) (pa_cons (pv 1) pa_nil)))))))) (pss_one (ps_ret pe_bl)) pss_nil) (pss_one (ps_aug (i := 2) sc_is_written.nd rfl (.inl rfl) (pe_op op_sub (pe_call G_part_count (hr.mono (by first | decide | omega)) (by rfl) g_part_count kp_part_count b_part_count .nil pass0 (pa_cons (pv 3) pa_nil)) pe_int) ip_add)))) (pss_one (ps_ret (pe_cmpR op_eq (pv 2) pe_int (nomark _))))))), ?_⟩
    refine sl_of (σ2 := [some _, some _, none, none]) rfl ?_
    walk_at "st"
    rcases h with ⟨a, xs, rfl, hS, hz, hk, q⟩ | ⟨n, b, ht, hkit, rfl, q⟩
    · walk_at "go"
      refine w_br (fun h1 => ?_) (fun h1 => ?_)
      · walk_at "go"
        exact qeq q (by simp [isW]; omega)
      · walk_at "go"
        have h2 : xs.length ≤ 1000 := by omega
        refine for_tup (K := K) (a := a) (xs := xs) (fun i σ H' => H' = H ∧ ∃ m y, σ = [some (.ref a), some (.ref wb), some (.int m), y] ∧ scanW ws m (xs.drop i) = scanW ws 1 xs) ⟨rfl, 1, none, rfl, rfl⟩ (fun i σ H' _ e => by rw [e.1]; exact hS) ?_ ?_
        · rintro i x σ H' hi ⟨rfl, m, y, rfl, hm⟩
          have hd := drop_at hi
          have hx : x ∈ xs := List.mem_of_getElem? hi
          rw [hd] at hm
          walk_at "go"
          refine w_brI (fun h3 => ?_) (fun h3 => ?_)
          · walk_at "go"
            exact qeq q (by rw [isW, ← hm]; simp [scanW, h3])
          · walk_at "go"
            refine ⟨x, wb, ws, rfl, hk x hx, hw, ?_⟩
            walk_at "go"
            cases hn : nodeW ws x with
            | false =>
              walk_at "go"
              exact qeq q (by rw [isW, ← hm]; simp [scanW, hn])
            | true =>
              walk_at "go"
              refine ⟨x, rfl, nodeW_key hn, ?_⟩
              walk_at "go"
              refine ⟨rfl, _, _, rfl, ?_⟩
              rw [← hm]
              simp [scanW, h3, hn]
        · rintro σ H' ⟨rfl, m, y, rfl, hm⟩
          walk_at "go"
          refine qeq q ?_
          rw [isW, ← hm]
          simp [scanW, h2]
    · walk_at "go"
      refine w_isi ht hkit ?_
      walk_at "go"
      exact q
def spIsW (K : PySem.W.Frag) (ws : List Str) : Sp := fun vs H Q _ => ∃ v, vs = [v] ∧ ((∃ a xs, v = .ref a ∧ SqT K H a xs ∧ xs.length ≤ 100000 ∧ (∀ x ∈ xs, Kd H x) ∧ ∀ H', Ex H H' → Q (.bl (isW ws xs)) H') ∨ (∃ n b, (∀ H', Ex H H' → TyX K H' v (.type n)) ∧ PySem.W.kitOne K (.type n) (.type "tuple") = some b ∧ b = false ∧ ∀ H', Ex H H' → Q (.bl false) H'))
theorem ok_is_term {f : Addr} {fd : FuncData} (F : Fun K "is_term" "is_term" s_is_term f fd) (T : Txt w K mg tk cl)
    (D1 : Def P w K mg base CX0 3 "is_written" ["value", "words"] (spWritten K)) : FnOk P w K mg base CX0 4 f fd ["value"] (spIsW K ["lam", "app"]) := by
  obtain ⟨f1, fd1, g_is_written, kp_is_written, b_is_written, G_is_written⟩ := D1
  refine F.ok sc_is_term (fun vs H Q E h => ?_) (fun cdv A outer s H vs Q E hr h => ?_)
  · obtain ⟨v, rfl, _⟩ := h
    rfl
  · obtain ⟨v, rfl, h⟩ := h
    refine ⟨_, (pss_one (ps_ret (pe_call G_is_written (hr.mono (by first | decide | omega)) (by rfl) g_is_written kp_is_written b_is_written .nil pass0 (pa_cons (pv 0) (pa_cons (pe_tup (pa_cons pe_str (pa_cons pe_str pa_nil))) pa_nil))))), ?_⟩
    refine sl_of (σ2 := [some _]) rfl ?_
    walk_at "st"
    walk_at "go"
    intro p hp
    have e := Ex.new hp (o := .tup [V.str "lam", V.str "app"])
    walk_at "go"
    refine ⟨v, p, ["lam", "app"], rfl, SqT.of upd_same, ?_⟩
    rcases h with ⟨a, xs, rfl, hS, hz, hk, q⟩ | ⟨n, b, ht, hkit, rfl, q⟩
    · exact .inl ⟨a, xs, rfl, ex_t e hS, hz, all_kp hk (Kp.ex e), q _ e⟩
    · exact .inr ⟨n, false, ht _ e, hkit, rfl, q _ e⟩

end
end Ly
set_option Elab.async false
set_option linter.all false
set_option maxRecDepth 100000
set_option maxHeartbeats 8000000
namespace Ly
open PySem PySem.Spec PyProof.Rows L2 Evl
local macro_rules | `(tactic| walk_at "ne") => `(tactic| first
  | assumption
  | ((refine' Ne.symm ?hq); (case hq => assumption))
  | ((refine' ne_of_none ?nh1 ?nh2); (case nh2 => assumption); (case nh1 => walk_at "hp"))
  | ((refine' Ne.symm (ne_of_none ?nh1 ?nh2)); (case nh2 => assumption); (case nh1 => walk_at "hp")))
local macro_rules | `(tactic| walk_at "hp") => `(tactic| first
  | assumption
  | exact upd_same
  | ((refine' SqL.of ?hq); (case hq => walk_at "hp"))
  | ((refine' SqT.of ?hq); (case hq => walk_at "hp"))
  | ((refine' (upd_ne ?hne).trans ?hrest); (case hne => walk_at "ne"); (case hrest => walk_at "hp"))
  | ((refine' ly_at ?hex ?hh); (case hex => assumption); (case hh => walk_at "hp"))
  | ((refine' ly_atF ?hex ?hnn ?hh); (case hex => assumption); (case hh => walk_at "hp"); (case hnn => walk_at "ne"))
  | ((refine' ex_t ?hex ?hh); (case hh => assumption); (case hex => walk_at "ex"))
  | ((refine' ex_l ?hex ?hh); (case hh => assumption); (case hex => walk_at "ex")))
local macro_rules | `(tactic| walk_at "ex") => `(tactic| first
  | assumption
  | exact Ex.refl _
  | ((refine' ex_new ?xa ?xb); (case xb => assumption); (case xa => walk_at "ex"))
  | ((refine' ex_upd ?xa ?xb); (case xb => walk_at "free"); (case xa => walk_at "ex"))
  | ((refine' Ex.trans ?xa ?xb); (case xb => assumption); (case xa => walk_at "ex")))
local macro_rules | `(tactic| walk_at "free") => `(tactic| first
  | assumption
  | ((refine' fresh_back ?xa ?xb); (case xb => assumption); (case xa => walk_at "ex")))
local macro_rules | `(tactic| walk_at "fr") => `(tactic| first
  | assumption
  | exact Fr.refl _ _
  | ((refine' Fr.own ?hq); (case hq => walk_at "fr"))
  | ((refine' Fr.new ?xa ?xb); (case xb => assumption); (case xa => walk_at "fr"))
  | ((refine' Fr.mut ?xa ?xb); (case xb => assumption); (case xa => walk_at "fr"))
  | ((refine' Fr.trans ?xa ?xb); (case xb => assumption); (case xa => walk_at "fr"))
  | ((refine' Fr.trans ?xa (Fr.ex ?xb)); (case xb => assumption); (case xa => walk_at "fr")))
local macro_rules | `(tactic| walk_at "go1") => `(tactic| first
  | (with_reducible refine' w_seq ?_)
  | (with_reducible refine' w_asg ?_)
  | (with_reducible refine' w_ret ?_)
  | (with_reducible refine' w_drop ?_)
  | (with_reducible refine' w_if ?_)
  | (with_reducible refine' w_next ?_)
  | (with_reducible refine' w_name ?_)
  | (with_reducible refine' w_sub ?_)
  | ((with_reducible refine' w_var ?hv ?_); (case hv => exact rfl))
  | (with_reducible refine' w_c ?_)
  | (with_reducible refine' w_op ?_)
  | (with_reducible refine' w_un ?_)
  | (with_reducible refine' w_ch ?_)
  | (with_reducible refine' w_I0 ?_)
  | ((with_reducible refine' w_I ?hc ?_); (case hc => first | (exact ly_mulL (by decide) (by decide)) | (exact ly_mulR (by decide) (by decide)) | (exact ly_mulL (by omega) (by omega)) | (show (_ : Int) ≠ 0; decide) | (show (_ : Int) ≠ 0; omega) | (exact ⟨by decide, by decide⟩) | (exact ⟨by omega, by omega⟩)))
  | (with_reducible refine' w_U ?_)
  | ((with_reducible refine' w_eq ?hs ?_); (case hs => exact rfl))
  | ((with_reducible refine' w_ne ?hs ?_); (case hs => exact rfl))
  | (with_reducible refine' w_isB ?_)
  | (with_reducible refine' w_notB ?_)
  | (with_reducible refine' w_nil ?_)
  | (with_reducible refine' w_cons ?_)
  | (with_reducible refine' w_tup ?_)
  | (with_reducible refine' w_lst ?_)
  | (with_reducible refine' w_cb ?_)
  | (with_reducible refine' w_call ?_)
  | (with_reducible refine' w_bm ?_)
  | (with_reducible refine' w_bm0 ?_)
  | ((with_reducible refine' w_app ?hh ?hz ?_); (case hh => walk_at "hp"); (case hz => first | exact ly_lt (by omega) | exact ly_lt (by simp only [List.length_append, List.length_map, List.length_cons, List.length_nil]; omega)))
  | ((with_reducible refine' w_popA ?hh ?_); (case hh => walk_at "hp"))
  | ((with_reducible refine' w_ext ?hh ?hh2 ?hz ?_); (case hh => walk_at "hp"); (case hh2 => walk_at "hp"))
  | ((with_reducible refine' w_ixL ?hh ?ha ?_); (case hh => walk_at "hp"); (case ha => first | exact rfl | exact at_map (by omega) | exact atI_last _ _ | ((refine' at_of ?ae ?ah); (case ah => assumption); (case ae => omega))))
  | ((with_reducible refine' w_ixT ?hh ?ha ?_); (case hh => walk_at "hp"); (case ha => first | exact rfl | exact at_map (by omega) | exact atI_last _ _ | ((refine' at_of ?ae ?ah); (case ah => assumption); (case ae => omega))))
  | ((with_reducible refine' w_cat ?hh ?hh2 ?hz ?_); (case hh => walk_at "hp"); (case hh2 => walk_at "hp"))
  | ((with_reducible refine' w_setL ?hh ?ha ?_); (case hh => walk_at "hp"); (case ha => exact rfl))
  | (with_reducible refine' w_test ?_)
  | (with_reducible refine' w_tB ?_)
  | (with_reducible refine' w_bl ?_)
  | (with_reducible refine' w_and ?_)
  | (with_reducible refine' w_or ?_)
  | (with_reducible refine' w_not ?_)
  | (with_reducible refine' w_andV ?_)
  | (with_reducible refine' w_orV ?_)
  | (with_reducible refine' w_notV ?_)
  | (with_reducible refine' w_ifE ?_)
  | (with_reducible refine' w_for ?_)
  | ((with_reducible refine' w_nin ?hh ?_); (case hh => walk_at "hp"))
  | ((with_reducible refine' w_sorted ?hh ?_); (case hh => walk_at "hp"))
  | (with_reducible refine' w_tsadd ?_)
  | ((with_reducible refine' w_tsadd1 ?hh ?_); (case hh => walk_at "hp"))
  | ((with_reducible refine' w_sadd ?hh ?hr ?_); (case hh => walk_at "hp"); (case hr => omega))
  | (with_reducible refine' w_iZ ?_)
  | ((with_reducible refine' w_iZ1 ?hh ?hh2 ?_); (case hh => walk_at "hp"); (case hh2 => walk_at "hp"))
  | (with_reducible refine' w_iS ?_)
  | (with_reducible refine' w_iS1 ?_)
  | ((with_reducible refine' w_gtup ?hh ?hn ?_); (case hh => walk_at "hp"); (case hn => exact rfl))
  | (with_reducible refine' w_gcons ?_)
  | (with_reducible refine' w_gnil ?_)
  | (with_reducible refine' w_js ?_)
  | (with_reducible refine' w_jsn ?_)
  | ((with_reducible refine' w_js1 ?hl ?_); (case hl => decide +kernel))
  | (with_reducible refine' w_fmt ?_)
  | ((with_reducible refine' w_fmt1 ?hl ?_); (case hl => decide +kernel))
  | (with_reducible refine' w_callS ?_)
  | ((with_reducible refine' w_truL ?hh ?_); (case hh => walk_at "hp"))
  | (with_reducible refine' w_lc ?_)
  | (with_reducible refine' w_yes ?_)
  | ((with_reducible refine' w_wipe ?he ?_); (case he => exact rfl))
  | (with_reducible refine' w_iL ?_)
  | (with_reducible refine' w_iT ?_)
  | (with_reducible refine' w_iR ?_)
  | ((with_reducible refine' w_iL1 ?hh ?_); (case hh => walk_at "hp"))
  | ((with_reducible refine' w_iT1 ?hh ?_); (case hh => walk_at "hp"))
  | ((with_reducible refine' w_iR1 ?h1 ?h2 ?_); (case h1 => omega); (case h2 => omega))
  | ((with_reducible refine' w_aug ?hv ?_); (case hv => exact rfl))
  | (with_reducible refine' w_ipI ?_)
  | ((with_reducible refine' w_isi ?hy ?hk ?_); (case hy => walk_at "ty"); (case hk => walk_at "kit"))
  | ((with_reducible refine' w_int ?_))
  | ((with_reducible refine' w_intB ?_))
  | ((with_reducible refine' w_abs ?_))
  | ((with_reducible refine' w_lenL ?hh ?_); (case hh => walk_at "hp"))
  | ((with_reducible refine' w_lenT ?hh ?_); (case hh => walk_at "hp"))
  | ((with_reducible refine' w_tupL ?hh ?_); (case hh => walk_at "hp"))
  | ((with_reducible refine' w_tupT ?hh ?_); (case hh => walk_at "hp"))
  | ((with_reducible refine' w_catA ?hh ?hh2 ?hz ?_); (case hh => walk_at "hp"); (case hh2 => walk_at "hp"); (case hz => walk_at "len"))
  | ((with_reducible refine' w_repB ?hh ?hne ?h2 ?h3 ?hz ?_); (case hh => walk_at "hp"); (case hne => simp); (case h2 => omega); (case h3 => omega); (case hz => exact Nat.le_of_ble_eq_true rfl))
  | ((with_reducible refine' w_eqN ?hh ?hh2 ?n1 ?n2 ?_); (case hh => walk_at "hp"); (case hh2 => walk_at "hp"); (case n1 => walk_at "nd"); (case n2 => walk_at "nd"))
  | ((with_reducible refine' w_neN ?hh ?hh2 ?n1 ?n2 ?_); (case hh => walk_at "hp"); (case hh2 => walk_at "hp"); (case n1 => walk_at "nd"); (case n2 => walk_at "nd"))
  | ((with_reducible refine' w_eqL ?hh ?hh2 ?n1 ?n2 ?_); (case hh => walk_at "hp"); (case hh2 => walk_at "hp"); (case n1 => walk_at "nd"); (case n2 => walk_at "nd"))
  | ((with_reducible refine' w_neL ?hh ?hh2 ?n1 ?n2 ?_); (case hh => walk_at "hp"); (case hh2 => walk_at "hp"); (case n1 => walk_at "nd"); (case n2 => walk_at "nd"))
  | ((with_reducible refine' w_neNon ?hh2 ?n2 ?_); (case hh2 => walk_at "hp"); (case n2 => walk_at "nd"))
  | ((with_reducible refine' w_eqNon ?hh2 ?n2 ?_); (case hh2 => walk_at "hp"); (case n2 => walk_at "nd"))
  | ((with_reducible refine' w_slA ?hh ?_); (case hh => walk_at "hp"))
  | ((with_reducible refine' w_disp ?hz ?_); (case hz => exact sz_of (Nat.le_of_ble_eq_true rfl)))
  | ((with_reducible refine' w_tyL ?hh ?_); (case hh => walk_at "hp"))
  | (with_reducible refine' iteT ?_)
  | (with_reducible refine' iteF ?_)
  | (with_reducible refine' w_nT ?_)
  | (with_reducible refine' w_nn ?_)
  | (with_reducible refine' w_nnT ?_)
  | (with_reducible refine' w_nnR ?_)
  | (with_reducible refine' w_neG ?_)
  | (with_reducible refine' w_eqG ?_)
  | (with_reducible refine' w_neS ?_)
  | (with_reducible refine' w_eqS ?_)
  | (with_reducible refine' w_neSb ?_)
  | (with_reducible refine' w_eqSb ?_)
  | (with_reducible refine' w_deIS ?_)
  | (with_reducible refine' w_deSI ?_)
  | (with_reducible refine' w_deISn ?_)
  | ((with_reducible refine' w_deST ?he ?_); (case he => decide +kernel))
  | ((with_reducible refine' w_deSF ?he ?_); (case he => decide +kernel))
  | ((with_reducible refine' w_deSTn ?he ?_); (case he => decide +kernel))
  | ((with_reducible refine' w_deSFn ?he ?_); (case he => decide +kernel))
  | (with_reducible refine' w_nF ?_)
  | dsimp only [Bool.not_true, Bool.not_false])
local macro_rules | `(tactic| walk_at "ty") => `(tactic| first
  | exact .base (.int _) | exact .base (.str _) | exact .base (.bl _) | exact .base .non
  | ((refine' tyx_t ?hq); (case hq => walk_at "hp")) | ((refine' tyx_l ?hq); (case hq => walk_at "hp")) | ((refine' .base (.tup ?hq)); (case hq => walk_at "hp")) | assumption)
local macro_rules | `(tactic| walk_at "go") => `(tactic| repeat walk_at "go1")
local macro_rules | `(tactic| walk_at "st") => `(tactic| try dsimp only [cxOf, Cx.nox, Cx.wish])
local macro_rules | `(tactic| walk_at "kit") => `(tactic| with_reducible first | exact kit_int_int | exact kit_int_str | exact kit_int_bool | exact kit_int_tuple | exact kit_int_list | exact kit_str_int | exact kit_str_str | exact kit_str_bool | exact kit_str_tuple | exact kit_str_list | exact kit_bool_int | exact kit_bool_str | exact kit_bool_bool | exact kit_bool_tuple | exact kit_bool_list | exact kit_NoneType_int | exact kit_NoneType_str | exact kit_NoneType_bool | exact kit_NoneType_tuple | exact kit_NoneType_list | exact kit_list_int | exact kit_list_str | exact kit_list_bool | exact kit_list_tuple | exact kit_list_list | exact kit_tuple_int | exact kit_tuple_str | exact kit_tuple_bool | exact kit_tuple_tuple | exact kit_tuple_list)
local macro_rules | `(tactic| walk_at "nd") => `(tactic| first
  | assumption
  | exact Tm.nds _
  | exact Nds.nil
  | exact Nds.ofInts _
  | ((refine' Nds.cons ?na ?nb); (case na => first | exact Nds.I _ | exact Nds.L | exact Nds.A); (case nb => walk_at "nd"))
  | ((refine' Nds.app ?na ?nb); (case na => walk_at "nd"); (case nb => walk_at "nd"))
  | ((refine' Nds.rep ?na _); (case na => walk_at "nd")))
local macro_rules | `(tactic| walk_at "len") => `(tactic| first
  | exact ly_sz (by omega)
  | ((simp only [List.length_append, List.length_cons, List.length_nil, List.length_map, PyProof.Rows.lm_len_rep_flat]); exact ly_sz (by omega)))
local macro_rules | `(tactic| walk_at "go1") => `(tactic| first
  | (with_reducible refine' w_kget2 ?_)
  | (with_reducible refine' w_isRN ?_)
  | (with_reducible refine' w_isNN ?_)
  | (with_reducible refine' w_isIN ?_)
  | ((with_reducible refine' w_kg ?hd ?_); (case hd => assumption)))
local macro_rules | `(tactic| walk_at "go1") => `(tactic| first
  | ((with_reducible refine' w_extT ?hh ?hh2 ?hz ?_); (case hh => walk_at "hp"); (case hh2 => walk_at "hp"))
  | ((with_reducible refine' w_I ?hc ?_); (case hc => exact ⟨by decide, by decide, by decide⟩))
  | (with_reducible refine' w_sl ?_)
  | (with_reducible refine' w_noP ?_)
  | (with_reducible refine' w_part ?_)
  | (with_reducible refine' w_part1 ?_)
  | ((with_reducible refine' w_lenZ ?hz ?_); (case hz => omega))
  | ((with_reducible refine' w_addZb ?hz ?_); (case hz => omega))
  | ((with_reducible refine' w_addZf ?hz ?_); (case hz => omega))
  | ((with_reducible refine' w_addZa ?hz ?_); (case hz => omega))
  | ((with_reducible refine' w_inS ?hh ?_); (case hh => walk_at "hp"))
  | ((with_reducible refine' w_ixT ?hh ?ha ?_); (case hh => assumption); (case ha => exact atI_nat (by assumption))))
section
variable {P : Program} {w : World} {K : PySem.W.Frag} {mg : Str → Option Value} {base : Heap} {tk : Nat → Tok} {cl : Nat → Addr}
theorem w_brM {z : Int} {ms : List Int} {A B : Prop} (h1 : ¬ z ∈ ms → A) (h2 : z ∈ ms → B) : if (!decide (z ∈ ms)) = true then A else B := by
  by_cases e : z ∈ ms
  · rw [decide_eq_true e]
    exact iteF (h2 e)
  · rw [decide_eq_false e]
    exact iteT (h1 e)
/-- the free variables, as an ascending list -/
def Asc (t : Tm) (ns : List Int) : Prop := ns.Pairwise (· < ·) ∧ ∀ z, z ∈ ns ↔ ∃ j : Nat, z = j ∧ t.fr 0 j
theorem Asc.one {t : Tm} {ns ms : List Int} (h : Asc t ns) (k : Asc t ms) : ns = ms := sorted_one h.1 k.1 fun z => (h.2 z).trans (k.2 z).symm
def spFree (K : PySem.W.Frag) : Sp := fun vs H Q _ => ∃ (a : Addr) (t : Tm) (M : Nat), vs = [.ref a] ∧ SqT K H a t.enc ∧ t.enc.length ≤ 2000000 ∧ M ≤ 60 ∧ t.wf M ∧
  ∀ (H' : Hp) (p : Addr) (ns : List Int), Ex H H' → H p = none → H' p = some (.lst (ns.map V.int)) → Asc t ns → Q (.ref p) H'
theorem ok_free {f : Addr} {fd : FuncData} (F : Fun K "free" "free" s_free f fd) (T : Txt w K mg tk cl)
    (D1 : Def P w K mg base CX0 1 "depths" ["term"] (spDepths K)) (D2 : Def P w K mg base CX0 1 "stands_free" ["node", "depth"] spFree1) : FnOk P w K mg base CX0 2 f fd ["term"] (spFree K) := by
  obtain ⟨f1, fd1, g_depths, kp_depths, b_depths, G_depths⟩ := D1
  obtain ⟨f2, fd2, g_stands_free, kp_stands_free, b_stands_free, G_stands_free⟩ := D2
  refine F.ok sc_free (fun vs H Q E h => ?_) (fun cdv A outer s H vs Q E hr h => ?_)
  · obtain ⟨a, t, M, rfl, _⟩ := h
    rfl
  · obtain ⟨a, t, M, rfl, hS, hlen, hM, hwf, q⟩ := h
    refine ⟨_, (pss_cons (ps_set (i := 1) sc_free.nd rfl (.inl rfl) (pe_callTy0 cr_set0 (by rfl) T.n_set (by decide +kernel))) (pss_cons (ps_for PassesOwn.never rfl (pi_zipM (by rfl) T.n_zip (pa_cons (pv 0) (pa_cons (pe_call G_depths (hr.mono (by first | decide | omega)) (by rfl) g_depths kp_depths b_depths .nil pass0 (pa_cons (pv 0) pa_nil)) pa_nil))) (pg_tup (by rfl) (pgs_cons (pg_name (i := 2) sc_free.nd rfl (.inl rfl)) (pgs_cons (pg_name (i := 3) sc_free.nd rfl (.inl rfl)) pgs_nil))) (pss_one (ps_if (pt_val (pe_call G_stands_free (hr.mono (by first | decide | omega)) (by rfl) g_stands_free kp_stands_free b_stands_free .nil pass0 (pa_cons (pv 2) (pa_cons (pv 3) pa_nil)))) (pss_one (ps_expr (pe_sadd (pv 1) (pa_cons (pe_op op_sub (pv 2) (pv 3)) pa_nil)))) pss_nil))) (pss_one (ps_ret (pe_callB (cr_sortedSet rfl) (by rfl) T.n_sorted (by decide +kernel) (pa_cons (pv 1) pa_nil)))))), ?_⟩
    refine sl_of (σ2 := [some _, none, none, none]) rfl ?_
    walk_at "st"
    have part : ∀ (j : Int) (i : Nat), j ∈ ((List.zipWith frv t.enc (t.deps 0)).take i).flatten → j ∈ (List.zipWith frv t.enc (t.deps 0)).flatten := fun j i hj => by
      obtain ⟨l, h1, h2⟩ := List.mem_flatten.mp hj
      exact List.mem_flatten.mpr ⟨l, List.mem_of_mem_take h1, h2⟩
    have small : ∀ j : Int, j ∈ (List.zipWith frv t.enc (t.deps 0)).flatten → 0 ≤ j ∧ j < M := fun j hj => by
      obtain ⟨i, e, h⟩ := (Tm.frs_fr t 0 j).mp hj
      have := Tm.fr_wf (d := 0) (M := M) (by rw [Nat.zero_add]; exact hwf) h
      omega
    walk_at "go"
    refine ⟨rfl, fun sl hsl => ?_⟩
    walk_at "go"
    refine ⟨a, t, rfl, by walk_at "hp", by omega, fun H1 dl e1 hdl hdn => ?_⟩
    walk_at "go"
    have hdl0 : H dl = none := fresh_back (Ex.new hsl) hdl
    have hds : dl ≠ sl := (ne_of_none upd_same hdl).symm
    have hs1 : H1 sl = some (SetO w sl (fun _ => false) 0) := by walk_at "hp"
    have eH1 : Ex H H1 := by walk_at "ex"
    refine for_zipC (xs := t.enc) (ys := nums (t.deps 0)) (n := t.enc.length) (by simp [Tm.deps_len]) (fun i σ H' => ∃ S n y1 y2, σ = [some (.ref a), some (.ref sl), y1, y2] ∧ Ex H H' ∧ H' dl = some (.lst (nums (t.deps 0))) ∧ H' sl = some (SetO w sl S n) ∧ (∃ ks : List Int, ks.Nodup ∧ ks.length = n ∧ ∀ j, S j = true ↔ j ∈ ks) ∧
        ∀ j, S j = true ↔ j ∈ ((List.zipWith frv t.enc (t.deps 0)).take i).flatten)
      ⟨fun _ => false, 0, none, none, rfl, eH1, hdn, hs1, ⟨[], List.nodup_nil, rfl, by simp⟩, by simp⟩ (fun i σ H' ⟨S, n, y1, y2, _, e, hd, _⟩ => ⟨ex_t e hS, SqL.of hd⟩) ?_ ?_
    · rintro i x y T1 σ H2 hx hy ⟨S, n, y1, y2, rfl, e2, hd2, hs2, ⟨ks, hnd, hkl, hks⟩, hS2⟩ hT1
      obtain ⟨d, hd, rfl⟩ := nums_at hy
      have hn : n ≤ 60 := by
        rw [← hkl]
        exact Nat.le_trans (nodup_le M hnd fun j hj => small j (part j i ((hS2 j).mp ((hks j).mpr hj)))) hM
      have hil : i < t.enc.length := (List.getElem?_eq_some_iff.mp hx).1
      have hT1s : T1 ≠ sl := (ne_of_none hs2 hT1).symm
      have hT1d : T1 ≠ dl := (ne_of_none hd2 hT1).symm
      have tk1 := zip_take (f := frv) hx hd
      have xn := Tm.int_nat (List.mem_of_getElem? hx)
      walk_at "go"
      refine ⟨x, d, rfl, (by rcases xn with ⟨m, e⟩ | e | e; exact .inl ⟨_, e⟩; exact .inr ⟨_, e⟩; exact .inr ⟨_, e⟩), ?_⟩
      have keep : freeV x d = false → ∀ j, S j = true ↔ j ∈ ((List.zipWith frv t.enc (t.deps 0)).take (i + 1)).flatten := fun hf j => by
        rw [tk1, List.flatten_append, hS2 j]
        have e0 : frv x d = [] := by
          rcases xn with ⟨m, rfl⟩ | rfl | rfl
          · simp [freeV] at hf
            simp [frv]
            omega
          · rfl
          · rfl
        rw [e0]
        simp
      cases hf : freeV x d with
      | false =>
        walk_at "go"
        exact ⟨S, n, _, _, rfl, by walk_at "ex", by walk_at "hp", by walk_at "hp", ⟨ks, hnd, hkl, hks⟩, keep hf⟩
      | true =>
        obtain ⟨m, rfl⟩ : ∃ m : Nat, x = .int m := by
          rcases xn with h | rfl | rfl
          · exact h
          · cases hf
          · cases hf
        have hle : (d : Int) ≤ m := by simpa [freeV] using hf
        have e1 : frv (.int m) d = [(m : Int) - d] := by simp [frv]; omega
        walk_at "go"
        have hmem : ∀ j, (S j || decide (j = (m : Int) - d)) = true ↔ j ∈ ((List.zipWith frv t.enc (t.deps 0)).take (i + 1)).flatten := fun j => by
          rw [tk1, List.flatten_append, List.mem_append, ← hS2 j, e1]
          simp
        refine ⟨_, _, _, _, rfl, by walk_at "ex", by walk_at "hp", upd_same, ?_, hmem⟩
        cases hS3 : S ((m : Int) - d) with
        | true => exact ⟨ks, hnd, by rw [if_pos rfl]; exact hkl, fun j => by
            rw [← hks j]
            by_cases e : j = (m : Int) - d
            · rw [e, hS3]
              simp
            · simp [e]⟩
        | false => exact ⟨((m : Int) - d) :: ks, List.nodup_cons.mpr ⟨fun z => (by rw [(hks _).mpr z] at hS3; cases hS3), hnd⟩, by rw [if_neg (by simp)]; simp [hkl], fun j => by
            rw [List.mem_cons, ← hks j]
            simp [or_comm]⟩
    · rintro σ H2 ⟨S, n, y1, y2, rfl, e2, hd2, hs2, ⟨ks, hnd, hkl, hks⟩, hS2⟩
      walk_at "go"
      have all : (List.zipWith frv t.enc (t.deps 0)).take t.enc.length = List.zipWith frv t.enc (t.deps 0) := List.take_of_length_le (by simp [Tm.deps_len])
      rw [all] at hS2
      have hn : n ≤ 60 := by
        rw [← hkl]
        exact Nat.le_trans (nodup_le M hnd fun j hj => small j ((hS2 j).mp ((hks j).mpr hj))) hM
      refine ⟨sl, S, n, rfl, hs2, by omega, fun ns p hp hm hl hpn => ?_⟩
      refine q _ p ns ?_ ?_ upd_same ⟨hp, fun j => ((hm j).trans (hS2 j)).trans (Tm.frs_fr t 0 j)⟩
      · walk_at "ex"
      · exact fresh_back e2 hpn
end
end Ly
set_option Elab.async false
set_option linter.all false
set_option maxRecDepth 100000
set_option maxHeartbeats 8000000
namespace Ly
open PySem PySem.Spec PyProof.Rows L2 Evl
local macro_rules | `(tactic| walk_at "ne") => `(tactic| first
  | assumption
  | ((refine' Ne.symm ?hq); (case hq => assumption))
  | ((refine' ne_of_none ?nh1 ?nh2); (case nh2 => assumption); (case nh1 => walk_at "hp"))
  | ((refine' Ne.symm (ne_of_none ?nh1 ?nh2)); (case nh2 => assumption); (case nh1 => walk_at "hp")))
local macro_rules | `(tactic| walk_at "hp") => `(tactic| first
  | assumption
  | exact upd_same
  | ((refine' SqL.of ?hq); (case hq => walk_at "hp"))
  | ((refine' SqT.of ?hq); (case hq => walk_at "hp"))
  | ((refine' (upd_ne ?hne).trans ?hrest); (case hne => walk_at "ne"); (case hrest => walk_at "hp"))
  | ((refine' ly_at ?hex ?hh); (case hex => assumption); (case hh => walk_at "hp"))
  | ((refine' ly_atF ?hex ?hnn ?hh); (case hex => assumption); (case hh => walk_at "hp"); (case hnn => walk_at "ne"))
  | ((refine' ex_t ?hex ?hh); (case hh => assumption); (case hex => walk_at "ex"))
  | ((refine' ex_l ?hex ?hh); (case hh => assumption); (case hex => walk_at "ex")))
local macro_rules | `(tactic| walk_at "ex") => `(tactic| first
  | assumption
  | exact Ex.refl _
  | ((refine' ex_new ?xa ?xb); (case xb => assumption); (case xa => walk_at "ex"))
  | ((refine' ex_upd ?xa ?xb); (case xb => walk_at "free"); (case xa => walk_at "ex"))
  | ((refine' Ex.trans ?xa ?xb); (case xb => assumption); (case xa => walk_at "ex")))
local macro_rules | `(tactic| walk_at "free") => `(tactic| first
  | assumption
  | ((refine' fresh_back ?xa ?xb); (case xb => assumption); (case xa => walk_at "ex")))
local macro_rules | `(tactic| walk_at "fr") => `(tactic| first
  | assumption
  | exact Fr.refl _ _
  | ((refine' Fr.own ?hq); (case hq => walk_at "fr"))
  | ((refine' Fr.new ?xa ?xb); (case xb => assumption); (case xa => walk_at "fr"))
  | ((refine' Fr.mut ?xa ?xb); (case xb => assumption); (case xa => walk_at "fr"))
  | ((refine' Fr.trans ?xa ?xb); (case xb => assumption); (case xa => walk_at "fr"))
  | ((refine' Fr.trans ?xa (Fr.ex ?xb)); (case xb => assumption); (case xa => walk_at "fr")))
local macro_rules | `(tactic| walk_at "go1") => `(tactic| first
  | (with_reducible refine' w_seq ?_)
  | (with_reducible refine' w_asg ?_)
  | (with_reducible refine' w_ret ?_)
  | (with_reducible refine' w_drop ?_)
  | (with_reducible refine' w_if ?_)
  | (with_reducible refine' w_next ?_)
  | (with_reducible refine' w_name ?_)
  | (with_reducible refine' w_sub ?_)
  | ((with_reducible refine' w_var ?hv ?_); (case hv => exact rfl))
  | (with_reducible refine' w_c ?_)
  | (with_reducible refine' w_op ?_)
  | (with_reducible refine' w_un ?_)
  | (with_reducible refine' w_ch ?_)
  | (with_reducible refine' w_I0 ?_)
  | ((with_reducible refine' w_I ?hc ?_); (case hc => first | (exact ly_mulL (by decide) (by decide)) | (exact ly_mulR (by decide) (by decide)) | (exact ly_mulL (by omega) (by omega)) | (show (_ : Int) ≠ 0; decide) | (show (_ : Int) ≠ 0; omega) | (exact ⟨by decide, by decide⟩) | (exact ⟨by omega, by omega⟩)))
  | (with_reducible refine' w_U ?_)
  | ((with_reducible refine' w_eq ?hs ?_); (case hs => exact rfl))
  | ((with_reducible refine' w_ne ?hs ?_); (case hs => exact rfl))
  | (with_reducible refine' w_isB ?_)
  | (with_reducible refine' w_notB ?_)
  | (with_reducible refine' w_nil ?_)
  | (with_reducible refine' w_cons ?_)
  | (with_reducible refine' w_tup ?_)
  | (with_reducible refine' w_lst ?_)
  | (with_reducible refine' w_cb ?_)
  | (with_reducible refine' w_call ?_)
  | (with_reducible refine' w_bm ?_)
  | (with_reducible refine' w_bm0 ?_)
  | ((with_reducible refine' w_app ?hh ?hz ?_); (case hh => walk_at "hp"); (case hz => first | exact ly_lt (by omega) | exact ly_lt (by simp only [List.length_append, List.length_map, List.length_cons, List.length_nil]; omega)))
  | ((with_reducible refine' w_popA ?hh ?_); (case hh => walk_at "hp"))
  | ((with_reducible refine' w_ext ?hh ?hh2 ?hz ?_); (case hh => walk_at "hp"); (case hh2 => walk_at "hp"))
  | ((with_reducible refine' w_ixL ?hh ?ha ?_); (case hh => walk_at "hp"); (case ha => first | exact rfl | exact at_map (by omega) | exact atI_last _ _ | ((refine' at_of ?ae ?ah); (case ah => assumption); (case ae => omega))))
  | ((with_reducible refine' w_ixT ?hh ?ha ?_); (case hh => walk_at "hp"); (case ha => first | exact rfl | exact at_map (by omega) | exact atI_last _ _ | ((refine' at_of ?ae ?ah); (case ah => assumption); (case ae => omega))))
  | ((with_reducible refine' w_cat ?hh ?hh2 ?hz ?_); (case hh => walk_at "hp"); (case hh2 => walk_at "hp"))
  | ((with_reducible refine' w_setL ?hh ?ha ?_); (case hh => walk_at "hp"); (case ha => exact rfl))
  | (with_reducible refine' w_test ?_)
  | (with_reducible refine' w_tB ?_)
  | (with_reducible refine' w_bl ?_)
  | (with_reducible refine' w_and ?_)
  | (with_reducible refine' w_or ?_)
  | (with_reducible refine' w_not ?_)
  | (with_reducible refine' w_andV ?_)
  | (with_reducible refine' w_orV ?_)
  | (with_reducible refine' w_notV ?_)
  | (with_reducible refine' w_ifE ?_)
  | (with_reducible refine' w_for ?_)
  | ((with_reducible refine' w_nin ?hh ?_); (case hh => walk_at "hp"))
  | ((with_reducible refine' w_sorted ?hh ?_); (case hh => walk_at "hp"))
  | (with_reducible refine' w_tsadd ?_)
  | ((with_reducible refine' w_tsadd1 ?hh ?_); (case hh => walk_at "hp"))
  | ((with_reducible refine' w_sadd ?hh ?hr ?_); (case hh => walk_at "hp"); (case hr => omega))
  | (with_reducible refine' w_iZ ?_)
  | ((with_reducible refine' w_iZ1 ?hh ?hh2 ?_); (case hh => walk_at "hp"); (case hh2 => walk_at "hp"))
  | (with_reducible refine' w_iS ?_)
  | (with_reducible refine' w_iS1 ?_)
  | ((with_reducible refine' w_gtup ?hh ?hn ?_); (case hh => walk_at "hp"); (case hn => exact rfl))
  | (with_reducible refine' w_gcons ?_)
  | (with_reducible refine' w_gnil ?_)
  | (with_reducible refine' w_js ?_)
  | (with_reducible refine' w_jsn ?_)
  | ((with_reducible refine' w_js1 ?hl ?_); (case hl => decide +kernel))
  | (with_reducible refine' w_fmt ?_)
  | ((with_reducible refine' w_fmt1 ?hl ?_); (case hl => decide +kernel))
  | (with_reducible refine' w_callS ?_)
  | ((with_reducible refine' w_truL ?hh ?_); (case hh => walk_at "hp"))
  | (with_reducible refine' w_lc ?_)
  | (with_reducible refine' w_yes ?_)
  | ((with_reducible refine' w_wipe ?he ?_); (case he => exact rfl))
  | (with_reducible refine' w_iL ?_)
  | (with_reducible refine' w_iT ?_)
  | (with_reducible refine' w_iR ?_)
  | ((with_reducible refine' w_iL1 ?hh ?_); (case hh => walk_at "hp"))
  | ((with_reducible refine' w_iT1 ?hh ?_); (case hh => walk_at "hp"))
  | ((with_reducible refine' w_iR1 ?h1 ?h2 ?_); (case h1 => omega); (case h2 => omega))
  | ((with_reducible refine' w_aug ?hv ?_); (case hv => exact rfl))
  | (with_reducible refine' w_ipI ?_)
  | ((with_reducible refine' w_isi ?hy ?hk ?_); (case hy => walk_at "ty"); (case hk => walk_at "kit"))
  | ((with_reducible refine' w_int ?_))
  | ((with_reducible refine' w_intB ?_))
  | ((with_reducible refine' w_abs ?_))
  | ((with_reducible refine' w_lenL ?hh ?_); (case hh => walk_at "hp"))
  | ((with_reducible refine' w_lenT ?hh ?_); (case hh => walk_at "hp"))
  | ((with_reducible refine' w_tupL ?hh ?_); (case hh => walk_at "hp"))
  | ((with_reducible refine' w_tupT ?hh ?_); (case hh => walk_at "hp"))
  | ((with_reducible refine' w_catA ?hh ?hh2 ?hz ?_); (case hh => walk_at "hp"); (case hh2 => walk_at "hp"); (case hz => walk_at "len"))
  | ((with_reducible refine' w_repB ?hh ?hne ?h2 ?h3 ?hz ?_); (case hh => walk_at "hp"); (case hne => simp); (case h2 => omega); (case h3 => omega); (case hz => exact Nat.le_of_ble_eq_true rfl))
  | ((with_reducible refine' w_eqN ?hh ?hh2 ?n1 ?n2 ?_); (case hh => walk_at "hp"); (case hh2 => walk_at "hp"); (case n1 => walk_at "nd"); (case n2 => walk_at "nd"))
  | ((with_reducible refine' w_neN ?hh ?hh2 ?n1 ?n2 ?_); (case hh => walk_at "hp"); (case hh2 => walk_at "hp"); (case n1 => walk_at "nd"); (case n2 => walk_at "nd"))
  | ((with_reducible refine' w_eqL ?hh ?hh2 ?n1 ?n2 ?_); (case hh => walk_at "hp"); (case hh2 => walk_at "hp"); (case n1 => walk_at "nd"); (case n2 => walk_at "nd"))
  | ((with_reducible refine' w_neL ?hh ?hh2 ?n1 ?n2 ?_); (case hh => walk_at "hp"); (case hh2 => walk_at "hp"); (case n1 => walk_at "nd"); (case n2 => walk_at "nd"))
  | ((with_reducible refine' w_neNon ?hh2 ?n2 ?_); (case hh2 => walk_at "hp"); (case n2 => walk_at "nd"))
  | ((with_reducible refine' w_eqNon ?hh2 ?n2 ?_); (case hh2 => walk_at "hp"); (case n2 => walk_at "nd"))
  | ((with_reducible refine' w_slA ?hh ?_); (case hh => walk_at "hp"))
  | ((with_reducible refine' w_disp ?hz ?_); (case hz => exact sz_of (Nat.le_of_ble_eq_true rfl)))
  | ((with_reducible refine' w_tyL ?hh ?_); (case hh => walk_at "hp"))
  | (with_reducible refine' iteT ?_)
  | (with_reducible refine' iteF ?_)
  | (with_reducible refine' w_nT ?_)
  | (with_reducible refine' w_nn ?_)
  | (with_reducible refine' w_nnT ?_)
  | (with_reducible refine' w_nnR ?_)
  | (with_reducible refine' w_neG ?_)
  | (with_reducible refine' w_eqG ?_)
  | (with_reducible refine' w_neS ?_)
  | (with_reducible refine' w_eqS ?_)
  | (with_reducible refine' w_neSb ?_)
  | (with_reducible refine' w_eqSb ?_)
  | (with_reducible refine' w_deIS ?_)
  | (with_reducible refine' w_deSI ?_)
  | (with_reducible refine' w_deISn ?_)
  | ((with_reducible refine' w_deST ?he ?_); (case he => decide +kernel))
  | ((with_reducible refine' w_deSF ?he ?_); (case he => decide +kernel))
  | ((with_reducible refine' w_deSTn ?he ?_); (case he => decide +kernel))
  | ((with_reducible refine' w_deSFn ?he ?_); (case he => decide +kernel))
  | (with_reducible refine' w_nF ?_)
  | dsimp only [Bool.not_true, Bool.not_false])
local macro_rules | `(tactic| walk_at "ty") => `(tactic| first
  | exact .base (.int _) | exact .base (.str _) | exact .base (.bl _) | exact .base .non
  | ((refine' tyx_t ?hq); (case hq => walk_at "hp")) | ((refine' tyx_l ?hq); (case hq => walk_at "hp")) | ((refine' .base (.tup ?hq)); (case hq => walk_at "hp")) | assumption)
local macro_rules | `(tactic| walk_at "go") => `(tactic| repeat walk_at "go1")
local macro_rules | `(tactic| walk_at "st") => `(tactic| try dsimp only [cxOf, Cx.nox, Cx.wish])
local macro_rules | `(tactic| walk_at "kit") => `(tactic| with_reducible first | exact kit_int_int | exact kit_int_str | exact kit_int_bool | exact kit_int_tuple | exact kit_int_list | exact kit_str_int | exact kit_str_str | exact kit_str_bool | exact kit_str_tuple | exact kit_str_list | exact kit_bool_int | exact kit_bool_str | exact kit_bool_bool | exact kit_bool_tuple | exact kit_bool_list | exact kit_NoneType_int | exact kit_NoneType_str | exact kit_NoneType_bool | exact kit_NoneType_tuple | exact kit_NoneType_list | exact kit_list_int | exact kit_list_str | exact kit_list_bool | exact kit_list_tuple | exact kit_list_list | exact kit_tuple_int | exact kit_tuple_str | exact kit_tuple_bool | exact kit_tuple_tuple | exact kit_tuple_list)
local macro_rules | `(tactic| walk_at "nd") => `(tactic| first
  | assumption
  | exact Tm.nds _
  | exact Nds.nil
  | exact Nds.ofInts _
  | ((refine' Nds.cons ?na ?nb); (case na => first | exact Nds.I _ | exact Nds.L | exact Nds.A); (case nb => walk_at "nd"))
  | ((refine' Nds.app ?na ?nb); (case na => walk_at "nd"); (case nb => walk_at "nd"))
  | ((refine' Nds.rep ?na _); (case na => walk_at "nd")))
local macro_rules | `(tactic| walk_at "len") => `(tactic| first
  | exact ly_sz (by omega)
  | ((simp only [List.length_append, List.length_cons, List.length_nil, List.length_map, PyProof.Rows.lm_len_rep_flat]); exact ly_sz (by omega)))
local macro_rules | `(tactic| walk_at "go1") => `(tactic| first
  | (with_reducible refine' w_kget2 ?_)
  | (with_reducible refine' w_isRN ?_)
  | (with_reducible refine' w_isNN ?_)
  | (with_reducible refine' w_isIN ?_)
  | ((with_reducible refine' w_kg ?hd ?_); (case hd => assumption)))
local macro_rules | `(tactic| walk_at "go1") => `(tactic| first
  | ((with_reducible refine' w_extT ?hh ?hh2 ?hz ?_); (case hh => walk_at "hp"); (case hh2 => walk_at "hp"))
  | ((with_reducible refine' w_I ?hc ?_); (case hc => exact ⟨by decide, by decide, by decide⟩))
  | (with_reducible refine' w_sl ?_)
  | (with_reducible refine' w_noP ?_)
  | (with_reducible refine' w_part ?_)
  | (with_reducible refine' w_part1 ?_)
  | (with_reducible refine' w_it ?_)
  | (with_reducible refine' w_it1 ?_)
  | ((with_reducible refine' w_lenZ ?hz ?_); (case hz => omega))
  | ((with_reducible refine' w_addZb ?hz ?_); (case hz => omega))
  | ((with_reducible refine' w_addZf ?hz ?_); (case hz => omega))
  | ((with_reducible refine' w_addZa ?hz ?_); (case hz => omega))
  | ((with_reducible refine' w_inS ?hh ?_); (case hh => walk_at "hp"))
  | ((with_reducible refine' w_ixT ?hh ?ha ?_); (case hh => assumption); (case ha => exact atI_nat (by assumption))))
local macro_rules | `(tactic| walk_at "go1") => `(tactic| first
  | (with_reducible refine' w_it ?_)
  | (with_reducible refine' w_it1 ?_)
  | ((with_reducible refine' w_ixT ?hh ?ha ?_); (case hh => walk_at "hp"); (case ha => exact atI_nat (by assumption)))
  | ((with_reducible refine' w_ixL ?hh ?ha ?_); (case hh => walk_at "hp"); (case ha => exact atI_nat (by assumption))))
section
variable {P : Program} {w : World} {K : PySem.W.Frag} {mg : Str → Option Value} {base : Heap} {tk : Nat → Tok} {cl : Nat → Addr}
def spPart (K : PySem.W.Frag) (C2 : Addr) : Sp := fun vs H Q E => ∃ (a : Addr) (t : Tm) (p : List Nat), vs = [.ref a, .str (pl p)] ∧ SqT K H a t.enc ∧ t.enc.length ≤ 90000 ∧ p.length ≤ 90000 ∧
  (t.sub p = none → E (.ref C2) none H) ∧ ∀ i u, t.sub p = some (i, u) → fitsV u.enc = true ∧ ∀ r H', Ex H H' → SqT K H' r u.enc → Q (.ref r) H'
theorem ok_part {f : Addr} {fd : FuncData} (F : Fun K "part" "part" s_part f fd) (T : Txt w K mg tk cl)
    (D1 : Def P w K mg base CX0 2 "end_of" ["term", "start"] (spEnd K)) (D2 : Def P w K mg base (L2.CX P w) 3 "start_of" ["term", "place"] (spStart K (cl 3))) (D3 : Def P w K mg base (L2.CX P w) 2 "checked" ["term"] (spChecked K (cl 1))) : FnOk P w K mg base (L2.CX P w) 4 f fd ["term", "place"] (spPart K (cl 3)) := by
  obtain ⟨f1, fd1, g_end_of, kp_end_of, b_end_of, G_end_of⟩ := D1
  obtain ⟨f2, fd2, g_start_of, kp_start_of, b_start_of, G_start_of⟩ := D2
  obtain ⟨f3, fd3, g_checked, kp_checked, b_checked, G_checked⟩ := D3
  refine F.okX sc_part (fun vs H Q E h => ?_) (fun cdv A outer s H vs Q E hr h => ?_)
  · obtain ⟨a, t, p, rfl, _⟩ := h
    rfl
  · obtain ⟨a, t, p, rfl, hS, hlen, hpl, hnone, hsome⟩ := h
    refine ⟨_, (pss_cons (ps_set (i := 2) sc_part.nd rfl (.inl rfl) (pe_call G_start_of (hr.mono (by first | decide | omega)) (by rfl) g_start_of kp_start_of b_start_of .nil (passes_call (takes_of rfl rfl rfl rfl) (fun _ _ _ _ h => h)) (pa_cons (pv 0) (pa_cons (pv 1) pa_nil)))) (pss_one (ps_ret (pe_call G_checked (hr.mono (by first | decide | omega)) (by rfl) g_checked kp_checked b_checked .nil (passes_call (takes_of rfl rfl rfl rfl) (fun _ _ _ _ h => h)) (pa_cons (pe_slice sl_tupA (pv 0) (po_some (pv 2)) (po_some (pe_call G_end_of (hr.mono (by first | decide | omega)) (by rfl) g_end_of kp_end_of b_end_of .nil pass0 (pa_cons (pv 0) (pa_cons (pv 2) pa_nil))))) pa_nil))))), ?_⟩
    refine sl_of (σ2 := [some _, some _, none]) rfl ?_
    walk_at "st"
    walk_at "go"
    refine ⟨a, t, p, rfl, hS, by omega, by omega, fun i u hsub => ?_, fun hsub => hnone hsub⟩
    obtain ⟨hfit, q⟩ := hsome i u hsub
    obtain ⟨⟨post, hdr⟩, _⟩ := Tm.sub_at t p [] hsub
    walk_at "go"
    refine ⟨a, t.enc, i, u, post, rfl, hS, hdr, by omega, ?_⟩
    walk_at "go"
    intro r1 H1 e1 hr1
    rw [cut_mid hdr] at hr1
    walk_at "go"
    exact ⟨r1, _, rfl, hr1, u.flat, fun _ => q r1 H1 e1 hr1, fun h => by rw [hfit] at h; cases h⟩
def spRepl (K : PySem.W.Frag) (C1 C2 : Addr) : Sp := fun vs H Q E => ∃ (a b : Addr) (t v : Tm) (p : List Nat), vs = [.ref a, .str (pl p), .ref b] ∧ SqT K H a t.enc ∧ SqT K H b v.enc ∧ t.enc.length ≤ 10000 ∧ v.enc.length ≤ 10000 ∧ p.length ≤ 90000 ∧
  (t.sub p = none → E (.ref C2) none H) ∧ ∀ i u, t.sub p = some (i, u) → (fitsV (dueV t v i u) = true → ∀ r H', Ex H H' → SqT K H' r (dueV t v i u) → Q (.ref r) H') ∧ (fitsV (dueV t v i u) = false → ∀ H', Ex H H' → E (.ref C1) none H')
theorem ok_replace {f : Addr} {fd : FuncData} (F : Fun K "replace" "replace" s_replace f fd) (T : Txt w K mg tk cl)
    (D1 : Def P w K mg base CX0 2 "end_of" ["term", "start"] (spEnd K)) (D2 : Def P w K mg base (L2.CX P w) 3 "start_of" ["term", "place"] (spStart K (cl 3))) (D3 : Def P w K mg base (L2.CX P w) 2 "checked" ["term"] (spChecked K (cl 1))) : FnOk P w K mg base (L2.CX P w) 4 f fd ["term", "place", "value"] (spRepl K (cl 1) (cl 3)) := by
  obtain ⟨f1, fd1, g_end_of, kp_end_of, b_end_of, G_end_of⟩ := D1
  obtain ⟨f2, fd2, g_start_of, kp_start_of, b_start_of, G_start_of⟩ := D2
  obtain ⟨f3, fd3, g_checked, kp_checked, b_checked, G_checked⟩ := D3
  refine F.okX sc_replace (fun vs H Q E h => ?_) (fun cdv A outer s H vs Q E hr h => ?_)
  · obtain ⟨a, b, t, v, p, rfl, _⟩ := h
    rfl
  · obtain ⟨a, b, t, v, p, rfl, hS, hV, hlen, hvl, hpl, hnone, hsome⟩ := h
    refine ⟨_, (pss_cons (ps_set (i := 3) sc_replace.nd rfl (.inl rfl) (pe_call G_start_of (hr.mono (by first | decide | omega)) (by rfl) g_start_of kp_start_of b_start_of .nil (passes_call (takes_of rfl rfl rfl rfl) (fun _ _ _ _ h => h)) (pa_cons (pv 0) (pa_cons (pv 1) pa_nil)))) (pss_cons (ps_set (i := 4) sc_replace.nd rfl (.inl rfl) (pe_call G_end_of (hr.mono (by first | decide | omega)) (by rfl) g_end_of kp_end_of b_end_of .nil pass0 (pa_cons (pv 0) (pa_cons (pv 3) pa_nil)))) (pss_one (ps_ret (pe_call G_checked (hr.mono (by first | decide | omega)) (by rfl) g_checked kp_checked b_checked .nil (passes_call (takes_of rfl rfl rfl rfl) (fun _ _ _ _ h => h)) (pa_cons (pe_op op_catA (pe_op op_catA (pe_slice sl_tupA (pv 0) po_none (po_some (pv 3))) (pv 2)) (pe_slice sl_tupA (pv 0) (po_some (pv 4)) po_none)) pa_nil)))))), ?_⟩
    refine sl_of (σ2 := [some _, some _, some _, none, none]) rfl ?_
    walk_at "st"
    walk_at "go"
    refine ⟨a, t, p, rfl, hS, by omega, by omega, fun i u hsub => ?_, fun hsub => hnone hsub⟩
    obtain ⟨q, x⟩ := hsome i u hsub
    obtain ⟨⟨post, hdr⟩, _⟩ := Tm.sub_at t p [] hsub
    walk_at "go"
    refine ⟨a, t.enc, i, u, post, rfl, hS, hdr, by omega, ?_⟩
    walk_at "go"
    intro r1 H1 e1 hr1
    rw [cut_lo] at hr1
    have hV1 := ex_t e1 hV
    have hS1 := ex_t e1 hS
    have tl : (t.enc.take i).length ≤ 10000 := by rw [List.length_take]; omega
    walk_at "go"
    intro r2 H2 e2 hr2
    have hS2 := ex_t e2 hS1
    walk_at "go"
    intro r3 H3 e3 hr3
    rw [cut_hi] at hr3
    have hr23 := ex_t e3 hr2
    have dl : (t.enc.drop (i + u.enc.length)).length ≤ 10000 := by rw [List.length_drop]; omega
    walk_at "go"
    intro r4 H4 e4 hr4
    have ee : Ex H H4 := ((e1.trans e2).trans e3).trans e4
    walk_at "go"
    exact ⟨r4, _, rfl, hr4, (dueV_nds t v i u).flat, fun h => q h r4 H4 ee hr4, fun h => x h H4 ee⟩
theorem sign_at {p : List Nat} {i : Nat} {v : V} (h : (signs (pl p))[i]? = some v) : ∃ c, p[i]? = some c ∧ v = .str (pl [c]) := by
  rw [signs_pl, List.getElem?_map] at h
  cases e : p[i]? with
  | none => rw [e] at h; cases h
  | some c => rw [e] at h; exact ⟨c, rfl, (Option.some.inj h).symm⟩
theorem before_end {x y : List Nat} : before (x.drop (min x.length y.length)) (y.drop (min x.length y.length)) = decide ((x.length : Int) < y.length) := by
  by_cases h : x.length ≤ y.length
  · rw [Nat.min_eq_left h, List.drop_length]
    show decide (0 < (y.drop x.length).length) = _
    rw [List.length_drop]
    exact decide_eq_decide.mpr (by omega)
  · rw [Nat.min_eq_right (by omega), List.drop_length]
    have e : decide ((x.length : Int) < y.length) = false := decide_eq_false (by omega)
    rw [e]
    cases hx : x.drop y.length with
    | nil =>
      have := congrArg List.length hx
      rw [List.length_drop] at this
      simp at this
      omega
    | cons a r => rfl
def spBefore : Sp := fun vs H Q _ => ∃ x y : List Nat, vs = [.str (pl x), .str (pl y)] ∧ x.length ≤ 100000 ∧ y.length ≤ 100000 ∧ ∀ H', Ex H H' → Q (.bl (before x y)) H'
theorem ok_before {f : Addr} {fd : FuncData} {k : Nat} (F : Fun K "comes_before" "comes_before" s_comes_before f fd) (T : Txt w K mg tk cl) : FnOk P w K mg base CX0 (k + 1) f fd ["first", "second"] spBefore := by
  refine F.ok sc_comes_before (fun vs H Q E h => ?_) (fun cdv A outer s H vs Q E hr h => ?_)
  · obtain ⟨x, y, rfl, _⟩ := h
    rfl
  · obtain ⟨x, y, rfl, hx, hy, q⟩ := h
    refine ⟨_, (pss_cons (ps_for PassesOwn.never rfl (pi_zipS (by rfl) T.n_zip (pa_cons (pv 0) (pa_cons (pv 1) pa_nil))) (pg_tup (by rfl) (pgs_cons (pg_name (i := 2) sc_comes_before.nd rfl (.inl rfl)) (pgs_cons (pg_name (i := 3) sc_comes_before.nd rfl (.inl rfl)) pgs_nil))) (pss_one (ps_if (pt_cmpR op_ne (pv 2) (pv 3) (nomark _)) (pss_one (ps_ret (pe_cmpR op_eq (pv 2) pe_str (nomark _)))) pss_nil))) (pss_one (ps_ret (pe_cmpR op_lt (pe_callB call_lenZ (by rfl) T.n_len (by decide +kernel) (pa_cons (pv 0) pa_nil)) (pe_callB call_lenZ (by rfl) T.n_len (by decide +kernel) (pa_cons (pv 1) pa_nil)) (nomark _))))), ?_⟩
    refine sl_of (σ2 := [some _, some _, none, none]) rfl ?_
    walk_at "st"
    walk_at "go"
    have l1 : (signs (pl x)).length = x.length := by simp [signs_pl]
    have l2 : (signs (pl y)).length = y.length := by simp [signs_pl]
    refine for_zipC (xs := signs (pl x)) (ys := signs (pl y)) (n := min x.length y.length) (by rw [l1, l2]) (fun i σ H' => ∃ y1 y2, σ = [some (.str (pl x)), some (.str (pl y)), y1, y2] ∧ Ex H H' ∧ before x y = before (x.drop i) (y.drop i))
      ⟨none, none, rfl, Ex.refl _, rfl⟩ (fun i σ H' _ => ⟨rfl, rfl⟩) ?_ ?_
    · rintro i u v T1 σ H2 hu hv ⟨y1, y2, rfl, e2, hb⟩ hT1
      obtain ⟨c, hc, rfl⟩ := sign_at hu
      obtain ⟨d, hd, rfl⟩ := sign_at hv
      rw [drop_at hc, drop_at hd] at hb
      walk_at "go"
      refine w_brSn (fun h => ?_) (fun h => ?_)
      · have hcd : ¬ c = d := fun e => h (by rw [e])
        walk_at "go"
        have ev : decide (V.str (pl [c]) = V.str "f") = before x y := by
          rw [hb, pl_f]
          simp only [before]
          rw [if_neg hcd]
          refine decide_eq_decide.mpr ⟨fun e => ?_, fun e => by rw [e]⟩
          have := pl_inj (V.str.inj e)
          simpa using this
        rw [ev]
        exact q _ (by walk_at "ex")
      · have hcd : c = d := by simpa using pl_inj h
        walk_at "go"
        refine ⟨_, _, rfl, by walk_at "ex", ?_⟩
        rw [hb]
        simp only [before]
        rw [if_pos hcd]
    · rintro σ H2 ⟨y1, y2, rfl, e2, hb⟩
      walk_at "go"
      rw [before_end] at hb
      rw [← hb]
      exact q _ e2
def spLift (K : PySem.W.Frag) (C : Addr) : Sp := fun vs H Q E => ∃ (a : Addr) (t : Tm) (c : Nat), vs = [.ref a, .int (c : Int)] ∧ SqT K H a t.enc ∧ t.enc.length ≤ 90000 ∧
  (fitsV (t.vmap (lif c) 0).enc = true → ∀ p H', Ex H H' → SqT K H' p (t.vmap (lif c) 0).enc → Q (.ref p) H') ∧ (fitsV (t.vmap (lif c) 0).enc = false → ∀ H', Ex H H' → E (.ref C) none H')
theorem ok_lift {f : Addr} {fd : FuncData} (F : Fun K "lift" "lift" s_lift f fd) (T : Txt w K mg tk cl)
    (D1 : Def P w K mg base CX0 2 "lifted_nodes" ["term", "count"] (spLifted K)) (D2 : Def P w K mg base (L2.CX P w) 2 "checked" ["term"] (spChecked K (cl 1))) : FnOk P w K mg base (L2.CX P w) 3 f fd ["term", "count"] (spLift K (cl 1)) := by
  obtain ⟨f1, fd1, g_lifted_nodes, kp_lifted_nodes, b_lifted_nodes, G_lifted_nodes⟩ := D1
  obtain ⟨f2, fd2, g_checked, kp_checked, b_checked, G_checked⟩ := D2
  refine F.okX sc_lift (fun vs H Q E h => ?_) (fun cdv A outer s H vs Q E hr h => ?_)
  · obtain ⟨a, t, c, rfl, _⟩ := h
    rfl
  · obtain ⟨a, t, c, rfl, hS, hlen, q, x⟩ := h
    refine ⟨_, (pss_one (ps_ret (pe_call G_checked (hr.mono (by first | decide | omega)) (by rfl) g_checked kp_checked b_checked .nil (passes_call (takes_of rfl rfl rfl rfl) (fun _ _ _ _ h => h)) (pa_cons (pe_callTy call_tuple_of (by rfl) T.n_tuple (by decide +kernel) (pa_cons (pe_call G_lifted_nodes (hr.mono (by first | decide | omega)) (by rfl) g_lifted_nodes kp_lifted_nodes b_lifted_nodes .nil pass0 (pa_cons (pv 0) (pa_cons (pv 1) pa_nil))) pa_nil)) pa_nil)))), ?_⟩
    refine sl_of (σ2 := [some _, some _]) rfl ?_
    walk_at "st"
    walk_at "go"
    refine ⟨a, t, c, rfl, hS, by omega, fun H1 l e1 hl hln => ?_⟩
    walk_at "go"
    intro p hp
    walk_at "go"
    have ee : ∀ o, Ex H (upd H1 p o) := fun o => e1.trans (Ex.new hp)
    exact ⟨p, _, rfl, by walk_at "hp", Tm.flat _, fun h => q h p _ (ee _) (by walk_at "hp"), fun h => x h _ (ee _)⟩
end
end Ly
set_option Elab.async false
set_option linter.all false
set_option maxRecDepth 100000
set_option maxHeartbeats 8000000
namespace Ly
open PySem PySem.Spec PyProof.Rows L2 Evl
local macro_rules | `(tactic| walk_at "ne") => `(tactic| first
  | assumption
  | ((refine' Ne.symm ?hq); (case hq => assumption))
  | ((refine' ne_of_none ?nh1 ?nh2); (case nh2 => assumption); (case nh1 => walk_at "hp"))
  | ((refine' Ne.symm (ne_of_none ?nh1 ?nh2)); (case nh2 => assumption); (case nh1 => walk_at "hp")))
local macro_rules | `(tactic| walk_at "hp") => `(tactic| first
  | assumption
  | exact upd_same
  | ((refine' SqL.of ?hq); (case hq => walk_at "hp"))
  | ((refine' SqT.of ?hq); (case hq => walk_at "hp"))
  | ((refine' (upd_ne ?hne).trans ?hrest); (case hne => walk_at "ne"); (case hrest => walk_at "hp"))
  | ((refine' ly_at ?hex ?hh); (case hex => assumption); (case hh => walk_at "hp"))
  | ((refine' ly_atF ?hex ?hnn ?hh); (case hex => assumption); (case hh => walk_at "hp"); (case hnn => walk_at "ne"))
  | ((refine' ex_t ?hex ?hh); (case hh => assumption); (case hex => walk_at "ex"))
  | ((refine' ex_l ?hex ?hh); (case hh => assumption); (case hex => walk_at "ex")))
local macro_rules | `(tactic| walk_at "ex") => `(tactic| first
  | assumption
  | exact Ex.refl _
  | ((refine' ex_new ?xa ?xb); (case xb => assumption); (case xa => walk_at "ex"))
  | ((refine' ex_upd ?xa ?xb); (case xb => walk_at "free"); (case xa => walk_at "ex"))
  | ((refine' Ex.trans ?xa ?xb); (case xb => assumption); (case xa => walk_at "ex")))
local macro_rules | `(tactic| walk_at "free") => `(tactic| first
  | assumption
  | ((refine' fresh_back ?xa ?xb); (case xb => assumption); (case xa => walk_at "ex")))
local macro_rules | `(tactic| walk_at "fr") => `(tactic| first
  | assumption
  | exact Fr.refl _ _
  | ((refine' Fr.own ?hq); (case hq => walk_at "fr"))
  | ((refine' Fr.new ?xa ?xb); (case xb => assumption); (case xa => walk_at "fr"))
  | ((refine' Fr.mut ?xa ?xb); (case xb => assumption); (case xa => walk_at "fr"))
  | ((refine' Fr.trans ?xa ?xb); (case xb => assumption); (case xa => walk_at "fr"))
  | ((refine' Fr.trans ?xa (Fr.ex ?xb)); (case xb => assumption); (case xa => walk_at "fr")))
local macro_rules | `(tactic| walk_at "go1") => `(tactic| first
  | (with_reducible refine' w_seq ?_)
  | (with_reducible refine' w_asg ?_)
  | (with_reducible refine' w_ret ?_)
  | (with_reducible refine' w_drop ?_)
  | (with_reducible refine' w_if ?_)
  | (with_reducible refine' w_next ?_)
  | (with_reducible refine' w_name ?_)
  | (with_reducible refine' w_sub ?_)
  | ((with_reducible refine' w_var ?hv ?_); (case hv => exact rfl))
  | (with_reducible refine' w_c ?_)
  | (with_reducible refine' w_op ?_)
  | (with_reducible refine' w_un ?_)
  | (with_reducible refine' w_ch ?_)
  | (with_reducible refine' w_I0 ?_)
  | ((with_reducible refine' w_I ?hc ?_); (case hc => first | (exact ly_mulL (by decide) (by decide)) | (exact ly_mulR (by decide) (by decide)) | (exact ly_mulL (by omega) (by omega)) | (show (_ : Int) ≠ 0; decide) | (show (_ : Int) ≠ 0; omega) | (exact ⟨by decide, by decide⟩) | (exact ⟨by omega, by omega⟩)))
  | (with_reducible refine' w_U ?_)
  | ((with_reducible refine' w_eq ?hs ?_); (case hs => exact rfl))
  | ((with_reducible refine' w_ne ?hs ?_); (case hs => exact rfl))
  | (with_reducible refine' w_isB ?_)
  | (with_reducible refine' w_notB ?_)
  | (with_reducible refine' w_nil ?_)
  | (with_reducible refine' w_cons ?_)
  | (with_reducible refine' w_tup ?_)
  | (with_reducible refine' w_lst ?_)
  | (with_reducible refine' w_cb ?_)
  | (with_reducible refine' w_call ?_)
  | (with_reducible refine' w_bm ?_)
  | (with_reducible refine' w_bm0 ?_)
  | ((with_reducible refine' w_app ?hh ?hz ?_); (case hh => walk_at "hp"); (case hz => first | exact ly_lt (by omega) | exact ly_lt (by simp only [List.length_append, List.length_map, List.length_cons, List.length_nil]; omega)))
  | ((with_reducible refine' w_popA ?hh ?_); (case hh => walk_at "hp"))
  | ((with_reducible refine' w_ext ?hh ?hh2 ?hz ?_); (case hh => walk_at "hp"); (case hh2 => walk_at "hp"))
  | ((with_reducible refine' w_ixL ?hh ?ha ?_); (case hh => walk_at "hp"); (case ha => first | exact rfl | exact at_map (by omega) | exact atI_last _ _ | ((refine' at_of ?ae ?ah); (case ah => assumption); (case ae => omega))))
  | ((with_reducible refine' w_ixT ?hh ?ha ?_); (case hh => walk_at "hp"); (case ha => first | exact rfl | exact at_map (by omega) | exact atI_last _ _ | ((refine' at_of ?ae ?ah); (case ah => assumption); (case ae => omega))))
  | ((with_reducible refine' w_cat ?hh ?hh2 ?hz ?_); (case hh => walk_at "hp"); (case hh2 => walk_at "hp"))
  | ((with_reducible refine' w_setL ?hh ?ha ?_); (case hh => walk_at "hp"); (case ha => exact rfl))
  | (with_reducible refine' w_test ?_)
  | (with_reducible refine' w_tB ?_)
  | (with_reducible refine' w_bl ?_)
  | (with_reducible refine' w_and ?_)
  | (with_reducible refine' w_or ?_)
  | (with_reducible refine' w_not ?_)
  | (with_reducible refine' w_andV ?_)
  | (with_reducible refine' w_orV ?_)
  | (with_reducible refine' w_notV ?_)
  | (with_reducible refine' w_ifE ?_)
  | (with_reducible refine' w_for ?_)
  | ((with_reducible refine' w_nin ?hh ?_); (case hh => walk_at "hp"))
  | ((with_reducible refine' w_sorted ?hh ?_); (case hh => walk_at "hp"))
  | (with_reducible refine' w_tsadd ?_)
  | ((with_reducible refine' w_tsadd1 ?hh ?_); (case hh => walk_at "hp"))
  | ((with_reducible refine' w_sadd ?hh ?hr ?_); (case hh => walk_at "hp"); (case hr => omega))
  | (with_reducible refine' w_iZ ?_)
  | ((with_reducible refine' w_iZ1 ?hh ?hh2 ?_); (case hh => walk_at "hp"); (case hh2 => walk_at "hp"))
  | (with_reducible refine' w_iS ?_)
  | (with_reducible refine' w_iS1 ?_)
  | ((with_reducible refine' w_gtup ?hh ?hn ?_); (case hh => walk_at "hp"); (case hn => exact rfl))
  | (with_reducible refine' w_gcons ?_)
  | (with_reducible refine' w_gnil ?_)
  | (with_reducible refine' w_js ?_)
  | (with_reducible refine' w_jsn ?_)
  | ((with_reducible refine' w_js1 ?hl ?_); (case hl => decide +kernel))
  | (with_reducible refine' w_fmt ?_)
  | ((with_reducible refine' w_fmt1 ?hl ?_); (case hl => decide +kernel))
  | (with_reducible refine' w_callS ?_)
  | ((with_reducible refine' w_truL ?hh ?_); (case hh => walk_at "hp"))
  | (with_reducible refine' w_lc ?_)
  | (with_reducible refine' w_yes ?_)
  | ((with_reducible refine' w_wipe ?he ?_); (case he => exact rfl))
  | (with_reducible refine' w_iL ?_)
  | (with_reducible refine' w_iT ?_)
  | (with_reducible refine' w_iR ?_)
  | ((with_reducible refine' w_iL1 ?hh ?_); (case hh => walk_at "hp"))
  | ((with_reducible refine' w_iT1 ?hh ?_); (case hh => walk_at "hp"))
  | ((with_reducible refine' w_iR1 ?h1 ?h2 ?_); (case h1 => omega); (case h2 => omega))
  | ((with_reducible refine' w_aug ?hv ?_); (case hv => exact rfl))
  | (with_reducible refine' w_ipI ?_)
  | ((with_reducible refine' w_isi ?hy ?hk ?_); (case hy => walk_at "ty"); (case hk => walk_at "kit"))
  | ((with_reducible refine' w_int ?_))
  | ((with_reducible refine' w_intB ?_))
  | ((with_reducible refine' w_abs ?_))
  | ((with_reducible refine' w_lenL ?hh ?_); (case hh => walk_at "hp"))
  | ((with_reducible refine' w_lenT ?hh ?_); (case hh => walk_at "hp"))
  | ((with_reducible refine' w_tupL ?hh ?_); (case hh => walk_at "hp"))
  | ((with_reducible refine' w_tupT ?hh ?_); (case hh => walk_at "hp"))
  | ((with_reducible refine' w_catA ?hh ?hh2 ?hz ?_); (case hh => walk_at "hp"); (case hh2 => walk_at "hp"); (case hz => walk_at "len"))
  | ((with_reducible refine' w_repB ?hh ?hne ?h2 ?h3 ?hz ?_); (case hh => walk_at "hp"); (case hne => simp); (case h2 => omega); (case h3 => omega); (case hz => exact Nat.le_of_ble_eq_true rfl))
  | ((with_reducible refine' w_eqN ?hh ?hh2 ?n1 ?n2 ?_); (case hh => walk_at "hp"); (case hh2 => walk_at "hp"); (case n1 => walk_at "nd"); (case n2 => walk_at "nd"))
  | ((with_reducible refine' w_neN ?hh ?hh2 ?n1 ?n2 ?_); (case hh => walk_at "hp"); (case hh2 => walk_at "hp"); (case n1 => walk_at "nd"); (case n2 => walk_at "nd"))
  | ((with_reducible refine' w_eqL ?hh ?hh2 ?n1 ?n2 ?_); (case hh => walk_at "hp"); (case hh2 => walk_at "hp"); (case n1 => walk_at "nd"); (case n2 => walk_at "nd"))
  | ((with_reducible refine' w_neL ?hh ?hh2 ?n1 ?n2 ?_); (case hh => walk_at "hp"); (case hh2 => walk_at "hp"); (case n1 => walk_at "nd"); (case n2 => walk_at "nd"))
  | ((with_reducible refine' w_neNon ?hh2 ?n2 ?_); (case hh2 => walk_at "hp"); (case n2 => walk_at "nd"))
  | ((with_reducible refine' w_eqNon ?hh2 ?n2 ?_); (case hh2 => walk_at "hp"); (case n2 => walk_at "nd"))
  | ((with_reducible refine' w_slA ?hh ?_); (case hh => walk_at "hp"))
  | ((with_reducible refine' w_disp ?hz ?_); (case hz => exact sz_of (Nat.le_of_ble_eq_true rfl)))
  | ((with_reducible refine' w_tyL ?hh ?_); (case hh => walk_at "hp"))
  | (with_reducible refine' iteT ?_)
  | (with_reducible refine' iteF ?_)
  | (with_reducible refine' w_nT ?_)
  | (with_reducible refine' w_nn ?_)
  | (with_reducible refine' w_nnT ?_)
  | (with_reducible refine' w_nnR ?_)
  | (with_reducible refine' w_neG ?_)
  | (with_reducible refine' w_eqG ?_)
  | (with_reducible refine' w_neS ?_)
  | (with_reducible refine' w_eqS ?_)
  | (with_reducible refine' w_neSb ?_)
  | (with_reducible refine' w_eqSb ?_)
  | (with_reducible refine' w_deIS ?_)
  | (with_reducible refine' w_deSI ?_)
  | (with_reducible refine' w_deISn ?_)
  | ((with_reducible refine' w_deST ?he ?_); (case he => decide +kernel))
  | ((with_reducible refine' w_deSF ?he ?_); (case he => decide +kernel))
  | ((with_reducible refine' w_deSTn ?he ?_); (case he => decide +kernel))
  | ((with_reducible refine' w_deSFn ?he ?_); (case he => decide +kernel))
  | (with_reducible refine' w_nF ?_)
  | dsimp only [Bool.not_true, Bool.not_false])
local macro_rules | `(tactic| walk_at "ty") => `(tactic| first
  | exact .base (.int _) | exact .base (.str _) | exact .base (.bl _) | exact .base .non
  | ((refine' tyx_t ?hq); (case hq => walk_at "hp")) | ((refine' tyx_l ?hq); (case hq => walk_at "hp")) | ((refine' .base (.tup ?hq)); (case hq => walk_at "hp")) | assumption)
local macro_rules | `(tactic| walk_at "go") => `(tactic| repeat walk_at "go1")
local macro_rules | `(tactic| walk_at "st") => `(tactic| try dsimp only [cxOf, Cx.nox, Cx.wish])
local macro_rules | `(tactic| walk_at "kit") => `(tactic| with_reducible first | exact kit_int_int | exact kit_int_str | exact kit_int_bool | exact kit_int_tuple | exact kit_int_list | exact kit_str_int | exact kit_str_str | exact kit_str_bool | exact kit_str_tuple | exact kit_str_list | exact kit_bool_int | exact kit_bool_str | exact kit_bool_bool | exact kit_bool_tuple | exact kit_bool_list | exact kit_NoneType_int | exact kit_NoneType_str | exact kit_NoneType_bool | exact kit_NoneType_tuple | exact kit_NoneType_list | exact kit_list_int | exact kit_list_str | exact kit_list_bool | exact kit_list_tuple | exact kit_list_list | exact kit_tuple_int | exact kit_tuple_str | exact kit_tuple_bool | exact kit_tuple_tuple | exact kit_tuple_list)
local macro_rules | `(tactic| walk_at "nd") => `(tactic| first
  | assumption
  | exact Tm.nds _
  | exact Nds.nil
  | exact Nds.ofInts _
  | ((refine' Nds.cons ?na ?nb); (case na => first | exact Nds.I _ | exact Nds.L | exact Nds.A); (case nb => walk_at "nd"))
  | ((refine' Nds.app ?na ?nb); (case na => walk_at "nd"); (case nb => walk_at "nd"))
  | ((refine' Nds.rep ?na _); (case na => walk_at "nd")))
local macro_rules | `(tactic| walk_at "len") => `(tactic| first
  | exact ly_sz (by omega)
  | ((simp only [List.length_append, List.length_cons, List.length_nil, List.length_map, PyProof.Rows.lm_len_rep_flat]); exact ly_sz (by omega)))
local macro_rules | `(tactic| walk_at "go1") => `(tactic| first
  | (with_reducible refine' w_kget2 ?_)
  | (with_reducible refine' w_isRN ?_)
  | (with_reducible refine' w_isNN ?_)
  | (with_reducible refine' w_isIN ?_)
  | ((with_reducible refine' w_kg ?hd ?_); (case hd => assumption)))
local macro_rules | `(tactic| walk_at "go1") => `(tactic| first
  | ((with_reducible refine' w_extT ?hh ?hh2 ?hz ?_); (case hh => walk_at "hp"); (case hh2 => walk_at "hp"))
  | ((with_reducible refine' w_I ?hc ?_); (case hc => exact ⟨by decide, by decide, by decide⟩))
  | (with_reducible refine' w_sl ?_)
  | (with_reducible refine' w_noP ?_)
  | (with_reducible refine' w_part ?_)
  | (with_reducible refine' w_part1 ?_)
  | (with_reducible refine' w_it ?_)
  | (with_reducible refine' w_it1 ?_)
  | ((with_reducible refine' w_lenZ ?hz ?_); (case hz => omega))
  | ((with_reducible refine' w_addZb ?hz ?_); (case hz => omega))
  | ((with_reducible refine' w_addZf ?hz ?_); (case hz => omega))
  | ((with_reducible refine' w_addZa ?hz ?_); (case hz => omega))
  | ((with_reducible refine' w_inS ?hh ?_); (case hh => walk_at "hp"))
  | ((with_reducible refine' w_ixT ?hh ?ha ?_); (case hh => assumption); (case ha => exact atI_nat (by assumption))))
local macro_rules | `(tactic| walk_at "go1") => `(tactic| first
  | (with_reducible refine' w_iR2 ?_)
  | ((with_reducible refine' w_iR21 ?h1 ?h2 ?h3 ?h4 ?_); (case h1 => omega); (case h2 => omega); (case h3 => omega); (case h4 => omega))
  | (with_reducible refine' w_nnI ?_)
  | (with_reducible refine' w_max ?_)
  | (with_reducible refine' w_break ?_)
  | (with_reducible refine' w_cont ?_))
local macro_rules | `(tactic| walk_at "go1") => `(tactic| first
  | (with_reducible refine' w_tdget ?_)
  | (with_reducible refine' w_tdin ?_)
  | (with_reducible refine' w_tdnotin ?_)
  | (with_reducible refine' w_sdput ?_)
  | (with_reducible refine' w_tdsetd ?_)
  | (with_reducible refine' w_dnew ?_))
local macro_rules | `(tactic| walk_at "go1") => `(tactic| first
  | (with_reducible refine' w_m1 ?_)
  | (with_reducible refine' w_m11 ?_)
  | (with_reducible refine' w_st2 ?_)
  | (with_reducible refine' w_sg ?_)
  | (with_reducible refine' w_sg2 ?_)
  | (with_reducible refine' w_sgSp ?_)
  | ((with_reducible refine' w_lcnt ?hh ?_); (case hh => walk_at "hp")))
section
variable {P : Program} {w : World} {K : PySem.W.Frag} {mg : Str → Option Value} {base : Heap} {tk : Nat → Tok} {cl : Nat → Addr}
def spIsName (PT : Addr) : Sp := fun vs H Q _ => ∃ (w : List Nat), vs = [.str (pl w)] ∧ w.length ≤ 1000000 ∧ GxR.TabG H PT ∧ ∀ H', Tb PT H H' → Q (.bl (nmB w)) H'
theorem ok_isname {f : Addr} {fd : FuncData} {cT PT : Addr} (F : Fun K "is_name" "is_name" s_is_name f fd) (T : Txt w K mg tk cl) (tb : GxR.TabB base mg cT PT) (hcd0 : fd.code = .ref cT) : FnOk P w K mg base CX0 2 f fd ["value"] (spIsName PT) := by
  refine okC F sc_is_name (fun vs H Q E h => ?_) (fun cdv A outer s H vs Q E e hr h => ?_)
  · obtain ⟨w, rfl, _⟩ := h
    rfl
  · obtain ⟨w, rfl, hl, ht, q⟩ := h
    have hcd : cdv = .ref cT := e.symm.trans hcd0
    refine ⟨_, (pss_cons (ps_if (PW.pt (pw_or (pt_not (pt_val (pe_callB call_isi (by rfl) T.n_isinstance (by decide +kernel) (pa_cons (pv 0) (pa_cons (pe_bltn (v := .ty "str") (by rfl) T.n_str (by decide +kernel) rfl) pa_nil))))) (pw_or1 (pt_not (pt_chain op_le op_le pe_int (pe_callB call_lenZ (by rfl) T.n_len (by decide +kernel) (pa_cons (pv 0) pa_nil)) (pe_glob (v := .int 10) rfl T.g_MOST_LENGTH ⟨_, rfl⟩)))))) (pss_one (ps_ret pe_bl)) pss_nil) (pss_cons (ps_if (pt_cmpR op_notIn_sign (pe_ix ix_str (pv 0) pe_int (fun _ _ => rfl)) (pe_glob (v := .str "abcdefghijklmnopqrstuvwxyz") (by rfl) T.g_LETTERS ⟨_, rfl⟩) rfl) (pss_one (ps_ret pe_bl)) pss_nil) (pss_one (ps_ret (pe_allM hr (by rfl) T.n_all (by decide +kernel) tb hcd (gen_s (by rfl) (by rfl) (by decide) (by rfl) (by rfl) (by decide)) (pe_slice sl_str (pv 0) (po_some pe_int) po_none) (eltM_in (by rfl) (by rfl) (by rfl) T.g_DIGITS) (fun _ => rfl)))))), ?_⟩
    refine sl_of (σ2 := [some _, none]) rfl ?_
    walk_at "st"
    walk_at "go"
    cases w with
    | nil =>
      refine w_br (fun c1 => absurd c1 (by decide)) (fun _ => ?_)
      walk_at "go"
      exact q H (Tb.refl ht)
    | cons c ds =>
      refine w_br (fun _ => ?_) (fun c1 => ?_)
      rotate_left
      · exact absurd (by simp; omega) c1
      walk_at "go"
      have lz : (c :: ds).length = ds.length + 1 := rfl
      by_cases c1 : ((c :: ds).length : Int) ≤ 10
      · rw [decide_eq_true c1]
        walk_at "go"
        refine w_ixSt hl (atI_nat (xs := c :: ds) (j := 0) (v := c) rfl) ?_
        walk_at "go"
        cases hlow : isLow c with
        | false =>
          walk_at "go"
          rw [let_in, hlow]
          walk_at "go"
          have e : nmB (c :: ds) = false := by
            show (isLow c && _ && _) = false
            rw [hlow]; rfl
          rw [← e]
          exact q H (Tb.refl ht)
        | true =>
          walk_at "go"
          rw [let_in, hlow]
          walk_at "go"
          refine w_allS ?_
          walk_at "go"
          refine w_slHi (i := 1) hl ?_
          walk_at "go"
          refine ⟨ht, fun H2 t2 => ?_⟩
          have e : nmB (c :: ds) = ((pl (List.drop 1 (c :: ds))).cps.toList.all fun c => decide (c ∈ ("0123456789" : Str).cps.toList)) := by
            show (isLow c && ds.all isDig && decide (ds.length ≤ 9)) = ds.all _
            rw [hlow, decide_eq_true (by omega), Bool.and_true, Bool.true_and, funext dig_in]
          rw [← e]
          exact q H2 (Tb.of t2)
      · rw [decide_eq_false c1]
        walk_at "go"
        have e : nmB (c :: ds) = false := by
          show (_ && _ && decide (ds.length ≤ 9)) = false
          rw [decide_eq_false (by omega), Bool.and_false]
        rw [← e]
        exact q H (Tb.refl ht)
/-- the free names serve -/
def NmOk (fs : List (List Nat)) : Prop := Nms fs ∧ fs.Nodup
def InT (kvs : List (L2.Key × V)) (fs : List (List Nat)) : Prop := kvs.length ≤ fs.length ∧ ∀ n, (valV kvs (.inr (pl n))).isSome = decide (n ∈ fs)
def spTable (PT : Addr) (C : Addr) : Sp := fun vs H Q E => ∃ (b : Addr) (fs : List (List Nat)), vs = [.ref b] ∧ H b = some (.lst (plcs fs)) ∧ fs.length ≤ 1000 ∧ (∀ w ∈ fs, w.length ≤ 1000000) ∧ GxR.TabG H PT ∧
  (NmOk fs → ∀ H' p kvs, Tb PT H H' → H p = none → H' p = some (.dK kvs) → InT kvs fs → Q (.ref p) H') ∧ (¬ NmOk fs → ∀ H', Tb PT H H' → E (.ref C) none H')
theorem InT.nil : InT [] [] := ⟨Nat.le_refl _, fun n => rfl⟩
theorem InT.put {kvs : List (L2.Key × V)} {fs : List (List Nat)} (h : InT kvs fs) {w : List Nat} (v : V) : InT (putK kvs (.inr (pl w)) v) (fs ++ [w]) := by
  refine ⟨?_, fun n => ?_⟩
  · have := length_putK kvs (.inr (pl w)) v
    have := h.1
    rw [List.length_append, List.length_singleton]
    omega
  · rw [valV_put]
    by_cases e : n = w
    · subst e
      rw [if_pos rfl]
      simp
    · rw [if_neg (fun z => e (pl_inj (Sum.inr.inj z))), h.2 n]
      simp [e]
theorem tk_succ {α : Type} {fs : List α} {i : Nat} {w : α} (h : fs[i]? = some w) : fs.take (i + 1) = fs.take i ++ [w] := by
  rw [List.take_add_one, h]
  rfl
theorem ok_nmtable {f : Addr} {fd : FuncData} {PT : Addr} (F : Fun K "name_table" "name_table" s_name_table f fd) (T : Txt w K mg tk cl) (D1 : Def P w K mg base CX0 2 "is_name" ["value"] (spIsName PT)) :
    FnOk P w K mg base (L2.CX P w) 3 f fd ["names"] (spTable PT (cl 5)) := by
  obtain ⟨f1, fd1, g_is_name, kp_is_name, b_is_name, G_is_name⟩ := D1
  refine F.okX sc_name_table (fun vs H Q E h => ?_) (fun cdv A outer s H vs Q E hr h => ?_)
  · obtain ⟨b, fs, rfl, _⟩ := h
    rfl
  · obtain ⟨b, fs, rfl, hb, hl, hwl, ht, q, x⟩ := h
    refine ⟨_, (pss_cons (ps_set (i := 1) sc_name_table.nd rfl (.inl rfl) pe_dnewK) (pss_cons (ps_for (passes_of rfl) rfl (pi_list (pv 0)) (pg_name (i := 2) sc_name_table.nd rfl (.inl rfl)) (pss_cons (ps_if (pt_not (pt_val (pe_call G_is_name (hr.mono (by first | decide | omega)) (by rfl) g_is_name kp_is_name b_is_name .nil pass0 (pa_cons (pv 2) pa_nil)))) (pss_one (ps_raise rfl (takes_of rfl rfl rfl rfl) (SkE.pmk_own1 PySem.F.excBase_ValueError T.x_BadNames T.g_BadNames T.k_BadNames (raises_own T.b_BadNames T.t_BadNames) rfl pe_str))) pss_nil) (pss_cons (ps_if (pt_cmp (pc_din (by exact Nat.lt_of_le_of_lt (Nat.add_le_add_left (by decide) _) hr.units) (pv 2) (pv 1))) (pss_one (ps_raise rfl (takes_of rfl rfl rfl rfl) (SkE.pmk_own1 PySem.F.excBase_ValueError T.x_BadNames T.g_BadNames T.k_BadNames (raises_own T.b_BadNames T.t_BadNames) rfl pe_str))) pss_nil) (pss_one (ps_dput (by exact Nat.lt_of_le_of_lt (Nat.add_le_add_left (by decide) _) hr.units) (pv 1) (pv 2) pe_bl (by rfl)))))) (pss_one (ps_ret (pv 1))))), ?_⟩
    refine sl_of (σ2 := [some _, none, none]) rfl ?_
    walk_at "st"
    walk_at "go"
    intro p0 hp0
    have t0 := Tb.mut ht (Tb.refl ht) hp0 (o := .dK [])
    have h0 : upd H p0 (.dK []) p0 = some (.dK []) := upd_same
    have nb : b ≠ p0 := ne_of_none hb hp0
    have hb0 : upd H p0 (.dK []) b = some (.lst (plcs fs)) := by rw [upd_ne nb]; exact hb
    generalize upd H p0 (.dK []) = H1 at *
    walk_at "go"
    refine for_list (K := K) (a := b) (xs := plcs fs) (fun i σ H' => ∃ kvs y, σ = [some (.ref b), some (.ref p0), y] ∧ Tb PT H H' ∧ H' b = some (.lst (plcs fs)) ∧ H' p0 = some (.dK kvs) ∧ InT kvs (fs.take i) ∧ Nms (fs.take i) ∧ (fs.take i).Nodup)
      ⟨[], none, rfl, t0, hb0, h0, InT.nil, (fun w hw => by simp at hw), by simp⟩ (fun i σ H' _ ⟨_, _, _, _, h, _⟩ => SqL.of h) ?_ ?_
    · rintro i z σ H3 hi ⟨kvs, y, rfl, t3, hb3, h3, hin, hnm, hnd⟩
      rw [List.getElem?_map] at hi
      obtain ⟨w, hw, rfl⟩ := Option.map_eq_some_iff.mp hi
      have hwm := List.mem_of_getElem? hw
      have il := (List.getElem?_eq_some_iff.mp hw).1
      walk_at "go"
      refine ⟨w, rfl, hwl w hwm, t3.1, fun H4 t4 => ?_⟩
      have hb4 := t4.lst t3.1 hb3
      have h4 := t4.dk t3.1 h3
      have t04 := t3.trans t4
      walk_at "go"
      cases hn : nmB w with
      | false =>
        walk_at "go"
        refine x (fun z => ?_) H4 t04
        rw [z.1 w hwm] at hn
        cases hn
      | true =>
        walk_at "go"
        refine w_dinS h4 ?_
        rw [hin.2 w]
        by_cases hm : w ∈ fs.take i
        · rw [decide_eq_true hm]
          walk_at "go"
          refine x (fun z => ?_) H4 t04
          have nd := z.2
          rw [← List.take_append_drop (i + 1) fs, tk_succ hw] at nd
          have := (List.nodup_append.mp (List.nodup_append.mp nd).1).2.2 w hm w (by simp)
          exact this rfl
        · rw [decide_eq_false hm]
          walk_at "go"
          refine w_dputS h4 (ly_lt (by have := hin.1; simp at this; omega)) ?_
          walk_at "go"
          have e1 := tk_succ hw
          refine ⟨_, _, rfl, Tb.mut ht t04 hp0, by rw [upd_ne nb]; exact hb4, upd_same, by rw [e1]; exact hin.put _, ?_, ?_⟩
          · rw [e1]
            intro v hv
            rcases List.mem_append.mp hv with hv | hv
            · exact hnm v hv
            · rw [List.mem_singleton.mp hv]; exact hn
          · rw [e1]
            refine List.nodup_append.mpr ⟨hnd, by simp, fun a ha c hc e => hm ?_⟩
            rw [List.mem_singleton.mp hc] at e
            rw [← e]
            exact ha
    · rintro σ H3 ⟨kvs, y, rfl, t3, hb3, h3, hin, hnm, hnd⟩
      rw [show (plcs fs).length = fs.length from List.length_map _, List.take_length] at hin hnm hnd
      walk_at "go"
      exact q ⟨hnm, hnd⟩ H3 p0 kvs t3 hp0 h3 hin
def spNumbered : Sp := fun vs H Q _ => ∃ n : Nat, vs = [.int (n : Int)] ∧ n < 2600 ∧ Q (.str (pl (nmN n))) H
theorem ok_numbered {f : Addr} {fd : FuncData} {k : Nat} (F : Fun K "numbered_name" "numbered_name" s_numbered_name f fd) (T : Txt w K mg tk cl) : FnOk P w K mg base CX0 (k + 1) f fd ["number"] spNumbered := by
  refine F.ok sc_numbered_name (fun vs H Q E h => ?_) (fun cdv A outer s H vs Q E hr h => ?_)
  · obtain ⟨n, rfl, _⟩ := h
    rfl
  · obtain ⟨n, rfl, hn, q⟩ := h
    refine ⟨_, (pss_cons (ps_set (i := 1) sc_numbered_name.nd rfl (.inl rfl) (pe_ix ix_str (pe_glob (v := .str "abcdefghijklmnopqrstuvwxyz") (by rfl) T.g_LETTERS ⟨_, rfl⟩) (pe_op op_modN (pv 0) (pe_callB call_lenZ (by rfl) T.n_len (by decide +kernel) (pa_cons (pe_glob (v := .str "abcdefghijklmnopqrstuvwxyz") (by rfl) T.g_LETTERS ⟨_, rfl⟩) pa_nil))) (fun _ _ => rfl))) (pss_cons (ps_set (i := 2) sc_numbered_name.nd rfl (.inl rfl) (pe_op op_fdivN (pv 0) (pe_callB call_lenZ (by rfl) T.n_len (by decide +kernel) (pa_cons (pe_glob (v := .str "abcdefghijklmnopqrstuvwxyz") (by rfl) T.g_LETTERS ⟨_, rfl⟩) pa_nil)))) (pss_cons (ps_if (pt_cmpR op_eq (pv 2) pe_int (nomark _)) (pss_one (ps_ret (pv 1))) pss_nil) (pss_one (ps_ret (pe_joined (.cons (pe_fmt (pv 1)) (.cons (pe_fmt (pv 2)) .nil)))))))), ?_⟩
    refine sl_of (σ2 := [some _, none, none]) rfl ?_
    walk_at "st"
    walk_at "go"
    rw [pl_abc]
    walk_at "go"
    refine w_lenZ (by simp) ?_
    rw [show (List.range' 97 26).length = 26 from rfl]
    refine w_I (by decide) ?_
    rw [fmod26]
    refine w_ixSt (by simp) (atI_nat (get_abc (Nat.mod_lt _ (by decide)))) ?_
    walk_at "go"
    refine w_lenZ (by simp) ?_
    rw [show (List.range' 97 26).length = 26 from rfl]
    refine w_I (by first | decide | exact ⟨by decide, by omega⟩ | (unfold CDivN; omega)) ?_
    rw [fdiv26]
    walk_at "go"
    refine w_brI (fun c0 => ?_) (fun c0 => ?_)
    · walk_at "go"
      have e : nmN n = [97 + n % 26] := if_pos (by omega)
      rw [← e]
      exact q
    · have hd := digz_str (n / 26) (by omega)
      have hdo := digz_ok (d := n / 26) (by omega)
      walk_at "go"
      refine w_fmtS (by simp) ?_
      refine w_js0 (by simp) ?_
      walk_at "go"
      refine .inr ⟨_, rfl, hd.2, ?_⟩
      rw [show ((toString ((n / 26 : Nat) : Int) : String) : Str) = Str.ofString (toString ((n / 26 : Nat) : Int)) from rfl, hd.1, pl_em]
      refine w_js2 (by simp; omega) ?_
      walk_at "go"
      rw [pl_app]
      have e : nmN n = [97 + n % 26] ++ digz (n / 26) := if_neg (fun z => c0 (by rw [z]; rfl))
      rw [← e]
      exact q
def spBound : Sp := fun vs H Q _ => ∃ (n : Nat) (a : Addr) (kvs : List (L2.Key × V)) (fs : List (List Nat)), vs = [.int (n : Int), .ref a] ∧ H a = some (.dK kvs) ∧ InT kvs fs ∧ n + fs.length < 2600 ∧
  ∀ H' p bs m, Ex H H' → H p = none → H' p = some (.lst (plcs bs)) → bs = own fs m → bs.length = n → m ≤ n + fs.length → Q (.ref p) H'
theorem ok_bound {f : Addr} {fd : FuncData} (F : Fun K "bound_names" "bound_names" s_bound_names f fd) (T : Txt w K mg tk cl) (D1 : Def P w K mg base CX0 1 "numbered_name" ["number"] spNumbered) : FnOk P w K mg base CX0 2 f fd ["count", "taken"] spBound := by
  obtain ⟨f1, fd1, g_numbered_name, kp_numbered_name, b_numbered_name, G_numbered_name⟩ := D1
  refine F.ok sc_bound_names (fun vs H Q E h => ?_) (fun cdv A outer s H vs Q E hr h => ?_)
  · obtain ⟨n, a, kvs, fs, rfl, _⟩ := h
    rfl
  · obtain ⟨n, a, kvs, fs, rfl, ha, hin, hn, q⟩ := h
    refine ⟨_, (pss_cons (ps_set (i := 2) sc_bound_names.nd rfl (.inl rfl) (pe_lst pa_nil)) (pss_cons (ps_set (i := 3) sc_bound_names.nd rfl (.inl rfl) pe_int) (pss_cons (ps_while PassesOwn.never (pt_cmpR op_lt (pe_callB call_len_seq (by rfl) T.n_len (by decide +kernel) (pa_cons (pv 2) pa_nil)) (pv 0) (nomark _)) (pss_cons (ps_set (i := 4) sc_bound_names.nd rfl (.inl rfl) (pe_call G_numbered_name (hr.mono (by first | decide | omega)) (by rfl) g_numbered_name kp_numbered_name b_numbered_name .nil pass0 (pa_cons (pv 3) pa_nil))) (pss_cons (ps_if (pt_cmp (pc_dnotin (by exact Nat.lt_of_le_of_lt (Nat.add_le_add_left (by decide) _) hr.units) (pv 4) (pv 1))) (pss_one (ps_expr (pe_bm PySem.F.plainAttrs_list PySem.F.slot_list_append PySem.F.type_list_append mt_append (pv 2) (pa_cons (pv 4) pa_nil)))) pss_nil) (pss_one (ps_aug (i := 3) sc_bound_names.nd rfl (.inl rfl) pe_int ip_add))))) (pss_one (ps_ret (pv 2)))))), ?_⟩
    refine sl_of (σ2 := [some _, some _, none, none, none]) rfl ?_
    walk_at "st"
    walk_at "go"
    intro p0 hp0
    have e0 := Ex.new hp0 (o := .lst (plcs []))
    have h0 : upd H p0 (.lst (plcs [])) p0 = some (.lst (plcs [])) := upd_same
    rw [show (HO.lst ([] : List V)) = .lst (plcs []) from rfl]
    have ha0 := e0 _ _ ha
    have na : a ≠ p0 := ne_of_none ha hp0
    generalize upd H p0 (.lst (plcs [])) = H1 at *
    walk_at "go"
    refine w_while (fun m σ H' => ∃ (i : Nat) (y : Option V), m + i = n + fs.length + 1 ∧ σ = [some (.int (n : Int)), some (.ref a), some (.ref p0), some (.int (i : Int)), y] ∧ Ex H H' ∧ H' a = some (.dK kvs) ∧ H' p0 = some (.lst (plcs (own fs i))) ∧ (own fs i).length ≤ n) (n + fs.length + 1)
      ⟨0, none, rfl, rfl, e0, ha0, h0, Nat.zero_le _⟩ ?_
    rintro m σ H2 ⟨i, y, hm, rfl, e2, ha2, h2, hl2⟩
    walk_at "go"
    rw [show (plcs (own fs i)).length = (own fs i).length from List.length_map _]
    have hlen := own_len (fs := fs) (n := i) (by omega)
    refine w_br (fun c1 => ?_) (fun c1 => ?_)
    · refine ⟨fun σ' H' => ∃ y, σ' = [some (.int (n : Int)), some (.ref a), some (.ref p0), some (.int ((i + 1 : Nat) : Int)), y] ∧ Ex H H' ∧ H' a = some (.dK kvs) ∧ H' p0 = some (.lst (plcs (own fs (i + 1)))) ∧ (own fs (i + 1)).length ≤ n, ?_, ?_⟩
      · rintro σ' H' ⟨y', r1, r2, r3, r4, r5⟩
        exact ⟨n + fs.length + 1 - (i + 1), by omega, i + 1, y', by omega, r1, r2, r3, r4, r5⟩
      · walk_at "go"
        refine ⟨i, rfl, by omega, ?_⟩
        walk_at "go"
        refine w_dnotinS ha2 ?_
        rw [hin.2]
        by_cases hmm : nmN i ∈ fs
        · rw [decide_eq_true hmm]
          walk_at "go"
          exact ⟨_, rfl, e2, ha2, by rw [own_yes hmm]; exact h2, by rw [own_yes hmm]; exact hl2⟩
        · rw [decide_eq_false hmm]
          walk_at "go"
          have e1 : own fs (i + 1) = own fs i ++ [nmN i] := own_no hmm
          have c1' : (own fs i).length < n := by omega
          refine ⟨_, rfl, e2.mut hp0, by rw [upd_ne na]; exact ha2, by rw [upd_same, e1]; simp [plcs], ?_⟩
          rw [e1, List.length_append, List.length_singleton]
          omega
    · walk_at "go"
      have := own_le fs i
      exact q H2 p0 (own fs i) i e2 hp0 h2 rfl (by omega) (by omega)
end
end Ly
set_option Elab.async false
set_option linter.all false
set_option maxRecDepth 100000
set_option maxHeartbeats 8000000
namespace Ly
open PySem PySem.Spec PyProof.Rows L2 Evl
local macro_rules | `(tactic| walk_at "ne") => `(tactic| first
  | assumption
  | ((refine' Ne.symm ?hq); (case hq => assumption))
  | ((refine' ne_of_none ?nh1 ?nh2); (case nh2 => assumption); (case nh1 => walk_at "hp"))
  | ((refine' Ne.symm (ne_of_none ?nh1 ?nh2)); (case nh2 => assumption); (case nh1 => walk_at "hp")))
local macro_rules | `(tactic| walk_at "hp") => `(tactic| first
  | assumption
  | exact upd_same
  | ((refine' SqL.of ?hq); (case hq => walk_at "hp"))
  | ((refine' SqT.of ?hq); (case hq => walk_at "hp"))
  | ((refine' (upd_ne ?hne).trans ?hrest); (case hne => walk_at "ne"); (case hrest => walk_at "hp"))
  | ((refine' ly_at ?hex ?hh); (case hex => assumption); (case hh => walk_at "hp"))
  | ((refine' ly_atF ?hex ?hnn ?hh); (case hex => assumption); (case hh => walk_at "hp"); (case hnn => walk_at "ne"))
  | ((refine' ex_t ?hex ?hh); (case hh => assumption); (case hex => walk_at "ex"))
  | ((refine' ex_l ?hex ?hh); (case hh => assumption); (case hex => walk_at "ex")))
local macro_rules | `(tactic| walk_at "ex") => `(tactic| first
  | assumption
  | exact Ex.refl _
  | ((refine' ex_new ?xa ?xb); (case xb => assumption); (case xa => walk_at "ex"))
  | ((refine' ex_upd ?xa ?xb); (case xb => walk_at "free"); (case xa => walk_at "ex"))
  | ((refine' Ex.trans ?xa ?xb); (case xb => assumption); (case xa => walk_at "ex")))
local macro_rules | `(tactic| walk_at "free") => `(tactic| first
  | assumption
  | ((refine' fresh_back ?xa ?xb); (case xb => assumption); (case xa => walk_at "ex")))
local macro_rules | `(tactic| walk_at "fr") => `(tactic| first
  | assumption
  | exact Fr.refl _ _
  | ((refine' Fr.own ?hq); (case hq => walk_at "fr"))
  | ((refine' Fr.new ?xa ?xb); (case xb => assumption); (case xa => walk_at "fr"))
  | ((refine' Fr.mut ?xa ?xb); (case xb => assumption); (case xa => walk_at "fr"))
  | ((refine' Fr.trans ?xa ?xb); (case xb => assumption); (case xa => walk_at "fr"))
  | ((refine' Fr.trans ?xa (Fr.ex ?xb)); (case xb => assumption); (case xa => walk_at "fr")))
local macro_rules | `(tactic| walk_at "go1") => `(tactic| first
  | (with_reducible refine' w_seq ?_)
  | (with_reducible refine' w_asg ?_)
  | (with_reducible refine' w_ret ?_)
  | (with_reducible refine' w_drop ?_)
  | (with_reducible refine' w_if ?_)
  | (with_reducible refine' w_next ?_)
  | (with_reducible refine' w_name ?_)
  | (with_reducible refine' w_sub ?_)
  | ((with_reducible refine' w_var ?hv ?_); (case hv => exact rfl))
  | (with_reducible refine' w_c ?_)
  | (with_reducible refine' w_op ?_)
  | (with_reducible refine' w_un ?_)
  | (with_reducible refine' w_ch ?_)
  | (with_reducible refine' w_I0 ?_)
  | ((with_reducible refine' w_I ?hc ?_); (case hc => first | (exact ly_mulL (by decide) (by decide)) | (exact ly_mulR (by decide) (by decide)) | (exact ly_mulL (by omega) (by omega)) | (show (_ : Int) ≠ 0; decide) | (show (_ : Int) ≠ 0; omega) | (exact ⟨by decide, by decide⟩) | (exact ⟨by omega, by omega⟩)))
  | (with_reducible refine' w_U ?_)
  | ((with_reducible refine' w_eq ?hs ?_); (case hs => exact rfl))
  | ((with_reducible refine' w_ne ?hs ?_); (case hs => exact rfl))
  | (with_reducible refine' w_isB ?_)
  | (with_reducible refine' w_notB ?_)
  | (with_reducible refine' w_nil ?_)
  | (with_reducible refine' w_cons ?_)
  | (with_reducible refine' w_tup ?_)
  | (with_reducible refine' w_lst ?_)
  | (with_reducible refine' w_cb ?_)
  | (with_reducible refine' w_call ?_)
  | (with_reducible refine' w_bm ?_)
  | (with_reducible refine' w_bm0 ?_)
  | ((with_reducible refine' w_app ?hh ?hz ?_); (case hh => walk_at "hp"); (case hz => first | exact ly_lt (by omega) | exact ly_lt (by simp only [List.length_append, List.length_map, List.length_cons, List.length_nil]; omega)))
  | ((with_reducible refine' w_popA ?hh ?_); (case hh => walk_at "hp"))
  | ((with_reducible refine' w_ext ?hh ?hh2 ?hz ?_); (case hh => walk_at "hp"); (case hh2 => walk_at "hp"))
  | ((with_reducible refine' w_ixL ?hh ?ha ?_); (case hh => walk_at "hp"); (case ha => first | exact rfl | exact at_map (by omega) | exact atI_last _ _ | ((refine' at_of ?ae ?ah); (case ah => assumption); (case ae => omega))))
  | ((with_reducible refine' w_ixT ?hh ?ha ?_); (case hh => walk_at "hp"); (case ha => first | exact rfl | exact at_map (by omega) | exact atI_last _ _ | ((refine' at_of ?ae ?ah); (case ah => assumption); (case ae => omega))))
  | ((with_reducible refine' w_cat ?hh ?hh2 ?hz ?_); (case hh => walk_at "hp"); (case hh2 => walk_at "hp"))
  | ((with_reducible refine' w_setL ?hh ?ha ?_); (case hh => walk_at "hp"); (case ha => exact rfl))
  | (with_reducible refine' w_test ?_)
  | (with_reducible refine' w_tB ?_)
  | (with_reducible refine' w_bl ?_)
  | (with_reducible refine' w_and ?_)
  | (with_reducible refine' w_or ?_)
  | (with_reducible refine' w_not ?_)
  | (with_reducible refine' w_andV ?_)
  | (with_reducible refine' w_orV ?_)
  | (with_reducible refine' w_notV ?_)
  | (with_reducible refine' w_ifE ?_)
  | (with_reducible refine' w_for ?_)
  | ((with_reducible refine' w_nin ?hh ?_); (case hh => walk_at "hp"))
  | ((with_reducible refine' w_sorted ?hh ?_); (case hh => walk_at "hp"))
  | (with_reducible refine' w_tsadd ?_)
  | ((with_reducible refine' w_tsadd1 ?hh ?_); (case hh => walk_at "hp"))
  | ((with_reducible refine' w_sadd ?hh ?hr ?_); (case hh => walk_at "hp"); (case hr => omega))
  | (with_reducible refine' w_iZ ?_)
  | ((with_reducible refine' w_iZ1 ?hh ?hh2 ?_); (case hh => walk_at "hp"); (case hh2 => walk_at "hp"))
  | (with_reducible refine' w_iS ?_)
  | (with_reducible refine' w_iS1 ?_)
  | ((with_reducible refine' w_gtup ?hh ?hn ?_); (case hh => walk_at "hp"); (case hn => exact rfl))
  | (with_reducible refine' w_gcons ?_)
  | (with_reducible refine' w_gnil ?_)
  | (with_reducible refine' w_js ?_)
  | (with_reducible refine' w_jsn ?_)
  | ((with_reducible refine' w_js1 ?hl ?_); (case hl => decide +kernel))
  | (with_reducible refine' w_fmt ?_)
  | ((with_reducible refine' w_fmt1 ?hl ?_); (case hl => decide +kernel))
  | (with_reducible refine' w_callS ?_)
  | ((with_reducible refine' w_truL ?hh ?_); (case hh => walk_at "hp"))
  | (with_reducible refine' w_lc ?_)
  | (with_reducible refine' w_yes ?_)
  | ((with_reducible refine' w_wipe ?he ?_); (case he => exact rfl))
  | (with_reducible refine' w_iL ?_)
  | (with_reducible refine' w_iT ?_)
  | (with_reducible refine' w_iR ?_)
  | ((with_reducible refine' w_iL1 ?hh ?_); (case hh => walk_at "hp"))
  | ((with_reducible refine' w_iT1 ?hh ?_); (case hh => walk_at "hp"))
  | ((with_reducible refine' w_iR1 ?h1 ?h2 ?_); (case h1 => omega); (case h2 => omega))
  | ((with_reducible refine' w_aug ?hv ?_); (case hv => exact rfl))
  | (with_reducible refine' w_ipI ?_)
  | ((with_reducible refine' w_isi ?hy ?hk ?_); (case hy => walk_at "ty"); (case hk => walk_at "kit"))
  | ((with_reducible refine' w_int ?_))
  | ((with_reducible refine' w_intB ?_))
  | ((with_reducible refine' w_abs ?_))
  | ((with_reducible refine' w_lenL ?hh ?_); (case hh => walk_at "hp"))
  | ((with_reducible refine' w_lenT ?hh ?_); (case hh => walk_at "hp"))
  | ((with_reducible refine' w_tupL ?hh ?_); (case hh => walk_at "hp"))
  | ((with_reducible refine' w_tupT ?hh ?_); (case hh => walk_at "hp"))
  | ((with_reducible refine' w_catA ?hh ?hh2 ?hz ?_); (case hh => walk_at "hp"); (case hh2 => walk_at "hp"); (case hz => walk_at "len"))
  | ((with_reducible refine' w_repB ?hh ?hne ?h2 ?h3 ?hz ?_); (case hh => walk_at "hp"); (case hne => simp); (case h2 => omega); (case h3 => omega); (case hz => exact Nat.le_of_ble_eq_true rfl))
  | ((with_reducible refine' w_eqN ?hh ?hh2 ?n1 ?n2 ?_); (case hh => walk_at "hp"); (case hh2 => walk_at "hp"); (case n1 => walk_at "nd"); (case n2 => walk_at "nd"))
  | ((with_reducible refine' w_neN ?hh ?hh2 ?n1 ?n2 ?_); (case hh => walk_at "hp"); (case hh2 => walk_at "hp"); (case n1 => walk_at "nd"); (case n2 => walk_at "nd"))
  | ((with_reducible refine' w_eqL ?hh ?hh2 ?n1 ?n2 ?_); (case hh => walk_at "hp"); (case hh2 => walk_at "hp"); (case n1 => walk_at "nd"); (case n2 => walk_at "nd"))
  | ((with_reducible refine' w_neL ?hh ?hh2 ?n1 ?n2 ?_); (case hh => walk_at "hp"); (case hh2 => walk_at "hp"); (case n1 => walk_at "nd"); (case n2 => walk_at "nd"))
  | ((with_reducible refine' w_neNon ?hh2 ?n2 ?_); (case hh2 => walk_at "hp"); (case n2 => walk_at "nd"))
  | ((with_reducible refine' w_eqNon ?hh2 ?n2 ?_); (case hh2 => walk_at "hp"); (case n2 => walk_at "nd"))
  | ((with_reducible refine' w_slA ?hh ?_); (case hh => walk_at "hp"))
  | ((with_reducible refine' w_disp ?hz ?_); (case hz => exact sz_of (Nat.le_of_ble_eq_true rfl)))
  | ((with_reducible refine' w_tyL ?hh ?_); (case hh => walk_at "hp"))
  | (with_reducible refine' iteT ?_)
  | (with_reducible refine' iteF ?_)
  | (with_reducible refine' w_nT ?_)
  | (with_reducible refine' w_nn ?_)
  | (with_reducible refine' w_nnT ?_)
  | (with_reducible refine' w_nnR ?_)
  | (with_reducible refine' w_neG ?_)
  | (with_reducible refine' w_eqG ?_)
  | (with_reducible refine' w_neS ?_)
  | (with_reducible refine' w_eqS ?_)
  | (with_reducible refine' w_neSb ?_)
  | (with_reducible refine' w_eqSb ?_)
  | (with_reducible refine' w_deIS ?_)
  | (with_reducible refine' w_deSI ?_)
  | (with_reducible refine' w_deISn ?_)
  | ((with_reducible refine' w_deST ?he ?_); (case he => decide +kernel))
  | ((with_reducible refine' w_deSF ?he ?_); (case he => decide +kernel))
  | ((with_reducible refine' w_deSTn ?he ?_); (case he => decide +kernel))
  | ((with_reducible refine' w_deSFn ?he ?_); (case he => decide +kernel))
  | (with_reducible refine' w_nF ?_)
  | dsimp only [Bool.not_true, Bool.not_false])
local macro_rules | `(tactic| walk_at "ty") => `(tactic| first
  | exact .base (.int _) | exact .base (.str _) | exact .base (.bl _) | exact .base .non
  | ((refine' tyx_t ?hq); (case hq => walk_at "hp")) | ((refine' tyx_l ?hq); (case hq => walk_at "hp")) | ((refine' .base (.tup ?hq)); (case hq => walk_at "hp")) | assumption)
local macro_rules | `(tactic| walk_at "go") => `(tactic| repeat walk_at "go1")
local macro_rules | `(tactic| walk_at "st") => `(tactic| try dsimp only [cxOf, Cx.nox, Cx.wish])
local macro_rules | `(tactic| walk_at "kit") => `(tactic| with_reducible first | exact kit_int_int | exact kit_int_str | exact kit_int_bool | exact kit_int_tuple | exact kit_int_list | exact kit_str_int | exact kit_str_str | exact kit_str_bool | exact kit_str_tuple | exact kit_str_list | exact kit_bool_int | exact kit_bool_str | exact kit_bool_bool | exact kit_bool_tuple | exact kit_bool_list | exact kit_NoneType_int | exact kit_NoneType_str | exact kit_NoneType_bool | exact kit_NoneType_tuple | exact kit_NoneType_list | exact kit_list_int | exact kit_list_str | exact kit_list_bool | exact kit_list_tuple | exact kit_list_list | exact kit_tuple_int | exact kit_tuple_str | exact kit_tuple_bool | exact kit_tuple_tuple | exact kit_tuple_list)
local macro_rules | `(tactic| walk_at "nd") => `(tactic| first
  | assumption
  | exact Tm.nds _
  | exact Nds.nil
  | exact Nds.ofInts _
  | ((refine' Nds.cons ?na ?nb); (case na => first | exact Nds.I _ | exact Nds.L | exact Nds.A); (case nb => walk_at "nd"))
  | ((refine' Nds.app ?na ?nb); (case na => walk_at "nd"); (case nb => walk_at "nd"))
  | ((refine' Nds.rep ?na _); (case na => walk_at "nd")))
local macro_rules | `(tactic| walk_at "len") => `(tactic| first
  | exact ly_sz (by omega)
  | ((simp only [List.length_append, List.length_cons, List.length_nil, List.length_map, PyProof.Rows.lm_len_rep_flat]); exact ly_sz (by omega)))
local macro_rules | `(tactic| walk_at "go1") => `(tactic| first
  | (with_reducible refine' w_kget2 ?_)
  | (with_reducible refine' w_isRN ?_)
  | (with_reducible refine' w_isNN ?_)
  | (with_reducible refine' w_isIN ?_)
  | ((with_reducible refine' w_kg ?hd ?_); (case hd => assumption)))
local macro_rules | `(tactic| walk_at "go1") => `(tactic| first
  | ((with_reducible refine' w_extT ?hh ?hh2 ?hz ?_); (case hh => walk_at "hp"); (case hh2 => walk_at "hp"))
  | ((with_reducible refine' w_I ?hc ?_); (case hc => exact ⟨by decide, by decide, by decide⟩))
  | (with_reducible refine' w_sl ?_)
  | (with_reducible refine' w_noP ?_)
  | (with_reducible refine' w_part ?_)
  | (with_reducible refine' w_part1 ?_)
  | (with_reducible refine' w_it ?_)
  | (with_reducible refine' w_it1 ?_)
  | ((with_reducible refine' w_lenZ ?hz ?_); (case hz => omega))
  | ((with_reducible refine' w_addZb ?hz ?_); (case hz => omega))
  | ((with_reducible refine' w_addZf ?hz ?_); (case hz => omega))
  | ((with_reducible refine' w_addZa ?hz ?_); (case hz => omega))
  | ((with_reducible refine' w_inS ?hh ?_); (case hh => walk_at "hp"))
  | ((with_reducible refine' w_ixT ?hh ?ha ?_); (case hh => assumption); (case ha => exact atI_nat (by assumption))))
local macro_rules | `(tactic| walk_at "go1") => `(tactic| first
  | (with_reducible refine' w_iR2 ?_)
  | ((with_reducible refine' w_iR21 ?h1 ?h2 ?h3 ?h4 ?_); (case h1 => omega); (case h2 => omega); (case h3 => omega); (case h4 => omega))
  | (with_reducible refine' w_nnI ?_)
  | (with_reducible refine' w_max ?_)
  | (with_reducible refine' w_break ?_)
  | (with_reducible refine' w_cont ?_))
local macro_rules | `(tactic| walk_at "go1") => `(tactic| first
  | (with_reducible refine' w_m1 ?_)
  | (with_reducible refine' w_m11 ?_)
  | (with_reducible refine' w_st2 ?_)
  | (with_reducible refine' w_sg ?_)
  | (with_reducible refine' w_sg2 ?_)
  | (with_reducible refine' w_sgSp ?_)
  | ((with_reducible refine' w_lcnt ?hh ?_); (case hh => walk_at "hp")))
section
variable {P : Program} {w : World} {K : PySem.W.Frag} {mg : Str → Option Value} {base : Heap} {tk : Nat → Tok} {cl : Nat → Addr}
def spWVar (C : Addr) : Sp := fun vs H Q E => ∃ (i d : Nat) (b1 b2 : Addr) (bs fs : List (List Nat)), vs = [.int (i : Int), .int (d : Int), .ref b1, .ref b2] ∧ H b1 = some (.lst (plcs bs)) ∧ H b2 = some (.lst (plcs fs)) ∧ d ≤ bs.length ∧
  (i < d + fs.length → Q (.str (pl (shw bs fs d (.var i)))) H) ∧ (¬ i < d + fs.length → E (.ref C) none H)
theorem ok_wvar {f : Addr} {fd : FuncData} {k : Nat} (F : Fun K "written_variable" "written_variable" s_written_variable f fd) (T : Txt w K mg tk cl) : FnOk P w K mg base (L2.CX P w) (k + 1) f fd ["number", "depth", "bound", "names"] (spWVar (cl 5)) := by
  refine F.okX sc_written_variable (fun vs H Q E h => ?_) (fun cdv A outer s H vs Q E hr h => ?_)
  · obtain ⟨i, d, b1, b2, bs, fs, rfl, _⟩ := h
    rfl
  · obtain ⟨i, d, b1, b2, bs, fs, rfl, h1, h2, hd, q, x⟩ := h
    refine ⟨_, (pss_cons (ps_if (pt_cmpR op_lt (pv 0) (pv 1) (nomark _)) (pss_one (ps_ret (pe_ix ix_list (pv 2) (pe_op op_sub (pe_op op_sub (pv 1) pe_int) (pv 0)) (fun _ _ => rfl)))) pss_nil) (pss_cons (ps_if (pt_cmpR op_ge (pe_op op_sub (pv 0) (pv 1)) (pe_callB call_len_seq (by rfl) T.n_len (by decide +kernel) (pa_cons (pv 3) pa_nil)) (nomark _)) (pss_one (ps_raise rfl (takes_of rfl rfl rfl rfl) (SkE.pmk_own1 PySem.F.excBase_ValueError T.x_BadNames T.g_BadNames T.k_BadNames (raises_own T.b_BadNames T.t_BadNames) rfl pe_str))) pss_nil) (pss_one (ps_ret (pe_ix ix_list (pv 3) (pe_op op_sub (pv 0) (pv 1)) (fun _ _ => rfl)))))), ?_⟩
    refine sl_of (σ2 := [some _, some _, some _, some _]) rfl ?_
    walk_at "st"
    walk_at "go"
    refine w_br (fun c1 => ?_) (fun c1 => ?_)
    · have hid : i < d := by omega
      have e : shw bs fs d (.var i) = bs.getD (d - 1 - i) [] := if_pos hid
      walk_at "go"
      refine w_ixL (SqL.of h1) (by rw [show ((d : Int) - 1 - (i : Int)) = ((d - 1 - i : Nat) : Int) by omega]; exact atI_nat (plcs_at (by omega))) ?_
      rw [← e]
      exact q (by omega)
    · have hid : ¬ i < d := by omega
      walk_at "go"
      rw [show (plcs fs).length = fs.length from List.length_map _]
      refine w_br (fun c2 => ?_) (fun c2 => ?_)
      · walk_at "go"
        exact x (by omega)
      · have e : shw bs fs d (.var i) = fs.getD (i - d) [] := if_neg hid
        walk_at "go"
        refine w_ixL (SqL.of h2) (by rw [show ((i : Int) - (d : Int)) = ((i - d : Nat) : Int) by omega]; exact atI_nat (plcs_at (by omega))) ?_
        rw [← e]
        exact q (by omega)
def spIsAbs : Sp := fun vs H Q _ => ∃ (c : Nat) (r : List Nat), vs = [.str (pl (c :: r))] ∧ Q (.bl (decide (c = 92))) H
theorem ok_isabs {f : Addr} {fd : FuncData} {k : Nat} (F : Fun K "is_abstraction" "is_abstraction" s_is_abstraction f fd) (T : Txt w K mg tk cl) : FnOk P w K mg base CX0 (k + 1) f fd ["text"] spIsAbs := by
  refine F.ok sc_is_abstraction (fun vs H Q E h => ?_) (fun cdv A outer s H vs Q E hr h => ?_)
  · obtain ⟨c, r, rfl, _⟩ := h
    rfl
  · obtain ⟨c, r, rfl, q⟩ := h
    refine ⟨_, (pss_one (ps_ret (pe_m1 PySem.F.slot_str_startswith PySem.F.type_str_startswith mt_startswith (pv 0) pe_str))), ?_⟩
    refine sl_of (σ2 := [some _]) rfl ?_
    walk_at "st"
    walk_at "go"
    rw [← pl_bs, starts_pl]
    exact q
def spWAbs : Sp := fun vs H Q _ => ∃ (n : List Nat) (c : Nat) (r : List Nat), vs = [.str (pl n), .str (pl (c :: r))] ∧ n.length ≤ 400000 ∧ r.length ≤ 400000 ∧ Q (.str (pl (abT (decide (c = 92)) n (c :: r)))) H
theorem ok_wabs {f : Addr} {fd : FuncData} (F : Fun K "written_abstraction" "written_abstraction" s_written_abstraction f fd) (T : Txt w K mg tk cl) (D1 : Def P w K mg base CX0 1 "is_abstraction" ["text"] spIsAbs) : FnOk P w K mg base CX0 2 f fd ["name", "body"] spWAbs := by
  obtain ⟨f1, fd1, g_is_abstraction, kp_is_abstraction, b_is_abstraction, G_is_abstraction⟩ := D1
  refine F.ok sc_written_abstraction (fun vs H Q E h => ?_) (fun cdv A outer s H vs Q E hr h => ?_)
  · obtain ⟨n, c, r, rfl, _⟩ := h
    rfl
  · obtain ⟨n, c, r, rfl, hn, hl, q⟩ := h
    refine ⟨_, (pss_cons (ps_if (pt_val (pe_call G_is_abstraction (hr.mono (by first | decide | omega)) (by rfl) g_is_abstraction kp_is_abstraction b_is_abstraction .nil pass0 (pa_cons (pv 1) pa_nil))) (pss_one (ps_ret (pe_op op_addZ (pe_op op_addZ (pe_op op_addZ pe_str (pv 0)) pe_str) (pe_slice sl_str (pv 1) (po_some pe_int) po_none)))) pss_nil) (pss_one (ps_ret (pe_op op_addZ (pe_op op_addZ (pe_op op_addZ pe_str (pv 0)) pe_str) (pv 1))))), ?_⟩
    refine sl_of (σ2 := [some _, some _]) rfl ?_
    walk_at "st"
    walk_at "go"
    refine ⟨c, r, rfl, ?_⟩
    walk_at "go"
    unfold abT at q
    refine w_br (fun c1 => ?_) (fun c1 => ?_)
    · rw [if_pos (decide_eq_true c1)] at q
      walk_at "go"
      rw [← pl_bs]
      refine w_addZ (by simp; omega) ?_
      walk_at "go"
      rw [pl_sp]
      refine w_addZ (by simp; omega) ?_
      walk_at "go"
      refine w_slHi (i := 1) (by simp; omega) ?_
      refine w_addZ (by simp; omega) ?_
      simpa using q
    · rw [if_neg (by simpa using c1)] at q
      walk_at "go"
      rw [← pl_bs]
      refine w_addZ (by simp; omega) ?_
      walk_at "go"
      rw [pl_dsp]
      refine w_addZ (by simp; omega) ?_
      walk_at "go"
      refine w_addZ (by simp; omega) ?_
      simpa using q
def spWApp : Sp := fun vs H Q _ => ∃ (c : Nat) (r : List Nat) (a : List Nat), vs = [.str (pl (c :: r)), .str (pl a)] ∧ r.length ≤ 400000 ∧ a.length ≤ 400000 ∧ Q (.str (pl (par (decide (c = 92)) (c :: r) ++ 32 :: par (decide (32 ∈ a)) a))) H
theorem ok_wapp {f : Addr} {fd : FuncData} (F : Fun K "written_application" "written_application" s_written_application f fd) (T : Txt w K mg tk cl) (D1 : Def P w K mg base CX0 1 "is_abstraction" ["text"] spIsAbs) : FnOk P w K mg base CX0 2 f fd ["function", "argument"] spWApp := by
  obtain ⟨f1, fd1, g_is_abstraction, kp_is_abstraction, b_is_abstraction, G_is_abstraction⟩ := D1
  refine F.ok sc_written_application (fun vs H Q E h => ?_) (fun cdv A outer s H vs Q E hr h => ?_)
  · obtain ⟨c, r, a, rfl, _⟩ := h
    rfl
  · obtain ⟨c, r, a, rfl, hl, ha, q⟩ := h
    refine ⟨_, (pss_cut (ps_if (pt_val (pe_call G_is_abstraction (hr.mono (by first | decide | omega)) (by rfl) g_is_abstraction kp_is_abstraction b_is_abstraction .nil pass0 (pa_cons (pv 0) pa_nil))) (pss_one (ps_set (i := 0) sc_written_application.nd rfl (.inl rfl) (pe_joined (.cons pe_str (.cons (pe_fmt (pv 0)) (.cons pe_str .nil)))))) pss_nil) (pss_cut (ps_if (pt_cmpR op_in_sign pe_str (pv 1) rfl) (pss_one (ps_set (i := 1) sc_written_application.nd rfl (.inl rfl) (pe_joined (.cons pe_str (.cons (pe_fmt (pv 1)) (.cons pe_str .nil)))))) pss_nil) (pss_one (ps_ret (pe_joined (.cons (pe_fmt (pv 0)) (.cons pe_str (.cons (pe_fmt (pv 1)) .nil)))))))), ?_⟩
    refine sl_of (σ2 := [some _, some _]) rfl ?_
    walk_at "st"
    walk_at "go"
    refine w_cut (M := fun σ' H' => H' = H ∧ σ' = [some (.str (pl (par (decide (c = 92)) (c :: r)))), some (.str (pl a))]) ?_ ?_
    · walk_at "go"
      refine ⟨c, r, rfl, ?_⟩
      walk_at "go"
      refine w_br (fun c1 => ?_) (fun c1 => ?_)
      · rw [decide_eq_true c1]
        walk_at "go"
        refine ⟨by decide +kernel, ?_⟩
        rw [em_lp]
        walk_at "go"
        refine w_fmtS (by simp; omega) ?_
        refine w_js2 (by simp; omega) ?_
        rw [pl_app]
        walk_at "go"
        rw [lp_rp]
        refine ⟨by rw [pl_len]; exact ly_sz (by simp; omega), ?_⟩
        walk_at "go"
        refine ⟨rfl, ?_⟩
        simp [par]
      · rw [decide_eq_false c1]
        walk_at "go"
        exact ⟨rfl, rfl⟩
    rintro σ' H' ⟨rfl, rfl⟩
    have lp : ∀ (b : Bool) (w : List Nat), (par b w).length ≤ w.length + 2 := fun b w => by
      unfold par
      split <;> simp
    have l1 := lp (decide (c = 92)) (c :: r)
    generalize par (decide (c = 92)) (c :: r) = F0 at *
    have l2 := lp (decide (32 ∈ a)) a
    refine w_cut (M := fun σ' H'' => H'' = H' ∧ σ' = [some (.str (pl F0)), some (.str (pl (par (decide (32 ∈ a)) a)))]) ?_ ?_
    · walk_at "go"
      show if decide (32 ∈ a) = true then _ else _
      refine w_br (fun c1 => ?_) (fun c1 => ?_)
      · rw [decide_eq_true c1]
        walk_at "go"
        refine ⟨by decide +kernel, ?_⟩
        rw [em_lp]
        walk_at "go"
        refine w_fmtS (by omega) ?_
        refine w_js2 (by simp; omega) ?_
        rw [pl_app]
        walk_at "go"
        rw [lp_rp]
        refine ⟨by rw [pl_len]; exact ly_sz (by simp; omega), ?_⟩
        walk_at "go"
        refine ⟨rfl, ?_⟩
        simp [par]
      · rw [decide_eq_false c1]
        walk_at "go"
        exact ⟨rfl, rfl⟩
    rintro σ' H'' ⟨rfl, rfl⟩
    generalize par (decide (32 ∈ a)) a = A0 at *
    walk_at "go"
    have l3 : (c :: r).length = r.length + 1 := rfl
    refine w_fmtS (by omega) ?_
    refine w_js0 (by omega) ?_
    rw [pl_em]
    walk_at "go"
    rw [sp_sp]
    refine ⟨by rw [pl_len]; exact ly_sz (by simp; omega), ?_⟩
    walk_at "go"
    refine w_fmtS (by omega) ?_
    refine w_js2 (by simp; omega) ?_
    rw [pl_app]
    walk_at "go"
    simpa using q
end
end Ly
set_option Elab.async false
set_option linter.all false
set_option maxRecDepth 100000
set_option maxHeartbeats 8000000
namespace Ly
open PySem PySem.Spec PyProof.Rows L2 Evl
local macro_rules | `(tactic| walk_at "ne") => `(tactic| first
  | assumption
  | ((refine' Ne.symm ?hq); (case hq => assumption))
  | ((refine' ne_of_none ?nh1 ?nh2); (case nh2 => assumption); (case nh1 => walk_at "hp"))
  | ((refine' Ne.symm (ne_of_none ?nh1 ?nh2)); (case nh2 => assumption); (case nh1 => walk_at "hp")))
local macro_rules | `(tactic| walk_at "hp") => `(tactic| first
  | assumption
  | exact upd_same
  | ((refine' SqL.of ?hq); (case hq => walk_at "hp"))
  | ((refine' SqT.of ?hq); (case hq => walk_at "hp"))
  | ((refine' (upd_ne ?hne).trans ?hrest); (case hne => walk_at "ne"); (case hrest => walk_at "hp"))
  | ((refine' ly_at ?hex ?hh); (case hex => assumption); (case hh => walk_at "hp"))
  | ((refine' ly_atF ?hex ?hnn ?hh); (case hex => assumption); (case hh => walk_at "hp"); (case hnn => walk_at "ne"))
  | ((refine' ex_t ?hex ?hh); (case hh => assumption); (case hex => walk_at "ex"))
  | ((refine' ex_l ?hex ?hh); (case hh => assumption); (case hex => walk_at "ex")))
local macro_rules | `(tactic| walk_at "ex") => `(tactic| first
  | assumption
  | exact Ex.refl _
  | ((refine' ex_new ?xa ?xb); (case xb => assumption); (case xa => walk_at "ex"))
  | ((refine' ex_upd ?xa ?xb); (case xb => walk_at "free"); (case xa => walk_at "ex"))
  | ((refine' Ex.trans ?xa ?xb); (case xb => assumption); (case xa => walk_at "ex")))
local macro_rules | `(tactic| walk_at "free") => `(tactic| first
  | assumption
  | ((refine' fresh_back ?xa ?xb); (case xb => assumption); (case xa => walk_at "ex")))
local macro_rules | `(tactic| walk_at "fr") => `(tactic| first
  | assumption
  | exact Fr.refl _ _
  | ((refine' Fr.own ?hq); (case hq => walk_at "fr"))
  | ((refine' Fr.new ?xa ?xb); (case xb => assumption); (case xa => walk_at "fr"))
  | ((refine' Fr.mut ?xa ?xb); (case xb => assumption); (case xa => walk_at "fr"))
  | ((refine' Fr.trans ?xa ?xb); (case xb => assumption); (case xa => walk_at "fr"))
  | ((refine' Fr.trans ?xa (Fr.ex ?xb)); (case xb => assumption); (case xa => walk_at "fr")))
local macro_rules | `(tactic| walk_at "go1") => `(tactic| first
  | (with_reducible refine' w_seq ?_)
  | (with_reducible refine' w_asg ?_)
  | (with_reducible refine' w_ret ?_)
  | (with_reducible refine' w_drop ?_)
  | (with_reducible refine' w_if ?_)
  | (with_reducible refine' w_next ?_)
  | (with_reducible refine' w_name ?_)
  | (with_reducible refine' w_sub ?_)
  | ((with_reducible refine' w_var ?hv ?_); (case hv => exact rfl))
  | (with_reducible refine' w_c ?_)
  | (with_reducible refine' w_op ?_)
  | (with_reducible refine' w_un ?_)
  | (with_reducible refine' w_ch ?_)
  | (with_reducible refine' w_I0 ?_)
  | ((with_reducible refine' w_I ?hc ?_); (case hc => first | (exact ly_mulL (by decide) (by decide)) | (exact ly_mulR (by decide) (by decide)) | (exact ly_mulL (by omega) (by omega)) | (show (_ : Int) ≠ 0; decide) | (show (_ : Int) ≠ 0; omega) | (exact ⟨by decide, by decide⟩) | (exact ⟨by omega, by omega⟩)))
  | (with_reducible refine' w_U ?_)
  | ((with_reducible refine' w_eq ?hs ?_); (case hs => exact rfl))
  | ((with_reducible refine' w_ne ?hs ?_); (case hs => exact rfl))
  | (with_reducible refine' w_isB ?_)
  | (with_reducible refine' w_notB ?_)
  | (with_reducible refine' w_nil ?_)
  | (with_reducible refine' w_cons ?_)
  | (with_reducible refine' w_tup ?_)
  | (with_reducible refine' w_lst ?_)
  | (with_reducible refine' w_cb ?_)
  | (with_reducible refine' w_call ?_)
  | (with_reducible refine' w_bm ?_)
  | (with_reducible refine' w_bm0 ?_)
  | ((with_reducible refine' w_app ?hh ?hz ?_); (case hh => walk_at "hp"); (case hz => first | exact ly_lt (by omega) | exact ly_lt (by simp only [List.length_append, List.length_map, List.length_cons, List.length_nil]; omega)))
  | ((with_reducible refine' w_popA ?hh ?_); (case hh => walk_at "hp"))
  | ((with_reducible refine' w_ext ?hh ?hh2 ?hz ?_); (case hh => walk_at "hp"); (case hh2 => walk_at "hp"))
  | ((with_reducible refine' w_ixL ?hh ?ha ?_); (case hh => walk_at "hp"); (case ha => first | exact rfl | exact at_map (by omega) | exact atI_last _ _ | ((refine' at_of ?ae ?ah); (case ah => assumption); (case ae => omega))))
  | ((with_reducible refine' w_ixT ?hh ?ha ?_); (case hh => walk_at "hp"); (case ha => first | exact rfl | exact at_map (by omega) | exact atI_last _ _ | ((refine' at_of ?ae ?ah); (case ah => assumption); (case ae => omega))))
  | ((with_reducible refine' w_cat ?hh ?hh2 ?hz ?_); (case hh => walk_at "hp"); (case hh2 => walk_at "hp"))
  | ((with_reducible refine' w_setL ?hh ?ha ?_); (case hh => walk_at "hp"); (case ha => exact rfl))
  | (with_reducible refine' w_test ?_)
  | (with_reducible refine' w_tB ?_)
  | (with_reducible refine' w_bl ?_)
  | (with_reducible refine' w_and ?_)
  | (with_reducible refine' w_or ?_)
  | (with_reducible refine' w_not ?_)
  | (with_reducible refine' w_andV ?_)
  | (with_reducible refine' w_orV ?_)
  | (with_reducible refine' w_notV ?_)
  | (with_reducible refine' w_ifE ?_)
  | (with_reducible refine' w_for ?_)
  | ((with_reducible refine' w_nin ?hh ?_); (case hh => walk_at "hp"))
  | ((with_reducible refine' w_sorted ?hh ?_); (case hh => walk_at "hp"))
  | (with_reducible refine' w_tsadd ?_)
  | ((with_reducible refine' w_tsadd1 ?hh ?_); (case hh => walk_at "hp"))
  | ((with_reducible refine' w_sadd ?hh ?hr ?_); (case hh => walk_at "hp"); (case hr => omega))
  | (with_reducible refine' w_iZ ?_)
  | ((with_reducible refine' w_iZ1 ?hh ?hh2 ?_); (case hh => walk_at "hp"); (case hh2 => walk_at "hp"))
  | (with_reducible refine' w_iS ?_)
  | (with_reducible refine' w_iS1 ?_)
  | ((with_reducible refine' w_gtup ?hh ?hn ?_); (case hh => walk_at "hp"); (case hn => exact rfl))
  | (with_reducible refine' w_gcons ?_)
  | (with_reducible refine' w_gnil ?_)
  | (with_reducible refine' w_js ?_)
  | (with_reducible refine' w_jsn ?_)
  | ((with_reducible refine' w_js1 ?hl ?_); (case hl => decide +kernel))
  | (with_reducible refine' w_fmt ?_)
  | ((with_reducible refine' w_fmt1 ?hl ?_); (case hl => decide +kernel))
  | (with_reducible refine' w_callS ?_)
  | ((with_reducible refine' w_truL ?hh ?_); (case hh => walk_at "hp"))
  | (with_reducible refine' w_lc ?_)
  | (with_reducible refine' w_yes ?_)
  | ((with_reducible refine' w_wipe ?he ?_); (case he => exact rfl))
  | (with_reducible refine' w_iL ?_)
  | (with_reducible refine' w_iT ?_)
  | (with_reducible refine' w_iR ?_)
  | ((with_reducible refine' w_iL1 ?hh ?_); (case hh => walk_at "hp"))
  | ((with_reducible refine' w_iT1 ?hh ?_); (case hh => walk_at "hp"))
  | ((with_reducible refine' w_iR1 ?h1 ?h2 ?_); (case h1 => omega); (case h2 => omega))
  | ((with_reducible refine' w_aug ?hv ?_); (case hv => exact rfl))
  | (with_reducible refine' w_ipI ?_)
  | ((with_reducible refine' w_isi ?hy ?hk ?_); (case hy => walk_at "ty"); (case hk => walk_at "kit"))
  | ((with_reducible refine' w_int ?_))
  | ((with_reducible refine' w_intB ?_))
  | ((with_reducible refine' w_abs ?_))
  | ((with_reducible refine' w_lenL ?hh ?_); (case hh => walk_at "hp"))
  | ((with_reducible refine' w_lenT ?hh ?_); (case hh => walk_at "hp"))
  | ((with_reducible refine' w_tupL ?hh ?_); (case hh => walk_at "hp"))
  | ((with_reducible refine' w_tupT ?hh ?_); (case hh => walk_at "hp"))
  | ((with_reducible refine' w_catA ?hh ?hh2 ?hz ?_); (case hh => walk_at "hp"); (case hh2 => walk_at "hp"); (case hz => walk_at "len"))
  | ((with_reducible refine' w_repB ?hh ?hne ?h2 ?h3 ?hz ?_); (case hh => walk_at "hp"); (case hne => simp); (case h2 => omega); (case h3 => omega); (case hz => exact Nat.le_of_ble_eq_true rfl))
  | ((with_reducible refine' w_eqN ?hh ?hh2 ?n1 ?n2 ?_); (case hh => walk_at "hp"); (case hh2 => walk_at "hp"); (case n1 => walk_at "nd"); (case n2 => walk_at "nd"))
  | ((with_reducible refine' w_neN ?hh ?hh2 ?n1 ?n2 ?_); (case hh => walk_at "hp"); (case hh2 => walk_at "hp"); (case n1 => walk_at "nd"); (case n2 => walk_at "nd"))
  | ((with_reducible refine' w_eqL ?hh ?hh2 ?n1 ?n2 ?_); (case hh => walk_at "hp"); (case hh2 => walk_at "hp"); (case n1 => walk_at "nd"); (case n2 => walk_at "nd"))
  | ((with_reducible refine' w_neL ?hh ?hh2 ?n1 ?n2 ?_); (case hh => walk_at "hp"); (case hh2 => walk_at "hp"); (case n1 => walk_at "nd"); (case n2 => walk_at "nd"))
  | ((with_reducible refine' w_neNon ?hh2 ?n2 ?_); (case hh2 => walk_at "hp"); (case n2 => walk_at "nd"))
  | ((with_reducible refine' w_eqNon ?hh2 ?n2 ?_); (case hh2 => walk_at "hp"); (case n2 => walk_at "nd"))
  | ((with_reducible refine' w_slA ?hh ?_); (case hh => walk_at "hp"))
  | ((with_reducible refine' w_disp ?hz ?_); (case hz => exact sz_of (Nat.le_of_ble_eq_true rfl)))
  | ((with_reducible refine' w_tyL ?hh ?_); (case hh => walk_at "hp"))
  | (with_reducible refine' iteT ?_)
  | (with_reducible refine' iteF ?_)
  | (with_reducible refine' w_nT ?_)
  | (with_reducible refine' w_nn ?_)
  | (with_reducible refine' w_nnT ?_)
  | (with_reducible refine' w_nnR ?_)
  | (with_reducible refine' w_neG ?_)
  | (with_reducible refine' w_eqG ?_)
  | (with_reducible refine' w_neS ?_)
  | (with_reducible refine' w_eqS ?_)
  | (with_reducible refine' w_neSb ?_)
  | (with_reducible refine' w_eqSb ?_)
  | (with_reducible refine' w_deIS ?_)
  | (with_reducible refine' w_deSI ?_)
  | (with_reducible refine' w_deISn ?_)
  | ((with_reducible refine' w_deST ?he ?_); (case he => decide +kernel))
  | ((with_reducible refine' w_deSF ?he ?_); (case he => decide +kernel))
  | ((with_reducible refine' w_deSTn ?he ?_); (case he => decide +kernel))
  | ((with_reducible refine' w_deSFn ?he ?_); (case he => decide +kernel))
  | (with_reducible refine' w_nF ?_)
  | dsimp only [Bool.not_true, Bool.not_false])
local macro_rules | `(tactic| walk_at "ty") => `(tactic| first
  | exact .base (.int _) | exact .base (.str _) | exact .base (.bl _) | exact .base .non
  | ((refine' tyx_t ?hq); (case hq => walk_at "hp")) | ((refine' tyx_l ?hq); (case hq => walk_at "hp")) | ((refine' .base (.tup ?hq)); (case hq => walk_at "hp")) | assumption)
local macro_rules | `(tactic| walk_at "go") => `(tactic| repeat walk_at "go1")
local macro_rules | `(tactic| walk_at "st") => `(tactic| try dsimp only [cxOf, Cx.nox, Cx.wish])
local macro_rules | `(tactic| walk_at "kit") => `(tactic| with_reducible first | exact kit_int_int | exact kit_int_str | exact kit_int_bool | exact kit_int_tuple | exact kit_int_list | exact kit_str_int | exact kit_str_str | exact kit_str_bool | exact kit_str_tuple | exact kit_str_list | exact kit_bool_int | exact kit_bool_str | exact kit_bool_bool | exact kit_bool_tuple | exact kit_bool_list | exact kit_NoneType_int | exact kit_NoneType_str | exact kit_NoneType_bool | exact kit_NoneType_tuple | exact kit_NoneType_list | exact kit_list_int | exact kit_list_str | exact kit_list_bool | exact kit_list_tuple | exact kit_list_list | exact kit_tuple_int | exact kit_tuple_str | exact kit_tuple_bool | exact kit_tuple_tuple | exact kit_tuple_list)
local macro_rules | `(tactic| walk_at "nd") => `(tactic| first
  | assumption
  | exact Tm.nds _
  | exact Nds.nil
  | exact Nds.ofInts _
  | ((refine' Nds.cons ?na ?nb); (case na => first | exact Nds.I _ | exact Nds.L | exact Nds.A); (case nb => walk_at "nd"))
  | ((refine' Nds.app ?na ?nb); (case na => walk_at "nd"); (case nb => walk_at "nd"))
  | ((refine' Nds.rep ?na _); (case na => walk_at "nd")))
local macro_rules | `(tactic| walk_at "len") => `(tactic| first
  | exact ly_sz (by omega)
  | ((simp only [List.length_append, List.length_cons, List.length_nil, List.length_map, PyProof.Rows.lm_len_rep_flat]); exact ly_sz (by omega)))
local macro_rules | `(tactic| walk_at "go1") => `(tactic| first
  | (with_reducible refine' w_kget2 ?_)
  | (with_reducible refine' w_isRN ?_)
  | (with_reducible refine' w_isNN ?_)
  | (with_reducible refine' w_isIN ?_)
  | ((with_reducible refine' w_kg ?hd ?_); (case hd => assumption)))
local macro_rules | `(tactic| walk_at "go1") => `(tactic| first
  | ((with_reducible refine' w_extT ?hh ?hh2 ?hz ?_); (case hh => walk_at "hp"); (case hh2 => walk_at "hp"))
  | ((with_reducible refine' w_I ?hc ?_); (case hc => exact ⟨by decide, by decide, by decide⟩))
  | (with_reducible refine' w_sl ?_)
  | (with_reducible refine' w_noP ?_)
  | (with_reducible refine' w_part ?_)
  | (with_reducible refine' w_part1 ?_)
  | (with_reducible refine' w_it ?_)
  | (with_reducible refine' w_it1 ?_)
  | ((with_reducible refine' w_lenZ ?hz ?_); (case hz => omega))
  | ((with_reducible refine' w_addZb ?hz ?_); (case hz => omega))
  | ((with_reducible refine' w_addZf ?hz ?_); (case hz => omega))
  | ((with_reducible refine' w_addZa ?hz ?_); (case hz => omega))
  | ((with_reducible refine' w_inS ?hh ?_); (case hh => walk_at "hp"))
  | ((with_reducible refine' w_ixT ?hh ?ha ?_); (case hh => assumption); (case ha => exact atI_nat (by assumption))))
local macro_rules | `(tactic| walk_at "go1") => `(tactic| first
  | (with_reducible refine' w_iR2 ?_)
  | ((with_reducible refine' w_iR21 ?h1 ?h2 ?h3 ?h4 ?_); (case h1 => omega); (case h2 => omega); (case h3 => omega); (case h4 => omega))
  | (with_reducible refine' w_nnI ?_)
  | (with_reducible refine' w_max ?_)
  | (with_reducible refine' w_break ?_)
  | (with_reducible refine' w_cont ?_))
local macro_rules | `(tactic| walk_at "go1") => `(tactic| first
  | (with_reducible refine' w_m1 ?_)
  | (with_reducible refine' w_m11 ?_)
  | (with_reducible refine' w_st2 ?_)
  | (with_reducible refine' w_sg ?_)
  | (with_reducible refine' w_sg2 ?_)
  | (with_reducible refine' w_sgSp ?_)
  | ((with_reducible refine' w_lcnt ?hh ?_); (case hh => walk_at "hp")))
local macro_rules | `(tactic| walk_at "go1") => `(tactic| first
  | (with_reducible refine' w_bmX ?_)
  | ((with_reducible refine' w_bmX1 ?hh ?_); (case hh => assumption))
  | ((with_reducible refine' w_tcnt ?hh ?hn ?_); (case hh => walk_at "hp"); (case hn => walk_at "nd")))
section
variable {P : Program} {w : World} {K : PySem.W.Frag} {mg : Str → Option Value} {base : Heap} {tk : Nat → Tok} {cl : Nat → Addr}
def spShow (K : PySem.W.Frag) (PT C : Addr) : Sp := fun vs H Q E => ∃ (a b : Addr) (t : Tm) (fs : List (List Nat)), vs = [.ref a, .ref b] ∧ SqX H a t.enc ∧ t.enc.length ≤ 1000 ∧ H b = some (.lst (plcs fs)) ∧ fs.length ≤ 1000 ∧ (∀ w ∈ fs, w.length ≤ 1000000) ∧ GxR.TabG H PT ∧
  (NmOk fs → okF fs.length 0 t → ∀ H' bs m, Tb PT H H' → bs = own fs m → bs.length = t.lams → m ≤ t.lams + fs.length → Q (.str (pl (shw bs fs 0 t))) H') ∧ (¬ (NmOk fs ∧ okF fs.length 0 t) → ∀ H', Tb PT H H' → E (.ref C) none H')
theorem decB {p : Prop} [Decidable p] {b : Bool} (h : b = true ↔ p) : decide p = b := by
  cases b with
  | true => exact decide_eq_true (h.mp rfl)
  | false => exact decide_eq_false fun z => nomatch (h.mpr z)
theorem sl_itv {K : PySem.W.Frag} {te : TE} {σ σ2 : L2.St} {H : Hp} {R : It → Hp → Prop} (e : σ = σ2) (h : te σ2 H fun v H1 => ∃ (a : Addr) (xs : List V), v = .ref a ∧ ((SqL K H1 a xs ∧ R (Itv K a xs.length) H1) ∨ (SqT K H1 a xs ∧ R (RT.ItvT K a xs.length) H1))) : RT.iRevA K te σ H R := by
  rw [e]; exact h
theorem ok_show {f : Addr} {fd : FuncData} {PT : Addr} (F : Fun K "show" "show" s_show f fd) (T : Txt w K mg tk cl) (D1 : Def P w K mg base CX0 2 "bound_names" ["count", "taken"] spBound) (D2 : Def P w K mg base (L2.CX P w) 3 "name_table" ["names"] (spTable PT (cl 5)))
    (D3 : Def P w K mg base CX0 1 "depths" ["term"] (spDepths K)) (D4 : Def P w K mg base CX0 2 "written_abstraction" ["name", "body"] spWAbs) (D5 : Def P w K mg base CX0 2 "written_application" ["function", "argument"] spWApp)
    (D6 : Def P w K mg base (L2.CX P w) 1 "written_variable" ["number", "depth", "bound", "names"] (spWVar (cl 5))) : FnOk P w K mg base (L2.CX P w) 6 f fd ["term", "names"] (spShow K PT (cl 5)) := by
  obtain ⟨f1, fd1, g_bound_names, kp_bound_names, b_bound_names, G_bound_names⟩ := D1
  obtain ⟨f2, fd2, g_name_table, kp_name_table, b_name_table, G_name_table⟩ := D2
  obtain ⟨f3, fd3, g_depths, kp_depths, b_depths, G_depths⟩ := D3
  obtain ⟨f4, fd4, g_written_abstraction, kp_written_abstraction, b_written_abstraction, G_written_abstraction⟩ := D4
  obtain ⟨f5, fd5, g_written_application, kp_written_application, b_written_application, G_written_application⟩ := D5
  obtain ⟨f6, fd6, g_written_variable, kp_written_variable, b_written_variable, G_written_variable⟩ := D6
  refine F.okX sc_show (fun vs H Q E h => ?_) (fun cdv A outer s H vs Q E hr h => ?_)
  · obtain ⟨a, b, t, fs, rfl, _⟩ := h
    rfl
  · obtain ⟨a, b, t, fs, rfl, hS, hlen, hb, hl, hwl, ht, q, x⟩ := h
    refine ⟨_, (pss_cons (ps_set (i := 2) sc_show.nd rfl (.inl rfl) (pe_call G_bound_names (hr.mono (by first | decide | omega)) (by rfl) g_bound_names kp_bound_names b_bound_names .nil pass0 (pa_cons (pe_bmX PySem.F.plainAttrs_tuple PySem.F.slot_tuple_count PySem.F.type_tuple_count mt_tcount (pv 0) (pa_cons pe_str pa_nil)) (pa_cons (pe_call G_name_table (hr.mono (by first | decide | omega)) (by rfl) g_name_table kp_name_table b_name_table .nil (passes_call (takes_of rfl rfl rfl rfl) (fun _ _ _ _ h => h)) (pa_cons (pv 1) pa_nil)) pa_nil)))) (pss_cons (ps_set (i := 3) sc_show.nd rfl (.inl rfl) (pe_lst pa_nil)) (pss_cons (ps_for (passes_of rfl) rfl (RT.pi_revA (by rfl) T.n_reversed (pe_listZip rfl (by rfl) T.n_list (by rfl) T.n_zip (pa_cons (pv 0) (pa_cons (pe_call G_depths (hr.mono (by first | decide | omega)) (by rfl) g_depths kp_depths b_depths .nil pass0 (pa_cons (pv 0) pa_nil)) pa_nil)))) (pg_tup (by rfl) (pgs_cons (pg_name (i := 4) sc_show.nd rfl (.inl rfl)) (pgs_cons (pg_name (i := 5) sc_show.nd rfl (.inl rfl)) pgs_nil))) (pss_one (ps_if (pt_cmpR op_eq (pv 4) pe_str (nomark _)) (pss_one (ps_expr (pe_bm PySem.F.plainAttrs_list PySem.F.slot_list_append PySem.F.type_list_append mt_append (pv 3) (pa_cons (pe_call G_written_abstraction (hr.mono (by first | decide | omega)) (by rfl) g_written_abstraction kp_written_abstraction b_written_abstraction .nil pass0 (pa_cons (pe_ix ix_list (pv 2) (pv 5) (fun _ _ => rfl)) (pa_cons (pe_bm0 PySem.F.plainAttrs_list PySem.F.slot_list_pop PySem.F.type_list_pop mt_pop (pv 3)) pa_nil))) pa_nil)))) (pss_one (ps_if (pt_cmpR op_eq (pv 4) pe_str (nomark _)) (pss_cons (ps_set (i := 6) sc_show.nd rfl (.inl rfl) (pe_bm0 PySem.F.plainAttrs_list PySem.F.slot_list_pop PySem.F.type_list_pop mt_pop (pv 3))) (pss_one (ps_expr (pe_bm PySem.F.plainAttrs_list PySem.F.slot_list_append PySem.F.type_list_append mt_append (pv 3) (pa_cons (pe_call G_written_application (hr.mono (by first | decide | omega)) (by rfl) g_written_application kp_written_application b_written_application .nil pass0 (pa_cons (pv 6) (pa_cons (pe_bm0 PySem.F.plainAttrs_list PySem.F.slot_list_pop PySem.F.type_list_pop mt_pop (pv 3)) pa_nil))) pa_nil))))) (pss_one (ps_expr (pe_bm PySem.F.plainAttrs_list PySem.F.slot_list_append PySem.F.type_list_append mt_append (pv 3) (pa_cons (pe_call G_written_variable (hr.mono (by first | decide | omega)) (by rfl) g_written_variable kp_written_variable b_written_variable .nil (passes_call (takes_of rfl rfl rfl rfl) (fun _ _ _ _ h => h)) (pa_cons (pv 4) (pa_cons (pv 5) (pa_cons (pv 2) (pa_cons (pv 1) pa_nil))))) pa_nil))))))))) (pss_one (ps_ret (pe_bm0 PySem.F.plainAttrs_list PySem.F.slot_list_pop PySem.F.type_list_pop mt_pop (pv 3))))))), ?_⟩
    refine sl_of (σ2 := [some _, some _, none, none, none, none, none]) rfl ?_
    walk_at "st"
    walk_at "go"
    refine w_tcnt hS.t (Tm.nds _) ?_
    rw [lams_count]
    have hll := lams_le t
    walk_at "go"
    refine ⟨b, fs, rfl, hb, hl, hwl, ht, fun hok H2 pt kvs t2 hpt ht2 hin => ?_, fun hno H2 t2 => x (fun z => hno z.1) H2 t2⟩
    have hS2 : SqX H2 a t.enc := by
      obtain ⟨ob, h1, h2, h3⟩ := hS
      exact ⟨ob, t2.at ht h1 (fun q z => nomatch z), h2, h3⟩
    have hb2 := t2.lst ht hb
    walk_at "go"
    refine ⟨t.lams, pt, kvs, fs, rfl, ht2, hin, by omega, fun H3 pb bs m e3 hpb hb3 hbs hbl hm => ?_⟩
    have t3 : Tb PT H H3 := t2.trans (Tb.ex t2.1 e3)
    have hS3 := hS2.ex e3
    have hf3 := e3 _ _ hb2
    clear hS2 hb2 hb hS
    walk_at "go"
    intro pw hpw
    have e4 := Ex.new hpw (o := .lst (plcs []))
    have hw4 : upd H3 pw (.lst (plcs [])) pw = some (.lst (plcs [])) := upd_same
    rw [show (HO.lst ([] : List V)) = .lst (plcs []) from rfl]
    have hpw0 := t3.free hpw
    have npb : pb ≠ pw := ne_of_none hb3 hpw
    have nbw : b ≠ pw := ne_of_none hf3 hpw
    have t4 := t3.trans (Tb.ex t3.1 e4)
    have hS4 := hS3.ex e4
    have hf4 := e4 _ _ hf3
    have hb4 := e4 _ _ hb3
    generalize upd H3 pw (.lst (plcs [])) = H4 at *
    clear hS3 hf3 hb3 e4 t3 e3 t2 ht2 hpt
    walk_at "go"
    refine sl_itv (σ2 := [some (.ref a), some (.ref b), some (.ref pb), some (.ref pw), none, none, none]) rfl ?_
    show tListZip K _ _ _ _
    refine w_listZip ?_
    walk_at "go"
    refine ⟨a, t, rfl, hS4.t, by omega, fun H5 pd e5 hpd hd5 => ?_⟩
    have t5 := t4.trans (Tb.ex t4.1 e5)
    have hS5 := hS4.ex e5
    have hf5 := e5 _ _ hf4
    have hb5 := e5 _ _ hb4
    have hw5 := e5 _ _ hw4
    walk_at "go"
    refine ⟨a, pd, t.enc, nums (t.deps 0), rfl, .inr hS5.t, .inl (SqL.of hd5), by rw [List.length_map, Tm.deps_len], fun H6 pz ts Z => ?_⟩
    have t6 := t5.trans (Tb.ex t5.1 Z.ex)
    have hf6 := Z.ex _ _ hf5
    have hb6 := Z.ex _ _ hb5
    have hw6 := Z.ex _ _ hw5
    have nz : pz ≠ pw := fun z => by rw [z] at Z; have := Z.new; rw [hw5] at this; cases this
    clear t5 hS5 hf5 hb5 hw5 t4 hS4 hf4 hb4 hw4 e5 hd5
    refine ⟨pz, _, rfl, .inl ⟨SqL.of Z.lst, ?_⟩⟩
    have hbn : Nms bs := fun w hw => by
      rw [hbs] at hw
      exact nmB_of (own_nm (by omega) w hw)
    have hfn := hok.1
    have hln : (ts.map V.ref).length = t.enc.length := by rw [List.length_map, Z.len]
    refine RT.for_Itv (K := K) (a := pz) (xs := ts.map V.ref) (fun i σ H' => ∃ (y4 y5 y6 : Option V), σ = [some (.ref a), some (.ref b), some (.ref pb), some (.ref pw), y4, y5, y6] ∧ Fr pw H6 H' ∧ H' pw = some (.lst (plcs (stk bs fs t (t.enc.length - i)))) ∧ (∀ p ∈ fo t (t.enc.length - i), okF fs.length p.2 p.1))
      ⟨none, none, none, rfl, Fr.refl _ _, by rw [Nat.sub_zero]; unfold stk; rw [fo_end]; exact hw6, by rw [Nat.sub_zero, fo_end]; simp⟩ (fun i σ H' ⟨_, _, _, _, fr, _⟩ => SqL.of (fr _ _ nz Z.lst)) ?_ ?_
    · rintro i x0 σ H7 hi hx ⟨y4, y5, y6, rfl, fr7, hw7, hok7⟩
      rw [hln] at hi hx
      rw [List.getElem?_map] at hx
      obtain ⟨tj, htj, rfl⟩ := Option.map_eq_some_iff.mp hx
      obtain ⟨v, hv⟩ : ∃ v, t.enc[t.enc.length - 1 - i]? = some v := ⟨_, List.getElem?_eq_getElem (by omega)⟩
      obtain ⟨d, hd⟩ : ∃ d, (t.deps 0)[t.enc.length - 1 - i]? = some d := ⟨_, List.getElem?_eq_getElem (by rw [Tm.deps_len]; omega)⟩
      have htp := Z.tup _ tj v (.int (d : Int)) htj hv (by rw [List.getElem?_map, hd]; rfl)
      have ntj : tj ≠ pw := fun z => by rw [z, hw6] at htp; cases htp
      have htp7 := fr7 _ _ ntj htp
      have hb7 := fr7 _ _ npb hb6
      have hf7 := fr7 _ _ nbw hf6
      have ei : t.enc.length - i = t.enc.length - 1 - i + 1 := by omega
      have ei2 : t.enc.length - (i + 1) = t.enc.length - 1 - i := by omega
      rw [ei] at hw7 hok7
      rw [ei2]
      generalize t.enc.length - 1 - i = j at *
      have hlm := fo_lams t j
      have sl := sizeLine_eq
      walk_at "go"
      have stE : ∀ k, stk bs fs t k = ((fo t k).map fun p => shw bs fs p.2 p.1).reverse := fun _ => rfl
      have hpos := hlm
      obtain ⟨fl1, fl2⟩ := fo_le (t := t) (i := j + 1) (by omega)
      have go_on : ∀ (u : Tm) (r : List (Tm × Nat)), fo t j = (u, d) :: r → stk bs fs t j = (r.map fun p => shw bs fs p.2 p.1).reverse ++ [shw bs fs d u] := fun u r e => by
        rw [stE, e]; simp
      rcases fo_at hv hd with ⟨n, r, rfl, e1, e2⟩ | ⟨u, r, rfl, e1, e2⟩ | ⟨g, u, r, rfl, e1, e2⟩
      · have hdl : d ≤ bs.length := by
          have := hlm _ (by rw [e1]; exact List.mem_cons_self)
          simp only [Tm.lams] at this
          omega
        have st1 : stk bs fs t (j + 1) = (r.map fun p => shw bs fs p.2 p.1).reverse := by rw [stE, e2]
        rw [st1] at hw7
        rw [e2] at hok7
        rw [go_on _ _ e1, e1]
        walk_at "go"
        rw [e2] at fl1
        refine ⟨n, d, pb, b, bs, fs, rfl, hb7, hf7, hdl, fun hin => ?_, fun hno => x (fun z => hno (fo_ok z.2 j (.var n, d) (by rw [e1]; exact List.mem_cons_self))) H7 (t6.own fr7 hpw0 hw6)⟩
        walk_at "go"
        refine w_app hw7 (ly_lt (by simp; omega)) ?_
        refine ⟨_, _, _, rfl, fr7.own, by rw [upd_same]; simp [plcs], fun p hp => ?_⟩
        rcases List.mem_cons.mp hp with rfl | hp
        · exact hin
        · exact hok7 p hp
      · have hdl := hlm _ (by rw [e1]; exact List.mem_cons_self)
        simp only [Tm.lams] at hdl
        have st1 : stk bs fs t (j + 1) = (r.map fun p => shw bs fs p.2 p.1).reverse ++ [shw bs fs (d + 1) u] := by rw [stE, e2]; simp
        rw [st1] at hw7
        rw [e2] at hok7
        rw [go_on _ _ e1, e1]
        walk_at "go"
        rw [e2] at fl1 fl2
        have oku := hok7 _ List.mem_cons_self
        obtain ⟨c, r2, ec, hc⟩ := shw_head hbn hfn u (d + 1) (by omega) oku
        have hlen2 := shw_len hbn hfn u (d + 1) (by omega) oku
        have hsz : u.enc.length ≤ t.enc.length := fl2 _ List.mem_cons_self
        obtain ⟨_, _, _, _, _, hnl⟩ := nm_head (hbn.get (i := d) (by omega))
        have hw8 : H7 pw = some (.lst (plcs (r.map fun p => shw bs fs p.2 p.1).reverse ++ [V.str (pl (c :: r2))])) := by rw [hw7, ec]; simp [plcs]
        rw [ec] at hlen2
        rw [List.length_cons] at hlen2 fl1
        refine w_ixL (SqL.of hb7) (atI_nat (plcs_at (by omega))) ?_
        walk_at "go"
        refine ⟨bs.getD d [], c, r2, rfl, by omega, by omega, ?_⟩
        walk_at "go"
        refine w_app upd_same (ly_lt (by simp; omega)) ?_
        refine ⟨_, _, _, rfl, (fr7.own).own, ?_, fun p hp => ?_⟩
        · rw [upd_same, decB hc, ← ec]
          simp [plcs, shw]
        · rcases List.mem_cons.mp hp with rfl | hp
          · exact oku
          · exact hok7 p (List.mem_cons_of_mem _ hp)
      · have hdl := hlm _ (by rw [e1]; exact List.mem_cons_self)
        simp only [Tm.lams] at hdl
        have st1 : stk bs fs t (j + 1) = (r.map fun p => shw bs fs p.2 p.1).reverse ++ [shw bs fs d u] ++ [shw bs fs d g] := by rw [stE, e2]; simp
        rw [st1] at hw7
        rw [e2] at hok7
        rw [go_on _ _ e1, e1]
        walk_at "go"
        rw [e2] at fl1 fl2
        have okg := hok7 _ List.mem_cons_self
        have oku := hok7 (u, d) (List.mem_cons_of_mem _ List.mem_cons_self)
        obtain ⟨c, r2, ec, hc⟩ := shw_head hbn hfn g d (by omega) okg
        have hsp := shw_space hbn hfn u d (by omega) oku
        have hlen2 := shw_len hbn hfn g d (by omega) okg
        have hlen3 := shw_len hbn hfn u d (by omega) oku
        have hsz : g.enc.length ≤ t.enc.length := fl2 _ List.mem_cons_self
        have hsz2 : u.enc.length ≤ t.enc.length := fl2 (u, d) (List.mem_cons_of_mem _ List.mem_cons_self)
        have hw8 : H7 pw = some (.lst ((plcs (r.map fun p => shw bs fs p.2 p.1).reverse ++ [V.str (pl (shw bs fs d u))]) ++ [V.str (pl (c :: r2))])) := by rw [hw7, ec]; simp [plcs]
        rw [ec] at hlen2
        rw [List.length_cons] at hlen2 fl1
        rw [List.length_cons] at fl1
        refine w_popA hw8 ?_
        walk_at "go"
        refine ⟨c, r2, shw bs fs d u, rfl, by omega, by omega, ?_⟩
        walk_at "go"
        refine w_app upd_same (ly_lt (by simp; omega)) ?_
        refine ⟨_, _, _, rfl, ((fr7.own).own).own, ?_, fun p hp => ?_⟩
        · have hsv : decide (32 ∈ shw bs fs d u) = !u.isV := by
            rw [decB (b := !u.isV) (by rw [Bool.not_eq_true']; exact hsp.symm)]
          rw [upd_same, decB hc, ← ec, hsv]
          simp [plcs, shw]
        · rcases List.mem_cons.mp hp with rfl | hp
          · exact ⟨okg, oku⟩
          · exact hok7 p (List.mem_cons_of_mem _ (List.mem_cons_of_mem _ hp))
    · rintro σ H7 ⟨y4, y5, y6, rfl, fr7, hw7, hok7⟩
      rw [hln, Nat.sub_self] at hw7 hok7
      have hw7 : H7 pw = some (.lst (plcs [shw bs fs 0 t])) := hw7
      have okt : okF fs.length 0 t := hok7 (t, 0) (by simp [fo])
      walk_at "go"
      refine w_popA (xs := []) hw7 ?_
      exact q hok okt _ bs m (Tb.mut (t := ht) (t6.own fr7 hpw0 hw6) hpw0) hbs hbl hm
end
end Ly
set_option Elab.async false
set_option linter.all false
set_option maxRecDepth 100000
set_option maxHeartbeats 8000000
namespace Ly
open PySem PySem.Spec PyProof.Rows L2 Evl
local macro_rules | `(tactic| walk_at "ne") => `(tactic| first
  | assumption
  | ((refine' Ne.symm ?hq); (case hq => assumption))
  | ((refine' ne_of_none ?nh1 ?nh2); (case nh2 => assumption); (case nh1 => walk_at "hp"))
  | ((refine' Ne.symm (ne_of_none ?nh1 ?nh2)); (case nh2 => assumption); (case nh1 => walk_at "hp")))
local macro_rules | `(tactic| walk_at "hp") => `(tactic| first
  | assumption
  | exact upd_same
  | ((refine' SqL.of ?hq); (case hq => walk_at "hp"))
  | ((refine' SqT.of ?hq); (case hq => walk_at "hp"))
  | ((refine' (upd_ne ?hne).trans ?hrest); (case hne => walk_at "ne"); (case hrest => walk_at "hp"))
  | ((refine' ly_at ?hex ?hh); (case hex => assumption); (case hh => walk_at "hp"))
  | ((refine' ly_atF ?hex ?hnn ?hh); (case hex => assumption); (case hh => walk_at "hp"); (case hnn => walk_at "ne"))
  | ((refine' ex_t ?hex ?hh); (case hh => assumption); (case hex => walk_at "ex"))
  | ((refine' ex_l ?hex ?hh); (case hh => assumption); (case hex => walk_at "ex")))
local macro_rules | `(tactic| walk_at "ex") => `(tactic| first
  | assumption
  | exact Ex.refl _
  | ((refine' ex_new ?xa ?xb); (case xb => assumption); (case xa => walk_at "ex"))
  | ((refine' ex_upd ?xa ?xb); (case xb => walk_at "free"); (case xa => walk_at "ex"))
  | ((refine' Ex.trans ?xa ?xb); (case xb => assumption); (case xa => walk_at "ex")))
local macro_rules | `(tactic| walk_at "free") => `(tactic| first
  | assumption
  | ((refine' fresh_back ?xa ?xb); (case xb => assumption); (case xa => walk_at "ex")))
local macro_rules | `(tactic| walk_at "fr") => `(tactic| first
  | assumption
  | exact Fr.refl _ _
  | ((refine' Fr.own ?hq); (case hq => walk_at "fr"))
  | ((refine' Fr.new ?xa ?xb); (case xb => assumption); (case xa => walk_at "fr"))
  | ((refine' Fr.mut ?xa ?xb); (case xb => assumption); (case xa => walk_at "fr"))
  | ((refine' Fr.trans ?xa ?xb); (case xb => assumption); (case xa => walk_at "fr"))
  | ((refine' Fr.trans ?xa (Fr.ex ?xb)); (case xb => assumption); (case xa => walk_at "fr")))
local macro_rules | `(tactic| walk_at "go1") => `(tactic| first
  | (with_reducible refine' w_seq ?_)
  | (with_reducible refine' w_asg ?_)
  | (with_reducible refine' w_ret ?_)
  | (with_reducible refine' w_drop ?_)
  | (with_reducible refine' w_if ?_)
  | (with_reducible refine' w_next ?_)
  | (with_reducible refine' w_name ?_)
  | (with_reducible refine' w_sub ?_)
  | ((with_reducible refine' w_var ?hv ?_); (case hv => exact rfl))
  | (with_reducible refine' w_c ?_)
  | (with_reducible refine' w_op ?_)
  | (with_reducible refine' w_un ?_)
  | (with_reducible refine' w_ch ?_)
  | (with_reducible refine' w_I0 ?_)
  | ((with_reducible refine' w_I ?hc ?_); (case hc => first | (exact ly_mulL (by decide) (by decide)) | (exact ly_mulR (by decide) (by decide)) | (exact ly_mulL (by omega) (by omega)) | (show (_ : Int) ≠ 0; decide) | (show (_ : Int) ≠ 0; omega) | (exact ⟨by decide, by decide⟩) | (exact ⟨by omega, by omega⟩)))
  | (with_reducible refine' w_U ?_)
  | ((with_reducible refine' w_eq ?hs ?_); (case hs => exact rfl))
  | ((with_reducible refine' w_ne ?hs ?_); (case hs => exact rfl))
  | (with_reducible refine' w_isB ?_)
  | (with_reducible refine' w_notB ?_)
  | (with_reducible refine' w_nil ?_)
  | (with_reducible refine' w_cons ?_)
  | (with_reducible refine' w_tup ?_)
  | (with_reducible refine' w_lst ?_)
  | (with_reducible refine' w_cb ?_)
  | (with_reducible refine' w_call ?_)
  | (with_reducible refine' w_bm ?_)
  | (with_reducible refine' w_bm0 ?_)
  | ((with_reducible refine' w_app ?hh ?hz ?_); (case hh => walk_at "hp"); (case hz => first | exact ly_lt (by omega) | exact ly_lt (by simp only [List.length_append, List.length_map, List.length_cons, List.length_nil]; omega)))
  | ((with_reducible refine' w_popA ?hh ?_); (case hh => walk_at "hp"))
  | ((with_reducible refine' w_ext ?hh ?hh2 ?hz ?_); (case hh => walk_at "hp"); (case hh2 => walk_at "hp"))
  | ((with_reducible refine' w_ixL ?hh ?ha ?_); (case hh => walk_at "hp"); (case ha => first | exact rfl | exact at_map (by omega) | exact atI_last _ _ | ((refine' at_of ?ae ?ah); (case ah => assumption); (case ae => omega))))
  | ((with_reducible refine' w_ixT ?hh ?ha ?_); (case hh => walk_at "hp"); (case ha => first | exact rfl | exact at_map (by omega) | exact atI_last _ _ | ((refine' at_of ?ae ?ah); (case ah => assumption); (case ae => omega))))
  | ((with_reducible refine' w_cat ?hh ?hh2 ?hz ?_); (case hh => walk_at "hp"); (case hh2 => walk_at "hp"))
  | ((with_reducible refine' w_setL ?hh ?ha ?_); (case hh => walk_at "hp"); (case ha => exact rfl))
  | (with_reducible refine' w_test ?_)
  | (with_reducible refine' w_tB ?_)
  | (with_reducible refine' w_bl ?_)
  | (with_reducible refine' w_and ?_)
  | (with_reducible refine' w_or ?_)
  | (with_reducible refine' w_not ?_)
  | (with_reducible refine' w_andV ?_)
  | (with_reducible refine' w_orV ?_)
  | (with_reducible refine' w_notV ?_)
  | (with_reducible refine' w_ifE ?_)
  | (with_reducible refine' w_for ?_)
  | ((with_reducible refine' w_nin ?hh ?_); (case hh => walk_at "hp"))
  | ((with_reducible refine' w_sorted ?hh ?_); (case hh => walk_at "hp"))
  | (with_reducible refine' w_tsadd ?_)
  | ((with_reducible refine' w_tsadd1 ?hh ?_); (case hh => walk_at "hp"))
  | ((with_reducible refine' w_sadd ?hh ?hr ?_); (case hh => walk_at "hp"); (case hr => omega))
  | (with_reducible refine' w_iZ ?_)
  | ((with_reducible refine' w_iZ1 ?hh ?hh2 ?_); (case hh => walk_at "hp"); (case hh2 => walk_at "hp"))
  | (with_reducible refine' w_iS ?_)
  | (with_reducible refine' w_iS1 ?_)
  | ((with_reducible refine' w_gtup ?hh ?hn ?_); (case hh => walk_at "hp"); (case hn => exact rfl))
  | (with_reducible refine' w_gcons ?_)
  | (with_reducible refine' w_gnil ?_)
  | (with_reducible refine' w_js ?_)
  | (with_reducible refine' w_jsn ?_)
  | ((with_reducible refine' w_js1 ?hl ?_); (case hl => decide +kernel))
  | (with_reducible refine' w_fmt ?_)
  | ((with_reducible refine' w_fmt1 ?hl ?_); (case hl => decide +kernel))
  | (with_reducible refine' w_callS ?_)
  | ((with_reducible refine' w_truL ?hh ?_); (case hh => walk_at "hp"))
  | (with_reducible refine' w_lc ?_)
  | (with_reducible refine' w_yes ?_)
  | ((with_reducible refine' w_wipe ?he ?_); (case he => exact rfl))
  | (with_reducible refine' w_iL ?_)
  | (with_reducible refine' w_iT ?_)
  | (with_reducible refine' w_iR ?_)
  | ((with_reducible refine' w_iL1 ?hh ?_); (case hh => walk_at "hp"))
  | ((with_reducible refine' w_iT1 ?hh ?_); (case hh => walk_at "hp"))
  | ((with_reducible refine' w_iR1 ?h1 ?h2 ?_); (case h1 => omega); (case h2 => omega))
  | ((with_reducible refine' w_aug ?hv ?_); (case hv => exact rfl))
  | (with_reducible refine' w_ipI ?_)
  | ((with_reducible refine' w_isi ?hy ?hk ?_); (case hy => walk_at "ty"); (case hk => walk_at "kit"))
  | ((with_reducible refine' w_int ?_))
  | ((with_reducible refine' w_intB ?_))
  | ((with_reducible refine' w_abs ?_))
  | ((with_reducible refine' w_lenL ?hh ?_); (case hh => walk_at "hp"))
  | ((with_reducible refine' w_lenT ?hh ?_); (case hh => walk_at "hp"))
  | ((with_reducible refine' w_tupL ?hh ?_); (case hh => walk_at "hp"))
  | ((with_reducible refine' w_tupT ?hh ?_); (case hh => walk_at "hp"))
  | ((with_reducible refine' w_catA ?hh ?hh2 ?hz ?_); (case hh => walk_at "hp"); (case hh2 => walk_at "hp"); (case hz => walk_at "len"))
  | ((with_reducible refine' w_repB ?hh ?hne ?h2 ?h3 ?hz ?_); (case hh => walk_at "hp"); (case hne => simp); (case h2 => omega); (case h3 => omega); (case hz => exact Nat.le_of_ble_eq_true rfl))
  | ((with_reducible refine' w_eqN ?hh ?hh2 ?n1 ?n2 ?_); (case hh => walk_at "hp"); (case hh2 => walk_at "hp"); (case n1 => walk_at "nd"); (case n2 => walk_at "nd"))
  | ((with_reducible refine' w_neN ?hh ?hh2 ?n1 ?n2 ?_); (case hh => walk_at "hp"); (case hh2 => walk_at "hp"); (case n1 => walk_at "nd"); (case n2 => walk_at "nd"))
  | ((with_reducible refine' w_eqL ?hh ?hh2 ?n1 ?n2 ?_); (case hh => walk_at "hp"); (case hh2 => walk_at "hp"); (case n1 => walk_at "nd"); (case n2 => walk_at "nd"))
  | ((with_reducible refine' w_neL ?hh ?hh2 ?n1 ?n2 ?_); (case hh => walk_at "hp"); (case hh2 => walk_at "hp"); (case n1 => walk_at "nd"); (case n2 => walk_at "nd"))
  | ((with_reducible refine' w_neNon ?hh2 ?n2 ?_); (case hh2 => walk_at "hp"); (case n2 => walk_at "nd"))
  | ((with_reducible refine' w_eqNon ?hh2 ?n2 ?_); (case hh2 => walk_at "hp"); (case n2 => walk_at "nd"))
  | ((with_reducible refine' w_slA ?hh ?_); (case hh => walk_at "hp"))
  | ((with_reducible refine' w_disp ?hz ?_); (case hz => exact sz_of (Nat.le_of_ble_eq_true rfl)))
  | ((with_reducible refine' w_tyL ?hh ?_); (case hh => walk_at "hp"))
  | (with_reducible refine' iteT ?_)
  | (with_reducible refine' iteF ?_)
  | (with_reducible refine' w_nT ?_)
  | (with_reducible refine' w_nn ?_)
  | (with_reducible refine' w_nnT ?_)
  | (with_reducible refine' w_nnR ?_)
  | (with_reducible refine' w_neG ?_)
  | (with_reducible refine' w_eqG ?_)
  | (with_reducible refine' w_neS ?_)
  | (with_reducible refine' w_eqS ?_)
  | (with_reducible refine' w_neSb ?_)
  | (with_reducible refine' w_eqSb ?_)
  | (with_reducible refine' w_deIS ?_)
  | (with_reducible refine' w_deSI ?_)
  | (with_reducible refine' w_deISn ?_)
  | ((with_reducible refine' w_deST ?he ?_); (case he => decide +kernel))
  | ((with_reducible refine' w_deSF ?he ?_); (case he => decide +kernel))
  | ((with_reducible refine' w_deSTn ?he ?_); (case he => decide +kernel))
  | ((with_reducible refine' w_deSFn ?he ?_); (case he => decide +kernel))
  | (with_reducible refine' w_nF ?_)
  | dsimp only [Bool.not_true, Bool.not_false])
local macro_rules | `(tactic| walk_at "ty") => `(tactic| first
  | exact .base (.int _) | exact .base (.str _) | exact .base (.bl _) | exact .base .non
  | ((refine' tyx_t ?hq); (case hq => walk_at "hp")) | ((refine' tyx_l ?hq); (case hq => walk_at "hp")) | ((refine' .base (.tup ?hq)); (case hq => walk_at "hp")) | assumption)
local macro_rules | `(tactic| walk_at "go") => `(tactic| repeat walk_at "go1")
local macro_rules | `(tactic| walk_at "st") => `(tactic| try dsimp only [cxOf, Cx.nox, Cx.wish])
local macro_rules | `(tactic| walk_at "kit") => `(tactic| with_reducible first | exact kit_int_int | exact kit_int_str | exact kit_int_bool | exact kit_int_tuple | exact kit_int_list | exact kit_str_int | exact kit_str_str | exact kit_str_bool | exact kit_str_tuple | exact kit_str_list | exact kit_bool_int | exact kit_bool_str | exact kit_bool_bool | exact kit_bool_tuple | exact kit_bool_list | exact kit_NoneType_int | exact kit_NoneType_str | exact kit_NoneType_bool | exact kit_NoneType_tuple | exact kit_NoneType_list | exact kit_list_int | exact kit_list_str | exact kit_list_bool | exact kit_list_tuple | exact kit_list_list | exact kit_tuple_int | exact kit_tuple_str | exact kit_tuple_bool | exact kit_tuple_tuple | exact kit_tuple_list)
local macro_rules | `(tactic| walk_at "nd") => `(tactic| first
  | assumption
  | exact Tm.nds _
  | exact Nds.nil
  | exact Nds.ofInts _
  | ((refine' Nds.cons ?na ?nb); (case na => first | exact Nds.I _ | exact Nds.L | exact Nds.A); (case nb => walk_at "nd"))
  | ((refine' Nds.app ?na ?nb); (case na => walk_at "nd"); (case nb => walk_at "nd"))
  | ((refine' Nds.rep ?na _); (case na => walk_at "nd")))
local macro_rules | `(tactic| walk_at "len") => `(tactic| first
  | exact ly_sz (by omega)
  | ((simp only [List.length_append, List.length_cons, List.length_nil, List.length_map, PyProof.Rows.lm_len_rep_flat]); exact ly_sz (by omega)))
local macro_rules | `(tactic| walk_at "go1") => `(tactic| first
  | (with_reducible refine' w_kget2 ?_)
  | (with_reducible refine' w_isRN ?_)
  | (with_reducible refine' w_isNN ?_)
  | (with_reducible refine' w_isIN ?_)
  | ((with_reducible refine' w_kg ?hd ?_); (case hd => assumption)))
local macro_rules | `(tactic| walk_at "go1") => `(tactic| first
  | ((with_reducible refine' w_extT ?hh ?hh2 ?hz ?_); (case hh => walk_at "hp"); (case hh2 => walk_at "hp"))
  | ((with_reducible refine' w_I ?hc ?_); (case hc => exact ⟨by decide, by decide, by decide⟩))
  | (with_reducible refine' w_sl ?_)
  | (with_reducible refine' w_noP ?_)
  | (with_reducible refine' w_part ?_)
  | (with_reducible refine' w_part1 ?_)
  | (with_reducible refine' w_it ?_)
  | (with_reducible refine' w_it1 ?_)
  | ((with_reducible refine' w_lenZ ?hz ?_); (case hz => omega))
  | ((with_reducible refine' w_addZb ?hz ?_); (case hz => omega))
  | ((with_reducible refine' w_addZf ?hz ?_); (case hz => omega))
  | ((with_reducible refine' w_addZa ?hz ?_); (case hz => omega))
  | ((with_reducible refine' w_inS ?hh ?_); (case hh => walk_at "hp"))
  | ((with_reducible refine' w_ixT ?hh ?ha ?_); (case hh => assumption); (case ha => exact atI_nat (by assumption))))

section
variable {P : Program} {w : World} {K : PySem.W.Frag} {mg : Str → Option Value} {base : Heap} {tk : Nat → Tok} {cl : Nat → Addr}
theorem ok_ldepths {f : Addr} {fd : FuncData} {k : Nat} (F : Fun K "_law_depths" "_law_depths" s_law_depths f fd) (T : Txt w K mg tk cl) : FnOk P w K mg base CX0 (k + 1) f fd ["term"] (spDepths K) := by
  refine F.ok sc_law_depths (fun vs H Q E h => ?_) (fun cdv A outer s H vs Q E hr h => ?_)
  · obtain ⟨a, t, rfl, _⟩ := h
    rfl
  · obtain ⟨a, t, rfl, hS, hlen, q⟩ := h
    refine ⟨_, (pss_cons (ps_set (i := 1) sc_law_depths.nd rfl (.inl rfl) (pe_lst pa_nil)) (pss_cons (ps_set (i := 2) sc_law_depths.nd rfl (.inl rfl) (pe_lst (pa_cons pe_int pa_nil))) (pss_cons (ps_for PassesOwn.never rfl (pi_tup (pv 0)) (pg_name (i := 3) sc_law_depths.nd rfl (.inl rfl)) (pss_cons (ps_set (i := 4) sc_law_depths.nd rfl (.inl rfl) (pe_bm0 PySem.F.plainAttrs_list PySem.F.slot_list_pop PySem.F.type_list_pop mt_pop (pv 2))) (pss_cons (ps_expr (pe_bm PySem.F.plainAttrs_list PySem.F.slot_list_append PySem.F.type_list_append mt_append (pv 1) (pa_cons (pv 4) pa_nil))) (pss_one (ps_if (pt_cmpR op_eq (pv 3) pe_str (nomark _)) (pss_one (ps_expr (pe_bm PySem.F.plainAttrs_list PySem.F.slot_list_append PySem.F.type_list_append mt_append (pv 2) (pa_cons (pe_op op_add (pv 4) pe_int) pa_nil)))) (pss_one (ps_if (pt_cmpR op_eq (pv 3) pe_str (nomark _)) (pss_cons (ps_expr (pe_bm PySem.F.plainAttrs_list PySem.F.slot_list_append PySem.F.type_list_append mt_append (pv 2) (pa_cons (pv 4) pa_nil))) (pss_one (ps_expr (pe_bm PySem.F.plainAttrs_list PySem.F.slot_list_append PySem.F.type_list_append mt_append (pv 2) (pa_cons (pv 4) pa_nil))))) pss_nil))))))) (pss_one (ps_ret (pv 1)))))), ?_⟩
    refine sl_of (σ2 := [some _, none, none, none, none]) rfl ?_
    walk_at "st"
    walk_at "go"
    intro fl hfl
    walk_at "go"
    intro wl hwl
    have hwf : wl ≠ fl := (ne_of_none upd_same hwl).symm
    have hwl0 : H wl = none := by
      rw [upd_ne hwf] at hwl
      exact hwl
    walk_at "go"
    refine for_tup (K := K) (a := a) (xs := t.enc) (fun i σ H' => ∃ found ds y1 y2, σ = [some (.ref a), some (.ref fl), some (.ref wl), y1, y2] ∧ Ex H H' ∧ H' fl = some (.lst (nums found)) ∧ H' wl = some (.lst (nums ds)) ∧ DInv t i found ds ∧ found.length = i ∧ ds.length ≤ i + 1)
      ⟨[], [0], none, none, rfl, by walk_at "ex", by walk_at "hp", upd_same, DInv.start t, rfl, by simp⟩ (fun i σ H' _ h => by obtain ⟨_, _, _, _, _, e, _⟩ := h; exact ex_t e hS) ?_ ?_
    · rintro i v σ H1 hi ⟨found, ds, y1, y2, rfl, e1, hf1, hw1, hinv, hfl1, hds1⟩
      have hlt : i < t.enc.length := (List.getElem?_eq_some_iff.mp hi).1
      obtain ⟨r, d, rfl, hstep⟩ := hinv.step hi
      have hw1b : H1 wl = some (.lst (nums r ++ [V.int d])) := by rw [hw1]; simp [nums]
      have el : (nums found).length = found.length := List.length_map _
      have el2 : (nums r).length = r.length := List.length_map _
      have hrl : r.length ≤ i := by simpa using hds1
      have ef : nums found ++ [V.int d] = nums (found ++ [d]) := by simp [nums]
      rcases hstep with ⟨n, rfl, hn⟩ | ⟨rfl, hn⟩ | ⟨rfl, hn⟩
      · walk_at "go"
        refine ⟨found ++ [d], r, _, _, rfl, by walk_at "ex", ?_, by walk_at "hp", hn, by simp [hfl1], by omega⟩
        rw [← ef]
        walk_at "hp"
      · walk_at "go"
        refine ⟨found ++ [d], r ++ [d + 1], _, _, rfl, by walk_at "ex", ?_, ?_, hn, by simp [hfl1], by simp; omega⟩
        · rw [← ef]
          walk_at "hp"
        · rw [upd_same]
          simp [nums]
      · walk_at "go"
        refine ⟨found ++ [d], r ++ [d] ++ [d], _, _, rfl, by walk_at "ex", ?_, ?_, hn, by simp [hfl1], by simp; omega⟩
        · rw [← ef]
          walk_at "hp"
        · rw [upd_same]
          simp [nums]
    · rintro σ H1 ⟨found, ds, y1, y2, rfl, e1, hf1, hw1, hinv, hfl1, hds1⟩
      walk_at "go"
      rw [hinv.done] at hf1
      exact q H1 fl e1 hfl hf1
def spLawLift (K : PySem.W.Frag) : Sp := fun vs H Q _ => ∃ (a : Addr) (t : Tm) (c : Nat), vs = [.ref a, .int (c : Int)] ∧ SqT K H a t.enc ∧ t.enc.length ≤ 90000 ∧
  ∀ H' p, Ex H H' → SqT K H' p (t.vmap (lif c) 0).enc → Q (.ref p) H'
theorem ok_lawlift {f : Addr} {fd : FuncData} (F : Fun K "_law_lift" "_law_lift" s_law_lift f fd) (T : Txt w K mg tk cl)
    (D1 : Def P w K mg base CX0 1 "_law_depths" ["term"] (spDepths K)) : FnOk P w K mg base CX0 2 f fd ["term", "count"] (spLawLift K) := by
  obtain ⟨f1, fd1, g_law_depths, kp_law_depths, b_law_depths, G_law_depths⟩ := D1
  refine F.ok sc_law_lift (fun vs H Q E h => ?_) (fun cdv A outer s H vs Q E hr h => ?_)
  · obtain ⟨a, t, c, rfl, _⟩ := h
    rfl
  · obtain ⟨a, t, c, rfl, hS, hlen, q⟩ := h
    refine ⟨_, (pss_cons (ps_set (i := 2) sc_law_lift.nd rfl (.inl rfl) (pe_lst pa_nil)) (pss_cons (ps_set (i := 3) sc_law_lift.nd rfl (.inl rfl) (pe_call G_law_depths (hr.mono (by first | decide | omega)) (by rfl) g_law_depths kp_law_depths b_law_depths .nil pass0 (pa_cons (pv 0) pa_nil))) (pss_cons (ps_for PassesOwn.never rfl (pi_range1 (by rfl) T.n_range (pa_cons (pe_callB call_len_seq (by rfl) T.n_len (by decide +kernel) (pa_cons (pv 0) pa_nil)) pa_nil)) (pg_name (i := 4) sc_law_lift.nd rfl (.inl rfl)) (pss_one (ps_if (PW.pt (pw_and (pt_val (pe_callB call_isi (by rfl) T.n_isinstance (by decide +kernel) (pa_cons (pe_ix ix_tup (pv 0) (pv 4) (fun _ _ => rfl)) (pa_cons (pe_bltn (v := .ty "int") (by rfl) T.n_int (by decide +kernel) rfl) pa_nil)))) (pw_and1 (pt_cmpR op_ge (pe_ix ix_tup (pv 0) (pv 4) (fun _ _ => rfl)) (pe_ix ix_list (pv 3) (pv 4) (fun _ _ => rfl)) (nomark _))))) (pss_one (ps_expr (pe_bm PySem.F.plainAttrs_list PySem.F.slot_list_append PySem.F.type_list_append mt_append (pv 2) (pa_cons (pe_op op_add (pe_ix ix_tup (pv 0) (pv 4) (fun _ _ => rfl)) (pv 1)) pa_nil)))) (pss_one (ps_expr (pe_bm PySem.F.plainAttrs_list PySem.F.slot_list_append PySem.F.type_list_append mt_append (pv 2) (pa_cons (pe_ix ix_tup (pv 0) (pv 4) (fun _ _ => rfl)) pa_nil))))))) (pss_one (ps_ret (pe_callTy call_tuple_of (by rfl) T.n_tuple (by decide +kernel) (pa_cons (pv 2) pa_nil))))))), ?_⟩
    refine sl_of (σ2 := [some _, some _, none, none, none]) rfl ?_
    walk_at "st"
    walk_at "go"
    intro nl hnl
    walk_at "go"
    refine ⟨a, t, rfl, by walk_at "hp", by omega, fun H1 dl e1 hdl hdn => ?_⟩
    walk_at "go"
    have hdn0 : dl ≠ nl := (ne_of_none upd_same hdl).symm
    have hn1 : H1 nl = some (.lst []) := by walk_at "hp"
    have eH1 : Ex H H1 := by walk_at "ex"
    have hS1 : SqT K H1 a t.enc := ex_t eH1 hS
    walk_at "go"
    refine for_range (lo := 0) (n := (t.enc.length : Int).toNat) (fun i σ H' => ∃ y, σ = [some (.ref a), some (.int (c : Int)), some (.ref nl), some (.ref dl), y] ∧ Ex H H' ∧ H' dl = some (.lst (nums (t.deps 0))) ∧
        H' nl = some (.lst ((List.zipWith (vm (lif c)) t.enc (t.deps 0)).take i))) ⟨none, rfl, eH1, hdn, hn1⟩ ?_ ?_
    · rintro i σ H2 hi ⟨y, rfl, e2, hd2, hs2⟩
      have hil : i < t.enc.length := by omega
      obtain ⟨x, hx⟩ : ∃ x, t.enc[i]? = some x := ⟨_, List.getElem?_eq_getElem hil⟩
      obtain ⟨d, hd⟩ : ∃ d, (t.deps 0)[i]? = some d := ⟨_, List.getElem?_eq_getElem (by rw [t.deps_len]; exact hil)⟩
      have hdn2 : (nums (t.deps 0))[i]? = some (.int (d : Int)) := by rw [List.getElem?_map, hd]; rfl
      have hS2 := ex_t e2 hS
      have tk1 := zip_take (f := vm (lif c)) hx hd
      have ll : ((List.zipWith (vm (lif c)) t.enc (t.deps 0)).take i).length < 100000 := by
        rw [List.length_take]
        omega
      walk_at "go"
      rcases Tm.int_nat (List.mem_of_getElem? hx) with ⟨m, rfl⟩ | rfl | rfl
      · walk_at "go"
        refine w_br (fun h3 => ?_) (fun h3 => ?_)
        · walk_at "go"
          refine ⟨_, rfl, by walk_at "ex", by walk_at "hp", ?_⟩
          have ev : vm (lif c) (.int m) d = .int ((m : Int) + c) := by
            simp only [vm, lif, Int.toNat_natCast]
            rw [if_pos (by omega), Int.natCast_add]
          rw [upd_same, tk1, ev]
        · walk_at "go"
          refine ⟨_, rfl, by walk_at "ex", by walk_at "hp", ?_⟩
          have ev : vm (lif c) (.int m) d = .int m := by
            simp only [vm, lif, Int.toNat_natCast]
            rw [if_neg (by omega)]
          rw [upd_same, tk1, ev]
      · walk_at "go"
        refine ⟨_, rfl, by walk_at "ex", by walk_at "hp", ?_⟩
        rw [upd_same, tk1]
        rfl
      · walk_at "go"
        refine ⟨_, rfl, by walk_at "ex", by walk_at "hp", ?_⟩
        rw [upd_same, tk1]
        rfl
    · rintro σ H2 ⟨y, rfl, e2, hd2, hs2⟩
      walk_at "go"
      intro p hp
      walk_at "go"
      have all : (List.zipWith (vm (lif c)) t.enc (t.deps 0)).take (t.enc.length : Int).toNat = (t.vmap (lif c) 0).enc := by
        rw [Tm.enc_vmap]
        exact List.take_of_length_le (by simp [Tm.deps_len])
      rw [all]
      exact q _ p (by walk_at "ex") (by walk_at "hp")
def spLawPut (K : PySem.W.Frag) : Sp := fun vs H Q _ => ∃ (a b : Addr) (t u : Tm), vs = [.ref a, .ref b] ∧ SqT K H a t.enc ∧ SqT K H b u.enc ∧ t.enc.length ≤ 2000 ∧ u.enc.length ≤ 2000 ∧
  ∀ H' p, Ex H H' → SqT K H' p (Tm.put u 0 t).enc → Q (.ref p) H'
theorem ok_lawput {f : Addr} {fd : FuncData} (F : Fun K "_law_put" "_law_put" s_law_put f fd) (T : Txt w K mg tk cl)
    (D1 : Def P w K mg base CX0 1 "_law_depths" ["term"] (spDepths K)) (D2 : Def P w K mg base CX0 2 "_law_lift" ["term", "count"] (spLawLift K)) : FnOk P w K mg base CX0 3 f fd ["term", "value"] (spLawPut K) := by
  obtain ⟨f1, fd1, g_law_depths, kp_law_depths, b_law_depths, G_law_depths⟩ := D1
  obtain ⟨f2, fd2, g_law_lift, kp_law_lift, b_law_lift, G_law_lift⟩ := D2
  refine F.ok sc_law_put (fun vs H Q E h => ?_) (fun cdv A outer s H vs Q E hr h => ?_)
  · obtain ⟨a, b, t, u, rfl, _⟩ := h
    rfl
  · obtain ⟨a, b, t, u, rfl, hS, hU, hlen, hul, q⟩ := h
    refine ⟨_, (pss_cons (ps_set (i := 2) sc_law_put.nd rfl (.inl rfl) (pe_lst pa_nil)) (pss_cons (ps_set (i := 3) sc_law_put.nd rfl (.inl rfl) (pe_call G_law_depths (hr.mono (by first | decide | omega)) (by rfl) g_law_depths kp_law_depths b_law_depths .nil pass0 (pa_cons (pv 0) pa_nil))) (pss_cons (ps_for PassesOwn.never rfl (pi_range1 (by rfl) T.n_range (pa_cons (pe_callB call_len_seq (by rfl) T.n_len (by decide +kernel) (pa_cons (pv 0) pa_nil)) pa_nil)) (pg_name (i := 4) sc_law_put.nd rfl (.inl rfl)) (pss_one (ps_if (PW.pt (pw_or (pt_not (pt_val (pe_callB call_isi (by rfl) T.n_isinstance (by decide +kernel) (pa_cons (pe_ix ix_tup (pv 0) (pv 4) (fun _ _ => rfl)) (pa_cons (pe_bltn (v := .ty "int") (by rfl) T.n_int (by decide +kernel) rfl) pa_nil))))) (pw_or1 (pt_cmpR op_lt (pe_ix ix_tup (pv 0) (pv 4) (fun _ _ => rfl)) (pe_ix ix_list (pv 3) (pv 4) (fun _ _ => rfl)) (nomark _))))) (pss_one (ps_expr (pe_bm PySem.F.plainAttrs_list PySem.F.slot_list_append PySem.F.type_list_append mt_append (pv 2) (pa_cons (pe_ix ix_tup (pv 0) (pv 4) (fun _ _ => rfl)) pa_nil)))) (pss_one (ps_if (pt_cmpR op_eq (pe_ix ix_tup (pv 0) (pv 4) (fun _ _ => rfl)) (pe_ix ix_list (pv 3) (pv 4) (fun _ _ => rfl)) (nomark _)) (pss_one (ps_expr (pe_bm PySem.F.plainAttrs_list PySem.F.slot_list_extend PySem.F.type_list_extend mt_extT (pv 2) (pa_cons (pe_call G_law_lift (hr.mono (by first | decide | omega)) (by rfl) g_law_lift kp_law_lift b_law_lift .nil pass0 (pa_cons (pv 1) (pa_cons (pe_ix ix_list (pv 3) (pv 4) (fun _ _ => rfl)) pa_nil))) pa_nil)))) (pss_one (ps_expr (pe_bm PySem.F.plainAttrs_list PySem.F.slot_list_append PySem.F.type_list_append mt_append (pv 2) (pa_cons (pe_op op_sub (pe_ix ix_tup (pv 0) (pv 4) (fun _ _ => rfl)) pe_int) pa_nil))))))))) (pss_one (ps_ret (pe_callTy call_tuple_of (by rfl) T.n_tuple (by decide +kernel) (pa_cons (pv 2) pa_nil))))))), ?_⟩
    refine sl_of (σ2 := [some _, some _, none, none, none]) rfl ?_
    walk_at "st"
    walk_at "go"
    intro nl hnl
    walk_at "go"
    refine ⟨a, t, rfl, by walk_at "hp", by omega, fun H1 dl e1 hdl hdn => ?_⟩
    walk_at "go"
    have hdn0 : dl ≠ nl := (ne_of_none upd_same hdl).symm
    have hn1 : H1 nl = some (.lst []) := by walk_at "hp"
    have eH1 : Ex H H1 := by walk_at "ex"
    have hS1 : SqT K H1 a t.enc := ex_t eH1 hS
    have full := Tm.enc_put u t 0
    walk_at "go"
    refine for_range (lo := 0) (n := (t.enc.length : Int).toNat) (fun i σ H' => ∃ y, σ = [some (.ref a), some (.ref b), some (.ref nl), some (.ref dl), y] ∧ Ex H H' ∧ H' dl = some (.lst (nums (t.deps 0))) ∧
        H' nl = some (.lst ((List.zipWith (pvs u) t.enc (t.deps 0)).take i).flatten)) ⟨none, rfl, eH1, hdn, hn1⟩ ?_ ?_
    · rintro i σ H2 hi ⟨y, rfl, e2, hd2, hs2⟩
      have hil : i < t.enc.length := by omega
      obtain ⟨x, hx⟩ : ∃ x, t.enc[i]? = some x := ⟨_, List.getElem?_eq_getElem hil⟩
      obtain ⟨d, hd⟩ : ∃ d, (t.deps 0)[i]? = some d := ⟨_, List.getElem?_eq_getElem (by rw [t.deps_len]; exact hil)⟩
      have hdn2 : (nums (t.deps 0))[i]? = some (.int (d : Int)) := by rw [List.getElem?_map, hd]; rfl
      have hS2 := ex_t e2 hS
      have hU2 := ex_t e2 hU
      have tk1 := zip_take (f := pvs u) hx hd
      have tk2 : ((List.zipWith (pvs u) t.enc (t.deps 0)).take (i + 1)).flatten = ((List.zipWith (pvs u) t.enc (t.deps 0)).take i).flatten ++ pvs u x d := by
        rw [tk1, List.flatten_append]
        simp
      have ll := pre_len (u := u) (xs := t.enc) (ds := t.deps 0) i
      have l3 : i * u.enc.length ≤ 2000 * 2000 := Nat.mul_le_mul (by omega) hul
      generalize ((List.zipWith (pvs u) t.enc (t.deps 0)).take i).flatten = done at *
      walk_at "go"
      rcases Tm.int_nat (List.mem_of_getElem? hx) with ⟨m, rfl⟩ | rfl | rfl
      · walk_at "go"
        refine w_br (fun h3 => ?_) (fun h3 => ?_)
        · walk_at "go"
          refine ⟨_, rfl, by walk_at "ex", by walk_at "hp", ?_⟩
          rw [upd_same, tk2, pvs_low (by omega)]
        · walk_at "go"
          refine w_brI (fun h4 => ?_) (fun h4 => ?_)
          · have e0 : m = d := by omega
            subst e0
            have vl := Tm.vmap_len (lif m) u 0
            walk_at "go"
            refine ⟨b, u, m, rfl, hU2, by omega, fun H3 pl e3 hpl => ?_⟩
            have hs3 := e3 _ _ hs2
            have hd3 := e3 _ _ hd2
            have ee := e2.trans e3
            walk_at "go"
            · exact ly_sz (by omega)
            walk_at "go"
            refine ⟨_, rfl, by walk_at "ex", by walk_at "hp", ?_⟩
            rw [upd_same, tk2, pvs_at]
          · walk_at "go"
            refine ⟨_, rfl, by walk_at "ex", by walk_at "hp", ?_⟩
            rw [upd_same, tk2, pvs_high (by omega)]
      · walk_at "go"
        refine ⟨_, rfl, by walk_at "ex", by walk_at "hp", ?_⟩
        rw [upd_same, tk2]
        rfl
      · walk_at "go"
        refine ⟨_, rfl, by walk_at "ex", by walk_at "hp", ?_⟩
        rw [upd_same, tk2]
        rfl
    · rintro σ H2 ⟨y, rfl, e2, hd2, hs2⟩
      have all : ((List.zipWith (pvs u) t.enc (t.deps 0)).take (t.enc.length : Int).toNat).flatten = (Tm.put u 0 t).enc := by
        rw [full, List.take_of_length_le (by simp [Tm.deps_len])]
      rw [all] at hs2
      walk_at "go"
      intro p hp
      walk_at "go"
      exact q _ p (by walk_at "ex") (by walk_at "hp")
theorem ok_lplaces {f : Addr} {fd : FuncData} {k : Nat} (F : Fun K "_law_places" "_law_places" s_law_places f fd) (T : Txt w K mg tk cl) : FnOk P w K mg base CX0 (k + 1) f fd ["term"] (spLPlaces K) := by
  refine F.ok sc_law_places (fun vs H Q E h => ?_) (fun cdv A outer s H vs Q E hr h => ?_)
  · obtain ⟨a, t, rfl, _⟩ := h
    rfl
  · obtain ⟨a, t, rfl, hS, hlen, q⟩ := h
    refine ⟨_, (pss_cons (ps_set (i := 1) sc_law_places.nd rfl (.inl rfl) (pe_lst pa_nil)) (pss_cons (ps_set (i := 2) sc_law_places.nd rfl (.inl rfl) (pe_lst (pa_cons pe_str pa_nil))) (pss_cons (ps_for PassesOwn.never rfl (pi_tup (pv 0)) (pg_name (i := 3) sc_law_places.nd rfl (.inl rfl)) (pss_cons (ps_set (i := 4) sc_law_places.nd rfl (.inl rfl) (pe_bm0 PySem.F.plainAttrs_list PySem.F.slot_list_pop PySem.F.type_list_pop mt_pop (pv 2))) (pss_cons (ps_expr (pe_bm PySem.F.plainAttrs_list PySem.F.slot_list_append PySem.F.type_list_append mt_append (pv 1) (pa_cons (pv 4) pa_nil))) (pss_one (ps_if (pt_cmpR op_eq (pv 3) pe_str (nomark _)) (pss_one (ps_expr (pe_bm PySem.F.plainAttrs_list PySem.F.slot_list_append PySem.F.type_list_append mt_append (pv 2) (pa_cons (pe_op op_addZ (pv 4) pe_str) pa_nil)))) (pss_one (ps_if (pt_cmpR op_eq (pv 3) pe_str (nomark _)) (pss_cons (ps_expr (pe_bm PySem.F.plainAttrs_list PySem.F.slot_list_append PySem.F.type_list_append mt_append (pv 2) (pa_cons (pe_op op_addZ (pv 4) pe_str) pa_nil))) (pss_one (ps_expr (pe_bm PySem.F.plainAttrs_list PySem.F.slot_list_append PySem.F.type_list_append mt_append (pv 2) (pa_cons (pe_op op_addZ (pv 4) pe_str) pa_nil))))) pss_nil))))))) (pss_one (ps_ret (pv 1)))))), ?_⟩
    refine sl_of (σ2 := [some _, none, none, none, none]) rfl ?_
    walk_at "st"
    walk_at "go"
    intro fl hfl
    walk_at "go"
    intro wl hwl
    have hwf : wl ≠ fl := (ne_of_none upd_same hwl).symm
    have hwl0 : H wl = none := by
      rw [upd_ne hwf] at hwl
      exact hwl
    rw [pl_e]
    walk_at "go"
    refine for_tup (K := K) (a := a) (xs := t.enc) (fun i σ H' => ∃ found ds y1 y2, σ = [some (.ref a), some (.ref fl), some (.ref wl), y1, y2] ∧ Ex H H' ∧ H' fl = some (.lst (plcs found)) ∧ H' wl = some (.lst (plcs ds)) ∧ PInv t i found ds ∧ found.length = i ∧ ds.length ≤ i + 1 ∧ ∀ d ∈ ds, d.length ≤ i)
      ⟨[], [[]], none, none, rfl, by walk_at "ex", by walk_at "hp", upd_same, PInv.start t, rfl, by simp, by simp⟩ (fun i σ H' _ h => by obtain ⟨_, _, _, _, _, e, _⟩ := h; exact ex_t e hS) ?_ ?_
    · rintro i v σ H1 hi ⟨found, ds, y1, y2, rfl, e1, hf1, hw1, hinv, hfl1, hds1, hdl1⟩
      have hlt : i < t.enc.length := (List.getElem?_eq_some_iff.mp hi).1
      obtain ⟨r, d, rfl, hstep⟩ := hinv.step hi
      have hw1b : H1 wl = some (.lst (plcs r ++ [V.str (pl d)])) := by rw [hw1]; simp [plcs]
      have el : (plcs found).length = found.length := List.length_map _
      have el2 : (plcs r).length = r.length := List.length_map _
      have hrl : r.length ≤ i := by simpa using hds1
      have hdl : d.length ≤ i := hdl1 d (by simp)
      have hrd : ∀ x ∈ r, x.length ≤ i + 1 := fun x hx => Nat.le_succ_of_le (hdl1 x (by simp [hx]))
      have ef : plcs found ++ [V.str (pl d)] = plcs (found ++ [d]) := by simp [plcs]
      rcases hstep with ⟨n, rfl, hn⟩ | ⟨rfl, hn⟩ | ⟨rfl, hn⟩
      · walk_at "go"
        refine ⟨found ++ [d], r, _, _, rfl, by walk_at "ex", ?_, by walk_at "hp", hn, by simp [hfl1], by omega, hrd⟩
        rw [← ef]
        walk_at "hp"
      · walk_at "go"
        refine ⟨found ++ [d], r ++ [d ++ [98]], _, _, rfl, by walk_at "ex", ?_, ?_, hn, by simp [hfl1], by simp; omega, fun x hx => ?_⟩
        · rw [← ef]
          walk_at "hp"
        · rw [upd_same]
          simp [plcs]
        · rcases List.mem_append.mp hx with h | h
          · exact hrd x h
          · rw [List.mem_singleton.mp h]
            simp
            omega
      · walk_at "go"
        refine ⟨found ++ [d], r ++ [d ++ [97]] ++ [d ++ [102]], _, _, rfl, by walk_at "ex", ?_, ?_, hn, by simp [hfl1], by simp; omega, fun x hx => ?_⟩
        · rw [← ef]
          walk_at "hp"
        · rw [upd_same]
          simp [plcs]
        · simp only [List.mem_append, List.mem_singleton] at hx
          rcases hx with (h | h) | h
          · exact hrd x h
          · rw [h]
            simp
            omega
          · rw [h]
            simp
            omega
    · rintro σ H1 ⟨found, ds, y1, y2, rfl, e1, hf1, hw1, hinv, hfl1, hds1, hdl1⟩
      walk_at "go"
      rw [hinv.done] at hf1
      exact q H1 fl e1 hfl hf1
end
end Ly
set_option Elab.async false
set_option linter.all false
set_option maxRecDepth 100000
set_option maxHeartbeats 8000000
namespace Ly
open PySem PySem.Spec PyProof.Rows L2 Evl
local macro_rules | `(tactic| walk_at "ne") => `(tactic| first
  | assumption
  | ((refine' Ne.symm ?hq); (case hq => assumption))
  | ((refine' ne_of_none ?nh1 ?nh2); (case nh2 => assumption); (case nh1 => walk_at "hp"))
  | ((refine' Ne.symm (ne_of_none ?nh1 ?nh2)); (case nh2 => assumption); (case nh1 => walk_at "hp")))
local macro_rules | `(tactic| walk_at "hp") => `(tactic| first
  | assumption
  | exact upd_same
  | ((refine' SqL.of ?hq); (case hq => walk_at "hp"))
  | ((refine' SqT.of ?hq); (case hq => walk_at "hp"))
  | ((refine' (upd_ne ?hne).trans ?hrest); (case hne => walk_at "ne"); (case hrest => walk_at "hp"))
  | ((refine' ly_at ?hex ?hh); (case hex => assumption); (case hh => walk_at "hp"))
  | ((refine' ly_atF ?hex ?hnn ?hh); (case hex => assumption); (case hh => walk_at "hp"); (case hnn => walk_at "ne"))
  | ((refine' ex_t ?hex ?hh); (case hh => assumption); (case hex => walk_at "ex"))
  | ((refine' ex_l ?hex ?hh); (case hh => assumption); (case hex => walk_at "ex")))
local macro_rules | `(tactic| walk_at "ex") => `(tactic| first
  | assumption
  | exact Ex.refl _
  | ((refine' ex_new ?xa ?xb); (case xb => assumption); (case xa => walk_at "ex"))
  | ((refine' ex_upd ?xa ?xb); (case xb => walk_at "free"); (case xa => walk_at "ex"))
  | ((refine' Ex.trans ?xa ?xb); (case xb => assumption); (case xa => walk_at "ex")))
local macro_rules | `(tactic| walk_at "free") => `(tactic| first
  | assumption
  | ((refine' fresh_back ?xa ?xb); (case xb => assumption); (case xa => walk_at "ex")))
local macro_rules | `(tactic| walk_at "fr") => `(tactic| first
  | assumption
  | exact Fr.refl _ _
  | ((refine' Fr.own ?hq); (case hq => walk_at "fr"))
  | ((refine' Fr.new ?xa ?xb); (case xb => assumption); (case xa => walk_at "fr"))
  | ((refine' Fr.mut ?xa ?xb); (case xb => assumption); (case xa => walk_at "fr"))
  | ((refine' Fr.trans ?xa ?xb); (case xb => assumption); (case xa => walk_at "fr"))
  | ((refine' Fr.trans ?xa (Fr.ex ?xb)); (case xb => assumption); (case xa => walk_at "fr")))
local macro_rules | `(tactic| walk_at "go1") => `(tactic| first
  | (with_reducible refine' w_seq ?_)
  | (with_reducible refine' w_asg ?_)
  | (with_reducible refine' w_ret ?_)
  | (with_reducible refine' w_drop ?_)
  | (with_reducible refine' w_if ?_)
  | (with_reducible refine' w_next ?_)
  | (with_reducible refine' w_name ?_)
  | (with_reducible refine' w_sub ?_)
  | ((with_reducible refine' w_var ?hv ?_); (case hv => exact rfl))
  | (with_reducible refine' w_c ?_)
  | (with_reducible refine' w_op ?_)
  | (with_reducible refine' w_un ?_)
  | (with_reducible refine' w_ch ?_)
  | (with_reducible refine' w_I0 ?_)
  | ((with_reducible refine' w_I ?hc ?_); (case hc => first | (exact ly_mulL (by decide) (by decide)) | (exact ly_mulR (by decide) (by decide)) | (exact ly_mulL (by omega) (by omega)) | (show (_ : Int) ≠ 0; decide) | (show (_ : Int) ≠ 0; omega) | (exact ⟨by decide, by decide⟩) | (exact ⟨by omega, by omega⟩)))
  | (with_reducible refine' w_U ?_)
  | ((with_reducible refine' w_eq ?hs ?_); (case hs => exact rfl))
  | ((with_reducible refine' w_ne ?hs ?_); (case hs => exact rfl))
  | (with_reducible refine' w_isB ?_)
  | (with_reducible refine' w_notB ?_)
  | (with_reducible refine' w_nil ?_)
  | (with_reducible refine' w_cons ?_)
  | (with_reducible refine' w_tup ?_)
  | (with_reducible refine' w_lst ?_)
  | (with_reducible refine' w_cb ?_)
  | (with_reducible refine' w_call ?_)
  | (with_reducible refine' w_bm ?_)
  | (with_reducible refine' w_bm0 ?_)
  | ((with_reducible refine' w_app ?hh ?hz ?_); (case hh => walk_at "hp"); (case hz => first | exact ly_lt (by omega) | exact ly_lt (by simp only [List.length_append, List.length_map, List.length_cons, List.length_nil]; omega)))
  | ((with_reducible refine' w_popA ?hh ?_); (case hh => walk_at "hp"))
  | ((with_reducible refine' w_ext ?hh ?hh2 ?hz ?_); (case hh => walk_at "hp"); (case hh2 => walk_at "hp"))
  | ((with_reducible refine' w_ixL ?hh ?ha ?_); (case hh => walk_at "hp"); (case ha => first | exact rfl | exact at_map (by omega) | exact atI_last _ _ | ((refine' at_of ?ae ?ah); (case ah => assumption); (case ae => omega))))
  | ((with_reducible refine' w_ixT ?hh ?ha ?_); (case hh => walk_at "hp"); (case ha => first | exact rfl | exact at_map (by omega) | exact atI_last _ _ | ((refine' at_of ?ae ?ah); (case ah => assumption); (case ae => omega))))
  | ((with_reducible refine' w_cat ?hh ?hh2 ?hz ?_); (case hh => walk_at "hp"); (case hh2 => walk_at "hp"))
  | ((with_reducible refine' w_setL ?hh ?ha ?_); (case hh => walk_at "hp"); (case ha => exact rfl))
  | (with_reducible refine' w_test ?_)
  | (with_reducible refine' w_tB ?_)
  | (with_reducible refine' w_bl ?_)
  | (with_reducible refine' w_and ?_)
  | (with_reducible refine' w_or ?_)
  | (with_reducible refine' w_not ?_)
  | (with_reducible refine' w_andV ?_)
  | (with_reducible refine' w_orV ?_)
  | (with_reducible refine' w_notV ?_)
  | (with_reducible refine' w_ifE ?_)
  | (with_reducible refine' w_for ?_)
  | ((with_reducible refine' w_nin ?hh ?_); (case hh => walk_at "hp"))
  | ((with_reducible refine' w_sorted ?hh ?_); (case hh => walk_at "hp"))
  | (with_reducible refine' w_tsadd ?_)
  | ((with_reducible refine' w_tsadd1 ?hh ?_); (case hh => walk_at "hp"))
  | ((with_reducible refine' w_sadd ?hh ?hr ?_); (case hh => walk_at "hp"); (case hr => omega))
  | (with_reducible refine' w_iZ ?_)
  | ((with_reducible refine' w_iZ1 ?hh ?hh2 ?_); (case hh => walk_at "hp"); (case hh2 => walk_at "hp"))
  | (with_reducible refine' w_iS ?_)
  | (with_reducible refine' w_iS1 ?_)
  | ((with_reducible refine' w_gtup ?hh ?hn ?_); (case hh => walk_at "hp"); (case hn => exact rfl))
  | (with_reducible refine' w_gcons ?_)
  | (with_reducible refine' w_gnil ?_)
  | (with_reducible refine' w_js ?_)
  | (with_reducible refine' w_jsn ?_)
  | ((with_reducible refine' w_js1 ?hl ?_); (case hl => decide +kernel))
  | (with_reducible refine' w_fmt ?_)
  | ((with_reducible refine' w_fmt1 ?hl ?_); (case hl => decide +kernel))
  | (with_reducible refine' w_callS ?_)
  | ((with_reducible refine' w_truL ?hh ?_); (case hh => walk_at "hp"))
  | (with_reducible refine' w_lc ?_)
  | (with_reducible refine' w_yes ?_)
  | ((with_reducible refine' w_wipe ?he ?_); (case he => exact rfl))
  | (with_reducible refine' w_iL ?_)
  | (with_reducible refine' w_iT ?_)
  | (with_reducible refine' w_iR ?_)
  | ((with_reducible refine' w_iL1 ?hh ?_); (case hh => walk_at "hp"))
  | ((with_reducible refine' w_iT1 ?hh ?_); (case hh => walk_at "hp"))
  | ((with_reducible refine' w_iR1 ?h1 ?h2 ?_); (case h1 => omega); (case h2 => omega))
  | ((with_reducible refine' w_aug ?hv ?_); (case hv => exact rfl))
  | (with_reducible refine' w_ipI ?_)
  | ((with_reducible refine' w_isi ?hy ?hk ?_); (case hy => walk_at "ty"); (case hk => walk_at "kit"))
  | ((with_reducible refine' w_int ?_))
  | ((with_reducible refine' w_intB ?_))
  | ((with_reducible refine' w_abs ?_))
  | ((with_reducible refine' w_lenL ?hh ?_); (case hh => walk_at "hp"))
  | ((with_reducible refine' w_lenT ?hh ?_); (case hh => walk_at "hp"))
  | ((with_reducible refine' w_tupL ?hh ?_); (case hh => walk_at "hp"))
  | ((with_reducible refine' w_tupT ?hh ?_); (case hh => walk_at "hp"))
  | ((with_reducible refine' w_catA ?hh ?hh2 ?hz ?_); (case hh => walk_at "hp"); (case hh2 => walk_at "hp"); (case hz => walk_at "len"))
  | ((with_reducible refine' w_repB ?hh ?hne ?h2 ?h3 ?hz ?_); (case hh => walk_at "hp"); (case hne => simp); (case h2 => omega); (case h3 => omega); (case hz => exact Nat.le_of_ble_eq_true rfl))
  | ((with_reducible refine' w_eqN ?hh ?hh2 ?n1 ?n2 ?_); (case hh => walk_at "hp"); (case hh2 => walk_at "hp"); (case n1 => walk_at "nd"); (case n2 => walk_at "nd"))
  | ((with_reducible refine' w_neN ?hh ?hh2 ?n1 ?n2 ?_); (case hh => walk_at "hp"); (case hh2 => walk_at "hp"); (case n1 => walk_at "nd"); (case n2 => walk_at "nd"))
  | ((with_reducible refine' w_eqL ?hh ?hh2 ?n1 ?n2 ?_); (case hh => walk_at "hp"); (case hh2 => walk_at "hp"); (case n1 => walk_at "nd"); (case n2 => walk_at "nd"))
  | ((with_reducible refine' w_neL ?hh ?hh2 ?n1 ?n2 ?_); (case hh => walk_at "hp"); (case hh2 => walk_at "hp"); (case n1 => walk_at "nd"); (case n2 => walk_at "nd"))
  | ((with_reducible refine' w_neNon ?hh2 ?n2 ?_); (case hh2 => walk_at "hp"); (case n2 => walk_at "nd"))
  | ((with_reducible refine' w_eqNon ?hh2 ?n2 ?_); (case hh2 => walk_at "hp"); (case n2 => walk_at "nd"))
  | ((with_reducible refine' w_slA ?hh ?_); (case hh => walk_at "hp"))
  | ((with_reducible refine' w_disp ?hz ?_); (case hz => exact sz_of (Nat.le_of_ble_eq_true rfl)))
  | ((with_reducible refine' w_tyL ?hh ?_); (case hh => walk_at "hp"))
  | (with_reducible refine' iteT ?_)
  | (with_reducible refine' iteF ?_)
  | (with_reducible refine' w_nT ?_)
  | (with_reducible refine' w_nn ?_)
  | (with_reducible refine' w_nnT ?_)
  | (with_reducible refine' w_nnR ?_)
  | (with_reducible refine' w_neG ?_)
  | (with_reducible refine' w_eqG ?_)
  | (with_reducible refine' w_neS ?_)
  | (with_reducible refine' w_eqS ?_)
  | (with_reducible refine' w_neSb ?_)
  | (with_reducible refine' w_eqSb ?_)
  | (with_reducible refine' w_deIS ?_)
  | (with_reducible refine' w_deSI ?_)
  | (with_reducible refine' w_deISn ?_)
  | ((with_reducible refine' w_deST ?he ?_); (case he => decide +kernel))
  | ((with_reducible refine' w_deSF ?he ?_); (case he => decide +kernel))
  | ((with_reducible refine' w_deSTn ?he ?_); (case he => decide +kernel))
  | ((with_reducible refine' w_deSFn ?he ?_); (case he => decide +kernel))
  | (with_reducible refine' w_nF ?_)
  | dsimp only [Bool.not_true, Bool.not_false])
local macro_rules | `(tactic| walk_at "ty") => `(tactic| first
  | exact .base (.int _) | exact .base (.str _) | exact .base (.bl _) | exact .base .non
  | ((refine' tyx_t ?hq); (case hq => walk_at "hp")) | ((refine' tyx_l ?hq); (case hq => walk_at "hp")) | ((refine' .base (.tup ?hq)); (case hq => walk_at "hp")) | assumption)
local macro_rules | `(tactic| walk_at "go") => `(tactic| repeat walk_at "go1")
local macro_rules | `(tactic| walk_at "st") => `(tactic| try dsimp only [cxOf, Cx.nox, Cx.wish])
local macro_rules | `(tactic| walk_at "kit") => `(tactic| with_reducible first | exact kit_int_int | exact kit_int_str | exact kit_int_bool | exact kit_int_tuple | exact kit_int_list | exact kit_str_int | exact kit_str_str | exact kit_str_bool | exact kit_str_tuple | exact kit_str_list | exact kit_bool_int | exact kit_bool_str | exact kit_bool_bool | exact kit_bool_tuple | exact kit_bool_list | exact kit_NoneType_int | exact kit_NoneType_str | exact kit_NoneType_bool | exact kit_NoneType_tuple | exact kit_NoneType_list | exact kit_list_int | exact kit_list_str | exact kit_list_bool | exact kit_list_tuple | exact kit_list_list | exact kit_tuple_int | exact kit_tuple_str | exact kit_tuple_bool | exact kit_tuple_tuple | exact kit_tuple_list)
local macro_rules | `(tactic| walk_at "nd") => `(tactic| first
  | assumption
  | exact Tm.nds _
  | exact Nds.nil
  | exact Nds.ofInts _
  | ((refine' Nds.cons ?na ?nb); (case na => first | exact Nds.I _ | exact Nds.L | exact Nds.A); (case nb => walk_at "nd"))
  | ((refine' Nds.app ?na ?nb); (case na => walk_at "nd"); (case nb => walk_at "nd"))
  | ((refine' Nds.rep ?na _); (case na => walk_at "nd")))
local macro_rules | `(tactic| walk_at "len") => `(tactic| first
  | exact ly_sz (by omega)
  | ((simp only [List.length_append, List.length_cons, List.length_nil, List.length_map, PyProof.Rows.lm_len_rep_flat]); exact ly_sz (by omega)))
local macro_rules | `(tactic| walk_at "go1") => `(tactic| first
  | (with_reducible refine' w_kget2 ?_)
  | (with_reducible refine' w_isRN ?_)
  | (with_reducible refine' w_isNN ?_)
  | (with_reducible refine' w_isIN ?_)
  | ((with_reducible refine' w_kg ?hd ?_); (case hd => assumption)))
local macro_rules | `(tactic| walk_at "go1") => `(tactic| first
  | ((with_reducible refine' w_extT ?hh ?hh2 ?hz ?_); (case hh => walk_at "hp"); (case hh2 => walk_at "hp"))
  | ((with_reducible refine' w_I ?hc ?_); (case hc => exact ⟨by decide, by decide, by decide⟩))
  | (with_reducible refine' w_sl ?_)
  | (with_reducible refine' w_noP ?_)
  | (with_reducible refine' w_part ?_)
  | (with_reducible refine' w_part1 ?_)
  | (with_reducible refine' w_it ?_)
  | (with_reducible refine' w_it1 ?_)
  | ((with_reducible refine' w_lenZ ?hz ?_); (case hz => omega))
  | ((with_reducible refine' w_addZb ?hz ?_); (case hz => omega))
  | ((with_reducible refine' w_addZf ?hz ?_); (case hz => omega))
  | ((with_reducible refine' w_addZa ?hz ?_); (case hz => omega))
  | ((with_reducible refine' w_inS ?hh ?_); (case hh => walk_at "hp"))
  | ((with_reducible refine' w_ixT ?hh ?ha ?_); (case hh => assumption); (case ha => exact atI_nat (by assumption))))
local macro_rules | `(tactic| walk_at "go1") => `(tactic| first
  | (with_reducible refine' w_iR2 ?_)
  | ((with_reducible refine' w_iR21 ?h1 ?h2 ?h3 ?h4 ?_); (case h1 => omega); (case h2 => omega); (case h3 => omega); (case h4 => omega))
  | (with_reducible refine' w_nnI ?_)
  | (with_reducible refine' w_max ?_)
  | (with_reducible refine' w_break ?_)
  | (with_reducible refine' w_cont ?_))
local macro_rules | `(tactic| walk_at "go1") => `(tactic| first
  | (with_reducible refine' w_m1 ?_)
  | (with_reducible refine' w_m11 ?_)
  | (with_reducible refine' w_st2 ?_)
  | (with_reducible refine' w_sg ?_)
  | (with_reducible refine' w_sg2 ?_)
  | (with_reducible refine' w_sgSp ?_)
  | ((with_reducible refine' w_lcnt ?hh ?_); (case hh => walk_at "hp")))
local macro_rules | `(tactic| walk_at "go1") => `(tactic| first
  | (with_reducible refine' w_bmX ?_)
  | ((with_reducible refine' w_bmX1 ?hh ?_); (case hh => assumption))
  | ((with_reducible refine' w_tcnt ?hh ?hn ?_); (case hh => walk_at "hp"); (case hn => walk_at "nd")))
local macro_rules | `(tactic| walk_at "hp") => `(tactic| first
  | ((refine' SqX.t ?hq); (case hq => assumption)))
local macro_rules | `(tactic| walk_at "go1") => `(tactic| first
  | (with_reducible refine' w_tupD ?_)
  | ((with_reducible refine' w_catF ?hh ?hh2 ?nx ?ny ?hz ?_); (case hh => walk_at "hp"); (case hh2 => walk_at "hp"); (case nx => first | (simp; done) | exact ne_flat (by assumption) | exact Tm.enc_ne _); (case ny => first | exact Tm.enc_ne _ | (simp; done)); (case hz => walk_at "len")))
section
variable {P : Program} {w : World} {K : PySem.W.Frag} {mg : Str → Option Value} {base : Heap} {tk : Nat → Tok} {cl : Nat → Addr}
theorem join_plE (ws : List (List Nat)) : Txt.join (pl []) (ws.map pl) = pl ws.flatten := by
  show Builtin.Str.glued _ _ = _
  rw [StrLaws.glued_eq_join]
  induction ws with
  | nil => decide +kernel
  | cons w r ih =>
    cases r with
    | nil =>
      show pl w = pl (w ++ [])
      rw [List.append_nil]
    | cons v r =>
      show pl w ++ pl [] ++ Str.join (pl []) ((v :: r).map pl) = _
      rw [ih, pl_app, pl_app, List.append_nil]
      rfl
theorem w_joinE {H : Hp} {p : Addr} {ws : List (List Nat)} {B : Str → Addr → List Str → Prop} (h : H p = some (.lst (plcs ws))) (hz : (ws.map List.length).sum ≤ 16000000) (q : B (pl []) p (ws.map pl)) :
    ∃ a p', ∃ ys : List Str, V.str "" = .str a ∧ [V.ref p] = [.ref p'] ∧ (SqL K H p' (ys.map V.str) ∨ SqT K H p' (ys.map V.str)) ∧ (ys.map (·.length)).sum + ys.length * a.length ≤ 16777216 ∧ B a p' ys := by
  have e : (("" : Str)) = pl [] := by decide +kernel
  refine ⟨pl [], p, ws.map pl, by rw [e], rfl, .inl (SqL.of (by rw [h, List.map_map]; rfl)), ?_, q⟩
  have e2 : ((ws.map pl).map (·.length)) = ws.map List.length := by
    rw [List.map_map]
    exact List.map_congr_left fun w _ => pl_len w
  rw [e2, List.length_map, pl_len]
  simp
  omega
theorem front_len {bs : List (List Nat)} (hon : Nms bs) : ∀ m, m ≤ bs.length → (((List.range m).map fun j => 92 :: (bs.getD j [] ++ [46, 32, 40])).map List.length).sum ≤ 14 * m
  | 0, _ => Nat.zero_le _
  | m + 1, h => by
    have ih := front_len hon m (by omega)
    obtain ⟨_, _, _, _, _, hbl⟩ := nm_head (hon.get (i := m) (by omega))
    rw [List.range_succ, List.map_append, List.map_append, List.sum_append]
    have : (([m].map fun j => 92 :: (bs.getD j [] ++ [46, 32, 40])).map List.length).sum = (bs.getD m []).length + 4 := by simp
    omega
theorem w_repCa {H : Hp} {Q : VK} {w : List Nat} {s : Str} {k : Nat} (e : s = pl w) (hw : w ≠ []) (hl : w.length ≤ 10) (hk : k ≤ 100000) (q : Q (.str (pl (List.replicate k w).flatten)) H) : rRepS (.str s) (.int (k : Int)) H Q := by
  rw [e]; exact w_repS hw hl hk q
theorem fdiv2 (n : Nat) : (n : Int).fdiv 2 = ((n / 2 : Nat) : Int) := by
  rw [Int.fdiv_eq_ediv_of_nonneg _ (by omega)]
  rfl
def spDeep (K : PySem.W.Frag) : Sp := fun vs H Q _ => ∃ (p n : Nat), vs = [.int (p : Int), .int (n : Int)] ∧ p < 4 ∧ n ≤ 498 ∧ ∀ H' q a, Ex H H' → SqT K H' q [.ref a, .str (pl (dpP p n))] → SqX H' a (dpT p n).enc → Q (.ref q) H'
theorem ok_deep {f : Addr} {fd : FuncData} {k : Nat} (F : Fun K "_law_deep" "_law_deep" s_law_deep f fd) (T : Txt w K mg tk cl) : FnOk P w K mg base CX0 (k + 1) f fd ["pick", "deep"] (spDeep K) := by
  refine F.ok sc_law_deep (fun vs H Q E h => ?_) (fun cdv A outer s H vs Q E hr h => ?_)
  · obtain ⟨p, n, rfl, _⟩ := h
    rfl
  · obtain ⟨p, n, rfl, hp, hn, q⟩ := h
    refine ⟨_, (pss_cons (ps_if (pt_cmpR op_eq (pv 0) pe_int (nomark _)) (pss_one (ps_ret (pe_tupF (pa_cons (pe_op op_catF (pe_op op_repB (pe_tupF (pa_cons pe_str pa_nil)) (pe_op op_mul pe_int (pv 1))) (pe_tupF (pa_cons (pe_op op_mul pe_int (pv 1)) pa_nil))) (pa_cons (pe_op op_repS pe_str (pe_op op_mul pe_int (pv 1))) pa_nil))))) pss_nil) (pss_cons (ps_if (pt_cmpR op_eq (pv 0) pe_int (nomark _)) (pss_one (ps_ret (pe_tupF (pa_cons (pe_op op_catF (pe_op op_catF (pe_op op_repB (pe_tupF (pa_cons pe_str pa_nil)) (pv 1)) (pe_tupF (pa_cons pe_int pa_nil))) (pe_op op_repB (pe_tupF (pa_cons pe_int pa_nil)) (pv 1))) (pa_cons (pe_op op_repS pe_str (pv 1)) pa_nil))))) pss_nil) (pss_cons (ps_if (pt_cmpR op_eq (pv 0) pe_int (nomark _)) (pss_one (ps_ret (pe_tupF (pa_cons (pe_op op_catF (pe_op op_repB (pe_tupF (pa_cons pe_str (pa_cons pe_int pa_nil))) (pv 1)) (pe_tupF (pa_cons pe_int pa_nil))) (pa_cons (pe_op op_repS pe_str (pv 1)) pa_nil))))) pss_nil) (pss_one (ps_ret (pe_tupF (pa_cons (pe_op op_catF (pe_op op_catF (pe_op op_repB (pe_tupF (pa_cons pe_str (pa_cons pe_str pa_nil))) (pe_op op_fdivN (pv 1) pe_int)) (pe_tupF (pa_cons (pe_op op_fdivN (pv 1) pe_int) pa_nil))) (pe_callTy call_tupleF (by rfl) T.n_tuple (by decide +kernel) (pa_cons (pe_lc (own := [("k", 2)]) (g := gName 2) (tt := tYes) rfl sc_law_deep.nd (pi_range1 (by rfl) T.n_range (pa_cons (pe_op op_fdivN (pv 1) pe_int) pa_nil)) (blkOk_by (N := N_law_deep) (sc := defScope s_law_deep) (by decide +kernel)) (fun _ _ _ _ _ => pg_name (i := 2) sc_law_deep.nd rfl (Or.inl rfl)) (fun _ _ _ _ _ => pts_nil) (fun _ _ _ _ _ => (pe_op op_sub (pe_op op_fdivN (pv 1) pe_int) (pv 2)))) pa_nil))) (pa_cons (pe_op op_repS pe_str (pe_op op_fdivN (pv 1) pe_int)) pa_nil)))))))), ?_⟩
    refine sl_of (σ2 := [some _, some _, none]) rfl ?_
    walk_at "st"
    walk_at "go"
    refine w_brI (fun c1 => ?_) (fun c1 => ?_)
    · obtain rfl : p = 0 := by omega
      walk_at "go"
      refine ⟨sz_of (Nat.le_of_ble_eq_true rfl), fun p1 ob1 hp1 hc1 hd1 => ?_⟩
      have x1 : SqX (upd H p1 (.frz ob1 (.tup [V.str "lam"]))) p1 [V.str "lam"] := ⟨ob1, upd_same, hc1, hd1⟩
      have e1 := Ex.new hp1 (o := .frz ob1 (.tup [V.str "lam"]))
      generalize upd H p1 (.frz ob1 (.tup [V.str "lam"])) = H1 at *
      walk_at "go"
      intro p2 H2 e2 h2
      walk_at "go"
      refine ⟨sz_of (Nat.le_of_ble_eq_true rfl), fun p3 ob3 hp3 hc3 hd3 => ?_⟩
      have x3 : SqX (upd H2 p3 (.frz ob3 (.tup [V.int (2 * (n : Int))]))) p3 [V.int (2 * (n : Int))] := ⟨ob3, upd_same, hc3, hd3⟩
      have e3 := Ex.new hp3 (o := .frz ob3 (.tup [V.int (2 * (n : Int))]))
      generalize upd H2 p3 (.frz ob3 (.tup [V.int (2 * (n : Int))])) = H3 at *
      have h3 := ex_t e3 h2
      refine w_catXF h3 x3 (by simp) (ly_sz (by simp; omega)) fun p4 H4 e4 h4 => ?_
      walk_at "go"
      refine w_repCa (k := 2 * n) pl_b (by simp) (by simp) (by omega) ?_
      walk_at "go"
      refine ⟨sz_of (Nat.le_of_ble_eq_true rfl), fun p5 ob5 hp5 hc5 hd5 => ?_⟩
      have e5 := Ex.new hp5 (o := .frz ob5 (.tup [V.ref p4, V.str (pl (List.replicate (2 * n) [98]).flatten)]))
      have x5 : SqX (upd H4 p5 (.frz ob5 (.tup [V.ref p4, V.str (pl (List.replicate (2 * n) [98]).flatten)]))) p5 [V.ref p4, V.str (pl (List.replicate (2 * n) [98]).flatten)] := ⟨ob5, upd_same, hc5, hd5⟩
      refine q _ p5 p4 ((((e1.trans e2).trans e3).trans e4).trans e5) ?_ ((show SqX H4 p4 (dpT 0 n).enc from ?_).ex e5)
      · rw [show dpP 0 n = (List.replicate (2 * n) [98]).flatten by simp [dpP]]
        exact x5.t
      · have en : (2 * (n : Int)).toNat = 2 * n := by omega
        rw [en] at h4
        have : (dpT 0 n).enc = (List.replicate (2 * n) [V.str "lam"]).flatten ++ [V.int (2 * (n : Int))] := by
          show (Tm.lamN (2 * n) (.var (2 * n))).enc = _
          rw [Tm.enc_lamN]
          rfl
        rw [this]
        exact h4
    · walk_at "go"
      refine w_brI (fun c2 => ?_) (fun c2 => ?_)
      · obtain rfl : p = 1 := by omega
        walk_at "go"
        refine ⟨sz_of (Nat.le_of_ble_eq_true rfl), fun p1 ob1 hp1 hc1 hd1 => ?_⟩
        have x1 : SqX (upd H p1 (.frz ob1 (.tup [V.str "app"]))) p1 [V.str "app"] := ⟨ob1, upd_same, hc1, hd1⟩
        have e1 := Ex.new hp1 (o := .frz ob1 (.tup [V.str "app"]))
        generalize upd H p1 (.frz ob1 (.tup [V.str "app"])) = H1 at *
        walk_at "go"
        intro p2 H2 e2 h2
        walk_at "go"
        refine ⟨sz_of (Nat.le_of_ble_eq_true rfl), fun p3 ob3 hp3 hc3 hd3 => ?_⟩
        have x3 : SqX (upd H2 p3 (.frz ob3 (.tup [V.int 0]))) p3 [V.int 0] := ⟨ob3, upd_same, hc3, hd3⟩
        have e3 := Ex.new hp3 (o := .frz ob3 (.tup [V.int 0]))
        generalize upd H2 p3 (.frz ob3 (.tup [V.int 0])) = H3 at *
        have h3 := ex_t e3 h2
        refine w_catXF h3 x3 (by simp) (ly_sz (by simp; omega)) fun p4 H4 e4 h4 => ?_
        walk_at "go"
        refine ⟨sz_of (Nat.le_of_ble_eq_true rfl), fun p5 ob5 hp5 hc5 hd5 => ?_⟩
        have x5 : SqX (upd H4 p5 (.frz ob5 (.tup [V.int 1]))) p5 [V.int 1] := ⟨ob5, upd_same, hc5, hd5⟩
        have e5 := Ex.new hp5 (o := .frz ob5 (.tup [V.int 1]))
        generalize upd H4 p5 (.frz ob5 (.tup [V.int 1])) = H5 at *
        have h5 := h4.ex e5
        walk_at "go"
        intro p6 H6 e6 h6
        have h6b := h5.ex e6
        refine w_catFX h6b h6 (by simp) (ly_sz (by simp; omega)) fun p7 H7 e7 h7 => ?_
        walk_at "go"
        refine w_repCa (k := n) pl_f (by simp) (by simp) (by omega) ?_
        walk_at "go"
        refine ⟨sz_of (Nat.le_of_ble_eq_true rfl), fun p8 ob8 hp8 hc8 hd8 => ?_⟩
        have e8 := Ex.new hp8 (o := .frz ob8 (.tup [V.ref p7, V.str (pl (List.replicate n [102]).flatten)]))
        have x8 : SqX (upd H7 p8 (.frz ob8 (.tup [V.ref p7, V.str (pl (List.replicate n [102]).flatten)]))) p8 [V.ref p7, V.str (pl (List.replicate n [102]).flatten)] := ⟨ob8, upd_same, hc8, hd8⟩
        refine q _ p8 p7 (((((((e1.trans e2).trans e3).trans e4).trans e5).trans e6).trans e7).trans e8) ?_ ((show SqX H7 p7 (dpT 1 n).enc from ?_).ex e8)
        · rw [show dpP 1 n = (List.replicate n [102]).flatten by simp [dpP]]
          exact x8.t
        · rw [Int.toNat_natCast] at h7
          have : (dpT 1 n).enc = (List.replicate n [V.str "app"]).flatten ++ [V.int 0] ++ (List.replicate n [V.int 1]).flatten := by
            show (appN n).enc = _
            rw [appN_enc]
            simp
          rw [this]
          exact h7
      · walk_at "go"
        refine w_brI (fun c3 => ?_) (fun c3 => ?_)
        · obtain rfl : p = 2 := by omega
          walk_at "go"
          refine ⟨sz_of (Nat.le_of_ble_eq_true rfl), fun p1 ob1 hp1 hc1 hd1 => ?_⟩
          have x1 : SqX (upd H p1 (.frz ob1 (.tup [V.str "app", V.int 1]))) p1 [V.str "app", V.int 1] := ⟨ob1, upd_same, hc1, hd1⟩
          have e1 := Ex.new hp1 (o := .frz ob1 (.tup [V.str "app", V.int 1]))
          generalize upd H p1 (.frz ob1 (.tup [V.str "app", V.int 1])) = H1 at *
          walk_at "go"
          intro p2 H2 e2 h2
          walk_at "go"
          refine ⟨sz_of (Nat.le_of_ble_eq_true rfl), fun p3 ob3 hp3 hc3 hd3 => ?_⟩
          have x3 : SqX (upd H2 p3 (.frz ob3 (.tup [V.int 0]))) p3 [V.int 0] := ⟨ob3, upd_same, hc3, hd3⟩
          have e3 := Ex.new hp3 (o := .frz ob3 (.tup [V.int 0]))
          generalize upd H2 p3 (.frz ob3 (.tup [V.int 0])) = H3 at *
          have h3 := ex_t e3 h2
          have hrl : ((List.replicate n [V.str "app", V.int 1]).flatten).length = n * 2 := by simp
          refine w_catXF h3 x3 (by simp) (ly_sz (by rw [Int.toNat_natCast, hrl]; simp; omega)) fun p4 H4 e4 h4 => ?_
          walk_at "go"
          refine w_repCa (k := n) pl_a (by simp) (by simp) (by omega) ?_
          walk_at "go"
          refine ⟨sz_of (Nat.le_of_ble_eq_true rfl), fun p5 ob5 hp5 hc5 hd5 => ?_⟩
          have e5 := Ex.new hp5 (o := .frz ob5 (.tup [V.ref p4, V.str (pl (List.replicate n [97]).flatten)]))
          have x5 : SqX (upd H4 p5 (.frz ob5 (.tup [V.ref p4, V.str (pl (List.replicate n [97]).flatten)]))) p5 [V.ref p4, V.str (pl (List.replicate n [97]).flatten)] := ⟨ob5, upd_same, hc5, hd5⟩
          refine q _ p5 p4 ((((e1.trans e2).trans e3).trans e4).trans e5) ?_ ((show SqX H4 p4 (dpT 2 n).enc from ?_).ex e5)
          · rw [show dpP 2 n = (List.replicate n [97]).flatten by simp [dpP]]
            exact x5.t
          · rw [Int.toNat_natCast] at h4
            have : (dpT 2 n).enc = (List.replicate n [V.str "app", V.int 1]).flatten ++ [V.int 0] := by
              show (Tm.rowN 1 n (.var 0)).enc = _
              rw [Tm.enc_rowN]
              rfl
            rw [this]
            exact h4
        · obtain rfl : p = 3 := by omega
          walk_at "go"
          refine ⟨sz_of (Nat.le_of_ble_eq_true rfl), fun p1 ob1 hp1 hc1 hd1 => ?_⟩
          have x1 : SqX (upd H p1 (.frz ob1 (.tup [V.str "lam", V.str "app"]))) p1 [V.str "lam", V.str "app"] := ⟨ob1, upd_same, hc1, hd1⟩
          have e1 := Ex.new hp1 (o := .frz ob1 (.tup [V.str "lam", V.str "app"]))
          generalize upd H p1 (.frz ob1 (.tup [V.str "lam", V.str "app"])) = H1 at *
          walk_at "go"
          have hfd := fdiv2 n
          rw [hfd]
          have hh : n / 2 ≤ 249 := by omega
          have hdp : dpP 3 n = (List.replicate (n / 2) [98, 102]).flatten := rfl
          have hdt : (dpT 3 n).enc = (n3 0 (n / 2)).enc := rfl
          rw [hdp, hdt, n3_enc] at q
          generalize n / 2 = h2 at *
          refine w_repB (k := (h2 : Int)) x1.t (by simp) (by omega) (by omega) (by simp) fun p2 H2 e2 hp2 => ?_
          rw [Int.toNat_natCast] at hp2
          have hrl : ((List.replicate h2 [V.str "lam", V.str "app"]).flatten).length = h2 * 2 := by simp
          walk_at "go"
          rw [hfd]
          refine ⟨sz_of (Nat.le_of_ble_eq_true rfl), fun p3 ob3 hp3 hc3 hd3 => ?_⟩
          have x3 : SqX (upd H2 p3 (.frz ob3 (.tup [V.int (h2 : Int)]))) p3 [V.int (h2 : Int)] := ⟨ob3, upd_same, hc3, hd3⟩
          have e3 := Ex.new hp3 (o := .frz ob3 (.tup [V.int (h2 : Int)]))
          generalize upd H2 p3 (.frz ob3 (.tup [V.int (h2 : Int)])) = H3 at *
          refine w_catXF (ex_t e3 hp2) x3 (by simp) (ly_sz (by rw [hrl]; simp; omega)) fun p4 H4 e4 h4 => ?_
          walk_at "go"
          intro Dl hDl
          rw [hfd, Int.toNat_natCast]
          refine lc_range (lo := 0) (n := h2) (fun i H' => Ex H4 H' ∧ H' Dl = some (.lst ((List.range i).map fun (j : Nat) => V.int ((0 + h2 - j : Nat) : Int)))) ⟨Ex.new hDl, upd_same⟩ ?_ ?_
          · rintro i H5 hi ⟨e5, h5⟩
            walk_at "go"
            rw [hfd]
            refine ⟨_, h5, ly_lt (by simp; omega), e5.mut hDl, ?_⟩
            rw [upd_same, List.range_succ, List.map_append]
            have ev : (h2 : Int) - (0 + (i : Int)) = ((0 + h2 - i : Nat) : Int) := by omega
            rw [ev]
            rfl
          · rintro H5 ⟨e5, h5⟩
            walk_at "go"
            refine w_tupF (SqL.of h5) fun p6 H6 e6 _ h6 => ?_
            have h4b := h4.ex (e5.trans e6)
            refine w_catFX h4b h6.t (by simp) (ly_sz (by rw [List.length_append, hrl]; simp; omega)) fun p7 H7 e7 h7 => ?_
            walk_at "go"
            rw [hfd]
            refine w_repCa (k := h2) (w := [98, 102]) (by decide +kernel) (by simp) (by simp) (by omega) ?_
            walk_at "go"
            refine ⟨sz_of (Nat.le_of_ble_eq_true rfl), fun p8 ob8 hp8 hc8 hd8 => ?_⟩
            have e8 := Ex.new hp8 (o := .frz ob8 (.tup [V.ref p7, V.str (pl (List.replicate h2 [98, 102]).flatten)]))
            have x8 : SqX (upd H7 p8 (.frz ob8 (.tup [V.ref p7, V.str (pl (List.replicate h2 [98, 102]).flatten)]))) p8 [V.ref p7, V.str (pl (List.replicate h2 [98, 102]).flatten)] := ⟨ob8, upd_same, hc8, hd8⟩
            refine q _ p8 p7 (((((((e1.trans e2).trans e3).trans e4).trans e5).trans e6).trans e7).trans e8) x8.t (SqX.ex ?_ e8)
            rw [Nat.zero_add] at h7 ⊢
            rw [List.append_assoc] at h7
            exact h7
def spLOwn15 : Sp := fun vs H Q _ => ∃ (m : Nat), vs = [.int (m : Int)] ∧ m ≤ 2000 ∧ ∀ H' p, Ex H H' → H p = none → H' p = some (.lst (plcs (own fxy (m + 2)))) → Q (.ref p) H'
theorem w_ninT {K : PySem.W.Frag} {H : Hp} {Q : VK} {p : Addr} {r : List Nat} {qs : List (List Nat)} (h : SqT K H p (plcs qs)) (q : Q (.bl (!decide (r ∈ qs))) H) : rIn K true (.str (pl r)) (.ref p) H Q :=
  ⟨p, _, rfl, .inr h, rfl, flat_pl qs, by rw [inV_pl]; exact q⟩
theorem ok_lown15 {f : Addr} {fd : FuncData} {k : Nat} (F : Fun K "_law_own_names" "_law_own_names" s_law_own_names f fd) (T : Txt w K mg tk cl) : FnOk P w K mg base CX0 (k + 1) f fd ["many"] spLOwn15 := by
  refine F.ok sc_law_own_names (fun vs H Q E h => ?_) (fun cdv A outer s H vs Q E hr h => ?_)
  · obtain ⟨m, rfl, _⟩ := h
    rfl
  · obtain ⟨m, rfl, hm, q⟩ := h
    refine ⟨_, (pss_cons (ps_set (i := 1) sc_law_own_names.nd rfl (.inl rfl) (pe_lst pa_nil)) (pss_cons (ps_for PassesOwn.never rfl (pi_range1 (by rfl) T.n_range (pa_cons (pe_op op_add (pv 0) pe_int) pa_nil)) (pg_name (i := 2) sc_law_own_names.nd rfl (.inl rfl)) (pss_cons (ps_set (i := 3) sc_law_own_names.nd rfl (.inl rfl) (pe_ix ix_str pe_str (pe_op op_modN (pe_callTy call_int1 (by rfl) T.n_int (by decide +kernel) (pa_cons (pv 2) pa_nil)) pe_int) (fun _ _ => rfl))) (pss_cons (ps_if (pt_cmpR op_gt (pv 2) pe_int (nomark _)) (pss_one (ps_set (i := 3) sc_law_own_names.nd rfl (.inl rfl) (pe_op op_addZ (pv 3) (pe_callTy call_str_int (by rfl) T.n_str (by decide +kernel) (pa_cons (pe_op op_fdivN (pv 2) pe_int) pa_nil))))) pss_nil) (pss_one (ps_if (pt_cmpR op_notIn_seq (pv 3) (pe_tup (pa_cons pe_str (pa_cons pe_str pa_nil))) (by rfl)) (pss_one (ps_expr (pe_bm PySem.F.plainAttrs_list PySem.F.slot_list_append PySem.F.type_list_append mt_append (pv 1) (pa_cons (pv 3) pa_nil)))) pss_nil))))) (pss_one (ps_ret (pv 1))))), ?_⟩
    refine sl_of (σ2 := [some _, none, none, none]) rfl ?_
    walk_at "st"
    walk_at "go"
    intro p0 hp0
    have e0 := Ex.new hp0 (o := .lst (plcs []))
    have h0 : upd H p0 (.lst (plcs [])) p0 = some (.lst (plcs [])) := upd_same
    rw [show (HO.lst ([] : List V)) = .lst (plcs []) from rfl]
    generalize upd H p0 (.lst (plcs [])) = H1 at *
    walk_at "go"
    have en : ((m : Int) + 2).toNat = m + 2 := by omega
    refine for_range (lo := 0) (n := ((m : Int) + 2).toNat) (fun i σ H' => ∃ y1 y2, σ = [some (.int (m : Int)), some (.ref p0), y1, y2] ∧ Ex H H' ∧ H' p0 = some (.lst (plcs (own fxy i))))
      ⟨none, none, rfl, e0, h0⟩ ?_ ?_
    · rintro i σ H2 hi ⟨y1, y2, rfl, e2, h2⟩
      rw [en] at hi
      have hol := own_le fxy i
      have hxy : [V.str "x", V.str "y"] = plcs fxy := by decide +kernel
      rw [pl_abc]
      walk_at "go"
      rw [show (0 + (i : Int)).fmod 26 = ((i % 26 : Nat) : Int) by rw [Int.zero_add]; exact fmod26 i]
      refine w_ixSt (by simp) (atI_nat (get_abc (Nat.mod_lt _ (by decide)))) ?_
      walk_at "go"
      refine w_br (fun c1 => ?_) (fun c1 => ?_)
      · have hd := digz_str (i / 26) (by omega)
        have hdo := digz_ok (d := i / 26) (by omega)
        walk_at "go"
        rw [show (0 + (i : Int)).fdiv 26 = ((i / 26 : Nat) : Int) by rw [Int.zero_add]; exact fdiv26 i]
        refine ⟨hd.2, ?_⟩
        rw [hd.1]
        refine w_addZ (by simp; omega) ?_
        have e : [97 + i % 26] ++ digz (i / 26) = nmN i := (if_neg (by omega)).symm
        rw [e]
        walk_at "go"
        intro px hpx
        rw [hxy]
        have ex := Ex.new hpx (o := .tup (plcs fxy))
        have h3 := ex _ _ h2
        refine w_ninT (SqT.of upd_same) ?_
        by_cases hm2 : nmN i ∈ fxy
        · rw [decide_eq_true hm2]
          walk_at "go"
          exact ⟨_, _, rfl, e2.trans ex, by rw [own_yes hm2]; exact h3⟩
        · rw [decide_eq_false hm2]
          walk_at "go"
          exact ⟨_, _, rfl, (e2.trans ex).mut hp0, by rw [upd_same, own_no hm2]; simp [plcs]⟩
      · have e : [97 + i % 26] = nmN i := (if_pos (by omega)).symm
        rw [e]
        walk_at "go"
        intro px hpx
        rw [hxy]
        have ex := Ex.new hpx (o := .tup (plcs fxy))
        have h3 := ex _ _ h2
        refine w_ninT (SqT.of upd_same) ?_
        by_cases hm2 : nmN i ∈ fxy
        · rw [decide_eq_true hm2]
          walk_at "go"
          exact ⟨_, _, rfl, e2.trans ex, by rw [own_yes hm2]; exact h3⟩
        · rw [decide_eq_false hm2]
          walk_at "go"
          exact ⟨_, _, rfl, (e2.trans ex).mut hp0, by rw [upd_same, own_no hm2]; simp [plcs]⟩
    · rintro σ H2 ⟨y1, y2, rfl, e2, h2⟩
      rw [en] at h2
      walk_at "go"
      exact q H2 p0 e2 hp0 h2
def spLShown15 : Sp := fun vs H Q _ => ∃ (p n : Nat), vs = [.int (p : Int), .int (n : Int)] ∧ p < 4 ∧ n ≤ 498 ∧ ∀ H', Ex H H' → Q (.str (pl (dpS (own fxy 1002) p n))) H'
theorem ok_lshown15 {f : Addr} {fd : FuncData} (F : Fun K "_law_shown" "_law_shown" s_law_shown f fd) (T : Txt w K mg tk cl) (D1 : Def P w K mg base CX0 1 "_law_own_names" ["many"] spLOwn15) : FnOk P w K mg base CX0 2 f fd ["pick", "deep"] spLShown15 := by
  obtain ⟨f1, fd1, g_law_own_names, kp_law_own_names, b_law_own_names, G_law_own_names⟩ := D1
  refine F.ok sc_law_shown (fun vs H Q E h => ?_) (fun cdv A outer s H vs Q E hr h => ?_)
  · obtain ⟨p, n, rfl, _⟩ := h
    rfl
  · obtain ⟨p, n, rfl, hp, hn, q⟩ := h
    refine ⟨_, (pss_cons (ps_set (i := 2) sc_law_shown.nd rfl (.inr rfl) (pe_call G_law_own_names (hr.mono (by first | decide | omega)) (by rfl) g_law_own_names kp_law_own_names b_law_own_names .nil pass0 (pa_cons pe_int pa_nil))) (pss_cons (ps_if (pt_cmpR op_eq (pv 0) pe_int (nomark _)) (pss_one (ps_ret (pe_op op_addZ pe_str (pe_op op_repS pe_str (pv 1))))) pss_nil) (pss_cons (ps_if (PW.pt (pw_and (pt_cmpR op_eq (pv 0) pe_int (nomark _)) (pw_and1 (pt_cmpR op_gt (pv 1) pe_int (nomark _))))) (pss_one (ps_ret (pe_op op_addZ (pe_op op_addZ pe_str (pe_join pe_str (pe_slice sl_list (pv 2) po_none (po_some (pe_op op_mul pe_int (pv 1)))))) pe_str))) pss_nil) (pss_cons (ps_if (PW.pt (pw_or (pt_cmpR op_eq (pv 1) pe_int (nomark _)) (pw_or1 (PW.pt (pw_and (pt_cmpR op_eq (pv 0) pe_int (nomark _)) (pw_and1 (pt_cmpR op_eq (pv 1) pe_int (nomark _)))))))) (pss_one (ps_ret pe_str)) pss_nil) (pss_cons (ps_if (pt_cmpR op_eq (pv 0) pe_int (nomark _)) (pss_one (ps_ret (pe_op op_addZ (pe_op op_addZ (pe_op op_repS pe_str (pe_op op_sub (pv 1) pe_int)) pe_str) (pe_op op_repS pe_str (pe_op op_sub (pv 1) pe_int))))) pss_nil) (pss_cons (ps_set (i := 3) sc_law_shown.nd rfl (.inl rfl) (pe_op op_fdivN (pv 1) pe_int)) (pss_cons (ps_setLc (i := 4) (own := [("k", 5)]) (g := gName 5) (tt := tYes) rfl sc_law_shown.nd rfl rfl (sw_true rfl rfl rfl (by decide +kernel)) (pi_range1 (by rfl) T.n_range (pa_cons (pe_op op_sub (pv 3) pe_int) pa_nil)) (blkOk_by (N := N_law_shown) (sc := defScope s_law_shown) (by decide +kernel)) (fun _ _ _ _ _ => pg_name (i := 5) sc_law_shown.nd rfl (Or.inl rfl)) (fun _ _ _ _ _ => pts_nil) (fun _ _ _ _ _ => (pe_op op_addZ (pe_op op_addZ pe_str (pe_ix (ix_listK (K := K) (by rfl)) (pv 2) (pv 5) (fun _ _ => rfl))) pe_str))) (pss_one (ps_ret (pe_op op_addZ (pe_op op_addZ (pe_op op_addZ (pe_op op_addZ (pe_join pe_str (pv 4)) pe_str) (pe_ix ix_list (pv 2) (pe_op op_sub (pv 3) pe_int) (fun _ _ => rfl))) pe_str) (pe_op op_repS pe_str (pe_op op_sub (pv 3) pe_int)))))))))))), ?_⟩
    refine sl_of (σ2 := [some _, some _, none, none, none, none]) rfl ?_
    walk_at "st"
    walk_at "go"
    refine ⟨1000, rfl, by decide, fun H1 po e1 hpo ho => ?_⟩
    have hol := own_len (fs := fxy) (n := 1002) (by decide)
    have hfl : fxy.length = 2 := rfl
    have hou := own_le fxy 1002
    have hon : Nms (own fxy 1002) := fun w hw => nmB_of (own_nm (by decide) w hw)
    have ho : H1 po = some (.lst (plcs (own fxy 1002))) := ho
    generalize own fxy 1002 = bs at *
    walk_at "go"
    refine w_brI (fun c1 => ?_) (fun c1 => ?_)
    · obtain rfl : p = 1 := by omega
      walk_at "go"
      refine w_repCa (k := n) (w := [32, 121]) (by decide +kernel) (by simp) (by simp) (by omega) ?_
      rw [show ("x" : Str) = pl [120] by decide +kernel]
      refine w_addZ (by simp; omega) ?_
      exact q H1 e1
    · walk_at "go"
      have hx : ("x" : Str) = pl [120] := by decide +kernel
      refine w_brI (fun c2 => ?_) (fun c2 => ?_)
      · obtain rfl : p = 0 := by omega
        walk_at "go"
        refine w_br (fun c3 => ?_) (fun c3 => ?_)
        · have hd : dpS bs 0 n = 92 :: (joinW (bs.take (2 * n)) ++ [46, 32, 120]) := if_neg (by omega)
          walk_at "go"
          have hct : cutV (plcs bs) none (some (2 * (n : Int))) = plcs (bs.take (2 * n)) := by
            rw [show (2 * (n : Int)) = ((2 * n : Nat) : Int) by omega, cut_lo, ← List.map_take]
          have hjl := join_len (bs.take (2 * n))
          have hsm := nms_sum (ws := bs.take (2 * n)) fun w hw => hon w (List.mem_of_mem_take hw)
          have htl : (bs.take (2 * n)).length ≤ 1002 := Nat.le_trans (List.length_take_le _ _) (by omega)
          refine w_slL (SqL.of ho) fun ps hps => ?_
          rw [hct]
          have es := Ex.new hps (o := .lst (plcs (bs.take (2 * n))))
          refine w_join (ws := bs.take (2 * n)) upd_same (by omega) ?_
          rw [join_pl, ← pl_bs, show (". x" : Str) = pl [46, 32, 120] by decide +kernel]
          refine w_addZ (by simp; omega) ?_
          walk_at "go"
          refine w_addZ (by simp; omega) ?_
          rw [hd] at q
          exact q _ (e1.trans es)
        · have hd : dpS bs 0 n = [120] := if_pos (by omega)
          walk_at "go"
          refine w_brI (fun c4 => ?_) (fun c4 => ?_)
          · walk_at "go"
            rw [hx, ← hd]
            exact q H1 e1
          · exact absurd c4 (by omega)
      · walk_at "go"
        refine w_brI (fun c4 => ?_) (fun c4 => ?_)
        · obtain rfl : n = 0 := by omega
          have hd : dpS bs p 0 = [120] := by
            rcases (by omega : p = 2 ∨ p = 3) with rfl | rfl
            · rfl
            · rfl
          walk_at "go"
          rw [hx, ← hd]
          exact q H1 e1
        · walk_at "go"
          refine w_brI (fun c5 => ?_) (fun c5 => ?_)
          · obtain rfl : p = 3 := by omega
            walk_at "go"
            refine w_brI (fun c6 => ?_) (fun c6 => ?_)
            · obtain rfl : n = 1 := by omega
              walk_at "go"
              rw [hx]
              exact q H1 e1
            · walk_at "go"
              refine w_brI (fun c7 => absurd c7 (by omega)) (fun c7 => ?_)
              have hd : dpS bs 3 n = frontW bs 0 (n / 2 - 1) ++ (92 :: (bs.getD (n / 2 - 1) [] ++ [46, 32, 120, 32, 120])) ++ (List.replicate (n / 2 - 1) [41, 32, 120]).flatten := if_neg (by omega)
              walk_at "go"
              obtain ⟨m, hm⟩ : ∃ m, n / 2 = m + 1 := ⟨n / 2 - 1, by omega⟩
              have hf := fdiv2 n
              rw [hm] at hf hd
              rw [Nat.add_sub_cancel] at hd
              have hf1 : (n : Int).fdiv 2 - 1 = (m : Int) := by rw [hf]; omega
              have hmb : m ≤ 248 := by omega
              walk_at "go"
              rw [hf1]
              refine ⟨by omega, by omega, fun Dl hDl => ?_⟩
              rw [Int.toNat_natCast]
              refine lc_range (lo := 0) (n := m) (fun i H' => Ex H1 H' ∧ H' Dl = some (.lst (plcs ((List.range i).map fun j => 92 :: (bs.getD j [] ++ [46, 32, 40]))))) ⟨Ex.new hDl, upd_same⟩ ?_ ?_
              · rintro i H5 hi ⟨e5, h5⟩
                obtain ⟨_, _, _, _, _, hbl⟩ := nm_head (hon.get (i := i) (by omega))
                have hob := e5 _ _ ho
                rw [← pl_bs, show (". (" : Str) = pl [46, 32, 40] by decide +kernel]
                walk_at "go"
                rw [Int.zero_add]
                refine w_ixL (SqL.of hob) (atI_nat (plcs_at (by omega))) ?_
                refine w_addZ (by simp only [List.length_append, List.length_cons, List.length_nil]; omega) ?_
                walk_at "go"
                refine w_addZ (by simp only [List.length_append, List.length_cons, List.length_nil]; omega) ?_
                refine ⟨_, h5, ly_lt (by simp; omega), e5.mut hDl, ?_⟩
                rw [upd_same, List.range_succ, List.map_append]
                show _ = some (HO.lst (List.map _ (_ ++ _)))
                rw [List.map_append]
                rfl
              · rintro H5 ⟨e5, h5⟩
                walk_at "go"
                have hfl := front_len hon m (by omega)
                have hfm : (((List.range m).map fun j => 92 :: (bs.getD j [] ++ [46, 32, 40])).flatten).length ≤ 14 * m := by
                  rw [List.length_flatten]
                  exact hfl
                have hfw : frontW bs 0 m = ((List.range m).map fun j => 92 :: (bs.getD j [] ++ [46, 32, 40])).flatten := by
                  unfold frontW
                  simp only [Nat.zero_add]
                rw [hfw] at hd
                obtain ⟨_, _, _, _, _, hbl⟩ := nm_head (hon.get (i := m) (by omega))
                have hob := e5 _ _ ho
                walk_at "go"
                refine w_joinE h5 (by omega) ?_
                rw [join_plE, ← pl_bs]
                generalize ((List.range m).map fun j => 92 :: (bs.getD j [] ++ [46, 32, 40])).flatten = fw at *
                walk_at "go"
                refine w_addZ (by simp only [List.length_append, List.length_cons, List.length_nil]; omega) ?_
                walk_at "go"
                rw [hf1]
                refine w_ixL (SqL.of hob) (atI_nat (plcs_at (by omega))) ?_
                refine w_addZ (by simp only [List.length_append, List.length_cons, List.length_nil]; omega) ?_
                walk_at "go"
                rw [show (". x x" : Str) = pl [46, 32, 120, 32, 120] by decide +kernel]
                refine w_addZ (by simp only [List.length_append, List.length_cons, List.length_nil]; omega) ?_
                walk_at "go"
                rw [hf1]
                refine w_repCa (k := m) (w := [41, 32, 120]) (by decide +kernel) (by simp) (by simp) (by omega) ?_
                have hrl : ((List.replicate m [41, 32, 120]).flatten).length = m * 3 := by simp
                refine w_addZ (by simp only [List.length_append, List.length_cons, List.length_nil, hrl]; omega) ?_
                rw [hd] at q
                refine (congrArg (fun z => Q (V.str (pl z)) H5) ?_).mp (q H5 (e1.trans e5))
                simp
          · obtain rfl : p = 2 := by omega
            walk_at "go"
            refine w_brI (fun c7 => ?_) (fun c7 => absurd rfl c7)
            have hd : dpS bs 2 n = (List.replicate (n - 1) [121, 32, 40]).flatten ++ [121, 32, 120] ++ List.replicate (n - 1) 41 := if_neg (by omega)
            walk_at "go"
            have hyx : ("y x" : Str) = pl [121, 32, 120] := by decide +kernel
            have e1' : (n : Int) - 1 = ((n - 1 : Nat) : Int) := by omega
            walk_at "go"
            rw [e1']
            refine w_repCa (k := n - 1) (w := [121, 32, 40]) (by decide +kernel) (by simp) (by simp) (by omega) ?_
            walk_at "go"
            rw [hyx]
            have hrl : ((List.replicate (n - 1) [121, 32, 40]).flatten).length = (n - 1) * 3 := by simp
            refine w_addZ (by simp only [List.length_append, List.length_cons, List.length_nil, hrl]; omega) ?_
            walk_at "go"
            rw [e1']
            refine w_repCa (k := n - 1) (w := [41]) (by decide +kernel) (by simp) (by simp) (by omega) ?_
            have hr2 : ((List.replicate (n - 1) [41]).flatten).length = n - 1 := by simp
            refine w_addZ (by simp only [List.length_append, List.length_cons, List.length_nil, hrl, hr2]; omega) ?_
            rw [show (List.replicate (n - 1) [41]).flatten = List.replicate (n - 1) 41 by simp, ← hd]
            exact q H1 e1
end
end Ly
set_option Elab.async false
set_option linter.all false
set_option maxRecDepth 100000
set_option maxHeartbeats 8000000
namespace Ly
open PySem PySem.Spec PyProof.Rows L2 Evl
local macro_rules | `(tactic| walk_at "ne") => `(tactic| first
  | assumption
  | ((refine' Ne.symm ?hq); (case hq => assumption))
  | ((refine' ne_of_none ?nh1 ?nh2); (case nh2 => assumption); (case nh1 => walk_at "hp"))
  | ((refine' Ne.symm (ne_of_none ?nh1 ?nh2)); (case nh2 => assumption); (case nh1 => walk_at "hp")))
local macro_rules | `(tactic| walk_at "hp") => `(tactic| first
  | assumption
  | exact upd_same
  | ((refine' SqL.of ?hq); (case hq => walk_at "hp"))
  | ((refine' SqT.of ?hq); (case hq => walk_at "hp"))
  | ((refine' (upd_ne ?hne).trans ?hrest); (case hne => walk_at "ne"); (case hrest => walk_at "hp"))
  | ((refine' ly_at ?hex ?hh); (case hex => assumption); (case hh => walk_at "hp"))
  | ((refine' ly_atF ?hex ?hnn ?hh); (case hex => assumption); (case hh => walk_at "hp"); (case hnn => walk_at "ne"))
  | ((refine' ex_t ?hex ?hh); (case hh => assumption); (case hex => walk_at "ex"))
  | ((refine' ex_l ?hex ?hh); (case hh => assumption); (case hex => walk_at "ex")))
local macro_rules | `(tactic| walk_at "ex") => `(tactic| first
  | assumption
  | exact Ex.refl _
  | ((refine' ex_new ?xa ?xb); (case xb => assumption); (case xa => walk_at "ex"))
  | ((refine' ex_upd ?xa ?xb); (case xb => walk_at "free"); (case xa => walk_at "ex"))
  | ((refine' Ex.trans ?xa ?xb); (case xb => assumption); (case xa => walk_at "ex")))
local macro_rules | `(tactic| walk_at "free") => `(tactic| first
  | assumption
  | ((refine' fresh_back ?xa ?xb); (case xb => assumption); (case xa => walk_at "ex")))
local macro_rules | `(tactic| walk_at "fr") => `(tactic| first
  | assumption
  | exact Fr.refl _ _
  | ((refine' Fr.own ?hq); (case hq => walk_at "fr"))
  | ((refine' Fr.new ?xa ?xb); (case xb => assumption); (case xa => walk_at "fr"))
  | ((refine' Fr.mut ?xa ?xb); (case xb => assumption); (case xa => walk_at "fr"))
  | ((refine' Fr.trans ?xa ?xb); (case xb => assumption); (case xa => walk_at "fr"))
  | ((refine' Fr.trans ?xa (Fr.ex ?xb)); (case xb => assumption); (case xa => walk_at "fr")))
local macro_rules | `(tactic| walk_at "go1") => `(tactic| first
  | (with_reducible refine' w_seq ?_)
  | (with_reducible refine' w_asg ?_)
  | (with_reducible refine' w_ret ?_)
  | (with_reducible refine' w_drop ?_)
  | (with_reducible refine' w_if ?_)
  | (with_reducible refine' w_next ?_)
  | (with_reducible refine' w_name ?_)
  | (with_reducible refine' w_sub ?_)
  | ((with_reducible refine' w_var ?hv ?_); (case hv => exact rfl))
  | (with_reducible refine' w_c ?_)
  | (with_reducible refine' w_op ?_)
  | (with_reducible refine' w_un ?_)
  | (with_reducible refine' w_ch ?_)
  | (with_reducible refine' w_I0 ?_)
  | ((with_reducible refine' w_I ?hc ?_); (case hc => first | (exact ly_mulL (by decide) (by decide)) | (exact ly_mulR (by decide) (by decide)) | (exact ly_mulL (by omega) (by omega)) | (show (_ : Int) ≠ 0; decide) | (show (_ : Int) ≠ 0; omega) | (exact ⟨by decide, by decide⟩) | (exact ⟨by omega, by omega⟩)))
  | (with_reducible refine' w_U ?_)
  | ((with_reducible refine' w_eq ?hs ?_); (case hs => exact rfl))
  | ((with_reducible refine' w_ne ?hs ?_); (case hs => exact rfl))
  | (with_reducible refine' w_isB ?_)
  | (with_reducible refine' w_notB ?_)
  | (with_reducible refine' w_nil ?_)
  | (with_reducible refine' w_cons ?_)
  | (with_reducible refine' w_tup ?_)
  | (with_reducible refine' w_lst ?_)
  | (with_reducible refine' w_cb ?_)
  | (with_reducible refine' w_call ?_)
  | (with_reducible refine' w_bm ?_)
  | (with_reducible refine' w_bm0 ?_)
  | ((with_reducible refine' w_app ?hh ?hz ?_); (case hh => walk_at "hp"); (case hz => first | exact ly_lt (by omega) | exact ly_lt (by simp only [List.length_append, List.length_map, List.length_cons, List.length_nil]; omega)))
  | ((with_reducible refine' w_popA ?hh ?_); (case hh => walk_at "hp"))
  | ((with_reducible refine' w_ext ?hh ?hh2 ?hz ?_); (case hh => walk_at "hp"); (case hh2 => walk_at "hp"))
  | ((with_reducible refine' w_ixL ?hh ?ha ?_); (case hh => walk_at "hp"); (case ha => first | exact rfl | exact at_map (by omega) | exact atI_last _ _ | ((refine' at_of ?ae ?ah); (case ah => assumption); (case ae => omega))))
  | ((with_reducible refine' w_ixT ?hh ?ha ?_); (case hh => walk_at "hp"); (case ha => first | exact rfl | exact at_map (by omega) | exact atI_last _ _ | ((refine' at_of ?ae ?ah); (case ah => assumption); (case ae => omega))))
  | ((with_reducible refine' w_cat ?hh ?hh2 ?hz ?_); (case hh => walk_at "hp"); (case hh2 => walk_at "hp"))
  | ((with_reducible refine' w_setL ?hh ?ha ?_); (case hh => walk_at "hp"); (case ha => exact rfl))
  | (with_reducible refine' w_test ?_)
  | (with_reducible refine' w_tB ?_)
  | (with_reducible refine' w_bl ?_)
  | (with_reducible refine' w_and ?_)
  | (with_reducible refine' w_or ?_)
  | (with_reducible refine' w_not ?_)
  | (with_reducible refine' w_andV ?_)
  | (with_reducible refine' w_orV ?_)
  | (with_reducible refine' w_notV ?_)
  | (with_reducible refine' w_ifE ?_)
  | (with_reducible refine' w_for ?_)
  | ((with_reducible refine' w_nin ?hh ?_); (case hh => walk_at "hp"))
  | ((with_reducible refine' w_sorted ?hh ?_); (case hh => walk_at "hp"))
  | (with_reducible refine' w_tsadd ?_)
  | ((with_reducible refine' w_tsadd1 ?hh ?_); (case hh => walk_at "hp"))
  | ((with_reducible refine' w_sadd ?hh ?hr ?_); (case hh => walk_at "hp"); (case hr => omega))
  | (with_reducible refine' w_iZ ?_)
  | ((with_reducible refine' w_iZ1 ?hh ?hh2 ?_); (case hh => walk_at "hp"); (case hh2 => walk_at "hp"))
  | (with_reducible refine' w_iS ?_)
  | (with_reducible refine' w_iS1 ?_)
  | ((with_reducible refine' w_gtup ?hh ?hn ?_); (case hh => walk_at "hp"); (case hn => exact rfl))
  | (with_reducible refine' w_gcons ?_)
  | (with_reducible refine' w_gnil ?_)
  | (with_reducible refine' w_js ?_)
  | (with_reducible refine' w_jsn ?_)
  | ((with_reducible refine' w_js1 ?hl ?_); (case hl => decide +kernel))
  | (with_reducible refine' w_fmt ?_)
  | ((with_reducible refine' w_fmt1 ?hl ?_); (case hl => decide +kernel))
  | (with_reducible refine' w_callS ?_)
  | ((with_reducible refine' w_truL ?hh ?_); (case hh => walk_at "hp"))
  | (with_reducible refine' w_lc ?_)
  | (with_reducible refine' w_yes ?_)
  | ((with_reducible refine' w_wipe ?he ?_); (case he => exact rfl))
  | (with_reducible refine' w_iL ?_)
  | (with_reducible refine' w_iT ?_)
  | (with_reducible refine' w_iR ?_)
  | ((with_reducible refine' w_iL1 ?hh ?_); (case hh => walk_at "hp"))
  | ((with_reducible refine' w_iT1 ?hh ?_); (case hh => walk_at "hp"))
  | ((with_reducible refine' w_iR1 ?h1 ?h2 ?_); (case h1 => omega); (case h2 => omega))
  | ((with_reducible refine' w_aug ?hv ?_); (case hv => exact rfl))
  | (with_reducible refine' w_ipI ?_)
  | ((with_reducible refine' w_isi ?hy ?hk ?_); (case hy => walk_at "ty"); (case hk => walk_at "kit"))
  | ((with_reducible refine' w_int ?_))
  | ((with_reducible refine' w_intB ?_))
  | ((with_reducible refine' w_abs ?_))
  | ((with_reducible refine' w_lenL ?hh ?_); (case hh => walk_at "hp"))
  | ((with_reducible refine' w_lenT ?hh ?_); (case hh => walk_at "hp"))
  | ((with_reducible refine' w_tupL ?hh ?_); (case hh => walk_at "hp"))
  | ((with_reducible refine' w_tupT ?hh ?_); (case hh => walk_at "hp"))
  | ((with_reducible refine' w_catA ?hh ?hh2 ?hz ?_); (case hh => walk_at "hp"); (case hh2 => walk_at "hp"); (case hz => walk_at "len"))
  | ((with_reducible refine' w_repB ?hh ?hne ?h2 ?h3 ?hz ?_); (case hh => walk_at "hp"); (case hne => simp); (case h2 => omega); (case h3 => omega); (case hz => exact Nat.le_of_ble_eq_true rfl))
  | ((with_reducible refine' w_eqN ?hh ?hh2 ?n1 ?n2 ?_); (case hh => walk_at "hp"); (case hh2 => walk_at "hp"); (case n1 => walk_at "nd"); (case n2 => walk_at "nd"))
  | ((with_reducible refine' w_neN ?hh ?hh2 ?n1 ?n2 ?_); (case hh => walk_at "hp"); (case hh2 => walk_at "hp"); (case n1 => walk_at "nd"); (case n2 => walk_at "nd"))
  | ((with_reducible refine' w_eqL ?hh ?hh2 ?n1 ?n2 ?_); (case hh => walk_at "hp"); (case hh2 => walk_at "hp"); (case n1 => walk_at "nd"); (case n2 => walk_at "nd"))
  | ((with_reducible refine' w_neL ?hh ?hh2 ?n1 ?n2 ?_); (case hh => walk_at "hp"); (case hh2 => walk_at "hp"); (case n1 => walk_at "nd"); (case n2 => walk_at "nd"))
  | ((with_reducible refine' w_neNon ?hh2 ?n2 ?_); (case hh2 => walk_at "hp"); (case n2 => walk_at "nd"))
  | ((with_reducible refine' w_eqNon ?hh2 ?n2 ?_); (case hh2 => walk_at "hp"); (case n2 => walk_at "nd"))
  | ((with_reducible refine' w_slA ?hh ?_); (case hh => walk_at "hp"))
  | ((with_reducible refine' w_disp ?hz ?_); (case hz => exact sz_of (Nat.le_of_ble_eq_true rfl)))
  | ((with_reducible refine' w_tyL ?hh ?_); (case hh => walk_at "hp"))
  | (with_reducible refine' iteT ?_)
  | (with_reducible refine' iteF ?_)
  | (with_reducible refine' w_nT ?_)
  | (with_reducible refine' w_nn ?_)
  | (with_reducible refine' w_nnT ?_)
  | (with_reducible refine' w_nnR ?_)
  | (with_reducible refine' w_neG ?_)
  | (with_reducible refine' w_eqG ?_)
  | (with_reducible refine' w_neS ?_)
  | (with_reducible refine' w_eqS ?_)
  | (with_reducible refine' w_neSb ?_)
  | (with_reducible refine' w_eqSb ?_)
  | (with_reducible refine' w_deIS ?_)
  | (with_reducible refine' w_deSI ?_)
  | (with_reducible refine' w_deISn ?_)
  | ((with_reducible refine' w_deST ?he ?_); (case he => decide +kernel))
  | ((with_reducible refine' w_deSF ?he ?_); (case he => decide +kernel))
  | ((with_reducible refine' w_deSTn ?he ?_); (case he => decide +kernel))
  | ((with_reducible refine' w_deSFn ?he ?_); (case he => decide +kernel))
  | (with_reducible refine' w_nF ?_)
  | dsimp only [Bool.not_true, Bool.not_false])
local macro_rules | `(tactic| walk_at "ty") => `(tactic| first
  | exact .base (.int _) | exact .base (.str _) | exact .base (.bl _) | exact .base .non
  | ((refine' tyx_t ?hq); (case hq => walk_at "hp")) | ((refine' tyx_l ?hq); (case hq => walk_at "hp")) | ((refine' .base (.tup ?hq)); (case hq => walk_at "hp")) | assumption)
local macro_rules | `(tactic| walk_at "go") => `(tactic| repeat walk_at "go1")
local macro_rules | `(tactic| walk_at "st") => `(tactic| try dsimp only [cxOf, Cx.nox, Cx.wish])
local macro_rules | `(tactic| walk_at "kit") => `(tactic| with_reducible first | exact kit_int_int | exact kit_int_str | exact kit_int_bool | exact kit_int_tuple | exact kit_int_list | exact kit_str_int | exact kit_str_str | exact kit_str_bool | exact kit_str_tuple | exact kit_str_list | exact kit_bool_int | exact kit_bool_str | exact kit_bool_bool | exact kit_bool_tuple | exact kit_bool_list | exact kit_NoneType_int | exact kit_NoneType_str | exact kit_NoneType_bool | exact kit_NoneType_tuple | exact kit_NoneType_list | exact kit_list_int | exact kit_list_str | exact kit_list_bool | exact kit_list_tuple | exact kit_list_list | exact kit_tuple_int | exact kit_tuple_str | exact kit_tuple_bool | exact kit_tuple_tuple | exact kit_tuple_list)
local macro_rules | `(tactic| walk_at "nd") => `(tactic| first
  | assumption
  | exact Tm.nds _
  | exact Nds.nil
  | exact Nds.ofInts _
  | ((refine' Nds.cons ?na ?nb); (case na => first | exact Nds.I _ | exact Nds.L | exact Nds.A); (case nb => walk_at "nd"))
  | ((refine' Nds.app ?na ?nb); (case na => walk_at "nd"); (case nb => walk_at "nd"))
  | ((refine' Nds.rep ?na _); (case na => walk_at "nd")))
local macro_rules | `(tactic| walk_at "len") => `(tactic| first
  | exact ly_sz (by omega)
  | ((simp only [List.length_append, List.length_cons, List.length_nil, List.length_map, PyProof.Rows.lm_len_rep_flat]); exact ly_sz (by omega)))
local macro_rules | `(tactic| walk_at "go1") => `(tactic| first
  | (with_reducible refine' w_kget2 ?_)
  | (with_reducible refine' w_isRN ?_)
  | (with_reducible refine' w_isNN ?_)
  | (with_reducible refine' w_isIN ?_)
  | ((with_reducible refine' w_kg ?hd ?_); (case hd => assumption)))
local macro_rules | `(tactic| walk_at "go1") => `(tactic| first
  | ((with_reducible refine' w_extT ?hh ?hh2 ?hz ?_); (case hh => walk_at "hp"); (case hh2 => walk_at "hp"))
  | ((with_reducible refine' w_I ?hc ?_); (case hc => exact ⟨by decide, by decide, by decide⟩))
  | (with_reducible refine' w_sl ?_)
  | (with_reducible refine' w_noP ?_)
  | (with_reducible refine' w_part ?_)
  | (with_reducible refine' w_part1 ?_)
  | (with_reducible refine' w_it ?_)
  | (with_reducible refine' w_it1 ?_)
  | ((with_reducible refine' w_lenZ ?hz ?_); (case hz => omega))
  | ((with_reducible refine' w_addZb ?hz ?_); (case hz => omega))
  | ((with_reducible refine' w_addZf ?hz ?_); (case hz => omega))
  | ((with_reducible refine' w_addZa ?hz ?_); (case hz => omega))
  | ((with_reducible refine' w_inS ?hh ?_); (case hh => walk_at "hp"))
  | ((with_reducible refine' w_ixT ?hh ?ha ?_); (case hh => assumption); (case ha => exact atI_nat (by assumption))))
local macro_rules | `(tactic| walk_at "go1") => `(tactic| first
  | (with_reducible refine' w_iR2 ?_)
  | ((with_reducible refine' w_iR21 ?h1 ?h2 ?h3 ?h4 ?_); (case h1 => omega); (case h2 => omega); (case h3 => omega); (case h4 => omega))
  | (with_reducible refine' w_nnI ?_)
  | (with_reducible refine' w_max ?_)
  | (with_reducible refine' w_break ?_)
  | (with_reducible refine' w_cont ?_))
section
variable {P : Program} {w : World} {K : PySem.W.Frag} {mg : Str → Option Value} {base : Heap} {tk : Nat → Tok} {cl : Nat → Addr}
def spPutTold (K : PySem.W.Frag) : Sp := fun vs H Q _ => ∃ (a b : Addr) (t u : Tm), vs = [.ref a, .ref b] ∧ SqT K H a t.enc ∧ SqT K H b u.enc ∧ t.enc.length ≤ 20000 ∧ u.enc.length ≤ 20000 ∧
  (fitsV (Tm.put u 0 t).enc = true → ∀ p H', Ex H H' → SqT K H' p (Tm.put u 0 t).enc → Q (.ref p) H') ∧ (fitsV (Tm.put u 0 t).enc = false → ∀ H', Ex H H' → Q .non H')
theorem ok_ptold {f : Addr} {fd : FuncData} (F : Fun K "_law_put_told" "_law_put_told" s_law_put_told f fd) (T : Txt w K mg tk cl)
    (D1 : Def P w K mg base (L2.CX P w) 3 "put" ["term", "value"] (spPut K (cl 1))) : FnOk P w K mg base CX0 5 f fd ["term", "value"] (spPutTold K) := by
  obtain ⟨f1, fd1, g_put, kp_put, b_put, G_put⟩ := D1
  refine F.ok sc_law_put_told (fun vs H Q E h => ?_) (fun cdv A outer s H vs Q E hr h => ?_)
  · obtain ⟨_, _, _, _, rfl, _⟩ := h
    rfl
  · obtain ⟨a, b, t, u, rfl, ha, hb, la, lb, q1, q2⟩ := h
    refine ⟨_, (pss_one (ps_try_only rfl rfl ⟨rfl, by decide, .inl T.g_TooLarge⟩ takes0 (fun W pn xe tk po => (pss_one (ps_ret (pe_callS G_put (hr.mono (by first | decide | omega)) (by rfl) g_put kp_put b_put (fun σ => passAt tk σ) (pa_cons (pv 0) (pa_cons (pv 1) pa_nil)))))) (fun a oe cls d pn hz hf => (pss_one (ps_ret pe_non))))), ?_⟩
    refine sl_of (σ2 := [some _, some _]) rfl ?_
    walk_at "st"
    walk_at "go"
    refine ⟨a, b, t, u, rfl, ha, hb, la, lb, fun hf p H2 e2 hp => ?_, fun hf H2 e2 => ?_⟩
    · walk_at "go"
      exact q1 hf p H2 e2 hp
    · refine ⟨true, T.e_TooLarge_TooLarge, fun _ a1 ha1 => ?_, fun z => nomatch z⟩
      walk_at "go"
      exact q2 hf H2 e2
end
end Ly
set_option Elab.async false
set_option linter.all false
set_option maxRecDepth 100000
set_option maxHeartbeats 8000000
namespace Ly
open PySem PySem.Spec PyProof.Rows L2 Evl
local macro_rules | `(tactic| walk_at "ne") => `(tactic| first
  | assumption
  | ((refine' Ne.symm ?hq); (case hq => assumption))
  | ((refine' ne_of_none ?nh1 ?nh2); (case nh2 => assumption); (case nh1 => walk_at "hp"))
  | ((refine' Ne.symm (ne_of_none ?nh1 ?nh2)); (case nh2 => assumption); (case nh1 => walk_at "hp")))
local macro_rules | `(tactic| walk_at "hp") => `(tactic| first
  | assumption
  | exact upd_same
  | ((refine' SqL.of ?hq); (case hq => walk_at "hp"))
  | ((refine' SqT.of ?hq); (case hq => walk_at "hp"))
  | ((refine' (upd_ne ?hne).trans ?hrest); (case hne => walk_at "ne"); (case hrest => walk_at "hp"))
  | ((refine' ly_at ?hex ?hh); (case hex => assumption); (case hh => walk_at "hp"))
  | ((refine' ly_atF ?hex ?hnn ?hh); (case hex => assumption); (case hh => walk_at "hp"); (case hnn => walk_at "ne"))
  | ((refine' ex_t ?hex ?hh); (case hh => assumption); (case hex => walk_at "ex"))
  | ((refine' ex_l ?hex ?hh); (case hh => assumption); (case hex => walk_at "ex")))
local macro_rules | `(tactic| walk_at "ex") => `(tactic| first
  | assumption
  | exact Ex.refl _
  | ((refine' ex_new ?xa ?xb); (case xb => assumption); (case xa => walk_at "ex"))
  | ((refine' ex_upd ?xa ?xb); (case xb => walk_at "free"); (case xa => walk_at "ex"))
  | ((refine' Ex.trans ?xa ?xb); (case xb => assumption); (case xa => walk_at "ex")))
local macro_rules | `(tactic| walk_at "free") => `(tactic| first
  | assumption
  | ((refine' fresh_back ?xa ?xb); (case xb => assumption); (case xa => walk_at "ex")))
local macro_rules | `(tactic| walk_at "fr") => `(tactic| first
  | assumption
  | exact Fr.refl _ _
  | ((refine' Fr.own ?hq); (case hq => walk_at "fr"))
  | ((refine' Fr.new ?xa ?xb); (case xb => assumption); (case xa => walk_at "fr"))
  | ((refine' Fr.mut ?xa ?xb); (case xb => assumption); (case xa => walk_at "fr"))
  | ((refine' Fr.trans ?xa ?xb); (case xb => assumption); (case xa => walk_at "fr"))
  | ((refine' Fr.trans ?xa (Fr.ex ?xb)); (case xb => assumption); (case xa => walk_at "fr")))
local macro_rules | `(tactic| walk_at "go1") => `(tactic| first
  | (with_reducible refine' w_seq ?_)
  | (with_reducible refine' w_asg ?_)
  | (with_reducible refine' w_ret ?_)
  | (with_reducible refine' w_drop ?_)
  | (with_reducible refine' w_if ?_)
  | (with_reducible refine' w_next ?_)
  | (with_reducible refine' w_name ?_)
  | (with_reducible refine' w_sub ?_)
  | ((with_reducible refine' w_var ?hv ?_); (case hv => exact rfl))
  | (with_reducible refine' w_c ?_)
  | (with_reducible refine' w_op ?_)
  | (with_reducible refine' w_un ?_)
  | (with_reducible refine' w_ch ?_)
  | (with_reducible refine' w_I0 ?_)
  | ((with_reducible refine' w_I ?hc ?_); (case hc => first | (exact ly_mulL (by decide) (by decide)) | (exact ly_mulR (by decide) (by decide)) | (exact ly_mulL (by omega) (by omega)) | (show (_ : Int) ≠ 0; decide) | (show (_ : Int) ≠ 0; omega) | (exact ⟨by decide, by decide⟩) | (exact ⟨by omega, by omega⟩)))
  | (with_reducible refine' w_U ?_)
  | ((with_reducible refine' w_eq ?hs ?_); (case hs => exact rfl))
  | ((with_reducible refine' w_ne ?hs ?_); (case hs => exact rfl))
  | (with_reducible refine' w_isB ?_)
  | (with_reducible refine' w_notB ?_)
  | (with_reducible refine' w_nil ?_)
  | (with_reducible refine' w_cons ?_)
  | (with_reducible refine' w_tup ?_)
  | (with_reducible refine' w_lst ?_)
  | (with_reducible refine' w_cb ?_)
  | (with_reducible refine' w_call ?_)
  | (with_reducible refine' w_bm ?_)
  | (with_reducible refine' w_bm0 ?_)
  | ((with_reducible refine' w_app ?hh ?hz ?_); (case hh => walk_at "hp"); (case hz => first | exact ly_lt (by omega) | exact ly_lt (by simp only [List.length_append, List.length_map, List.length_cons, List.length_nil]; omega)))
  | ((with_reducible refine' w_popA ?hh ?_); (case hh => walk_at "hp"))
  | ((with_reducible refine' w_ext ?hh ?hh2 ?hz ?_); (case hh => walk_at "hp"); (case hh2 => walk_at "hp"))
  | ((with_reducible refine' w_ixL ?hh ?ha ?_); (case hh => walk_at "hp"); (case ha => first | exact rfl | exact at_map (by omega) | exact atI_last _ _ | ((refine' at_of ?ae ?ah); (case ah => assumption); (case ae => omega))))
  | ((with_reducible refine' w_ixT ?hh ?ha ?_); (case hh => walk_at "hp"); (case ha => first | exact rfl | exact at_map (by omega) | exact atI_last _ _ | ((refine' at_of ?ae ?ah); (case ah => assumption); (case ae => omega))))
  | ((with_reducible refine' w_cat ?hh ?hh2 ?hz ?_); (case hh => walk_at "hp"); (case hh2 => walk_at "hp"))
  | ((with_reducible refine' w_setL ?hh ?ha ?_); (case hh => walk_at "hp"); (case ha => exact rfl))
  | (with_reducible refine' w_test ?_)
  | (with_reducible refine' w_tB ?_)
  | (with_reducible refine' w_bl ?_)
  | (with_reducible refine' w_and ?_)
  | (with_reducible refine' w_or ?_)
  | (with_reducible refine' w_not ?_)
  | (with_reducible refine' w_andV ?_)
  | (with_reducible refine' w_orV ?_)
  | (with_reducible refine' w_notV ?_)
  | (with_reducible refine' w_ifE ?_)
  | (with_reducible refine' w_for ?_)
  | ((with_reducible refine' w_nin ?hh ?_); (case hh => walk_at "hp"))
  | ((with_reducible refine' w_sorted ?hh ?_); (case hh => walk_at "hp"))
  | (with_reducible refine' w_tsadd ?_)
  | ((with_reducible refine' w_tsadd1 ?hh ?_); (case hh => walk_at "hp"))
  | ((with_reducible refine' w_sadd ?hh ?hr ?_); (case hh => walk_at "hp"); (case hr => omega))
  | (with_reducible refine' w_iZ ?_)
  | ((with_reducible refine' w_iZ1 ?hh ?hh2 ?_); (case hh => walk_at "hp"); (case hh2 => walk_at "hp"))
  | (with_reducible refine' w_iS ?_)
  | (with_reducible refine' w_iS1 ?_)
  | ((with_reducible refine' w_gtup ?hh ?hn ?_); (case hh => walk_at "hp"); (case hn => exact rfl))
  | (with_reducible refine' w_gcons ?_)
  | (with_reducible refine' w_gnil ?_)
  | (with_reducible refine' w_js ?_)
  | (with_reducible refine' w_jsn ?_)
  | ((with_reducible refine' w_js1 ?hl ?_); (case hl => decide +kernel))
  | (with_reducible refine' w_fmt ?_)
  | ((with_reducible refine' w_fmt1 ?hl ?_); (case hl => decide +kernel))
  | (with_reducible refine' w_callS ?_)
  | ((with_reducible refine' w_truL ?hh ?_); (case hh => walk_at "hp"))
  | (with_reducible refine' w_lc ?_)
  | (with_reducible refine' w_yes ?_)
  | ((with_reducible refine' w_wipe ?he ?_); (case he => exact rfl))
  | (with_reducible refine' w_iL ?_)
  | (with_reducible refine' w_iT ?_)
  | (with_reducible refine' w_iR ?_)
  | ((with_reducible refine' w_iL1 ?hh ?_); (case hh => walk_at "hp"))
  | ((with_reducible refine' w_iT1 ?hh ?_); (case hh => walk_at "hp"))
  | ((with_reducible refine' w_iR1 ?h1 ?h2 ?_); (case h1 => omega); (case h2 => omega))
  | ((with_reducible refine' w_aug ?hv ?_); (case hv => exact rfl))
  | (with_reducible refine' w_ipI ?_)
  | ((with_reducible refine' w_isi ?hy ?hk ?_); (case hy => walk_at "ty"); (case hk => walk_at "kit"))
  | ((with_reducible refine' w_int ?_))
  | ((with_reducible refine' w_intB ?_))
  | ((with_reducible refine' w_abs ?_))
  | ((with_reducible refine' w_lenL ?hh ?_); (case hh => walk_at "hp"))
  | ((with_reducible refine' w_lenT ?hh ?_); (case hh => walk_at "hp"))
  | ((with_reducible refine' w_tupL ?hh ?_); (case hh => walk_at "hp"))
  | ((with_reducible refine' w_tupT ?hh ?_); (case hh => walk_at "hp"))
  | ((with_reducible refine' w_catA ?hh ?hh2 ?hz ?_); (case hh => walk_at "hp"); (case hh2 => walk_at "hp"); (case hz => walk_at "len"))
  | ((with_reducible refine' w_repB ?hh ?hne ?h2 ?h3 ?hz ?_); (case hh => walk_at "hp"); (case hne => simp); (case h2 => omega); (case h3 => omega); (case hz => exact Nat.le_of_ble_eq_true rfl))
  | ((with_reducible refine' w_eqN ?hh ?hh2 ?n1 ?n2 ?_); (case hh => walk_at "hp"); (case hh2 => walk_at "hp"); (case n1 => walk_at "nd"); (case n2 => walk_at "nd"))
  | ((with_reducible refine' w_neN ?hh ?hh2 ?n1 ?n2 ?_); (case hh => walk_at "hp"); (case hh2 => walk_at "hp"); (case n1 => walk_at "nd"); (case n2 => walk_at "nd"))
  | ((with_reducible refine' w_eqL ?hh ?hh2 ?n1 ?n2 ?_); (case hh => walk_at "hp"); (case hh2 => walk_at "hp"); (case n1 => walk_at "nd"); (case n2 => walk_at "nd"))
  | ((with_reducible refine' w_neL ?hh ?hh2 ?n1 ?n2 ?_); (case hh => walk_at "hp"); (case hh2 => walk_at "hp"); (case n1 => walk_at "nd"); (case n2 => walk_at "nd"))
  | ((with_reducible refine' w_neNon ?hh2 ?n2 ?_); (case hh2 => walk_at "hp"); (case n2 => walk_at "nd"))
  | ((with_reducible refine' w_eqNon ?hh2 ?n2 ?_); (case hh2 => walk_at "hp"); (case n2 => walk_at "nd"))
  | ((with_reducible refine' w_slA ?hh ?_); (case hh => walk_at "hp"))
  | ((with_reducible refine' w_disp ?hz ?_); (case hz => exact sz_of (Nat.le_of_ble_eq_true rfl)))
  | ((with_reducible refine' w_tyL ?hh ?_); (case hh => walk_at "hp"))
  | (with_reducible refine' iteT ?_)
  | (with_reducible refine' iteF ?_)
  | (with_reducible refine' w_nT ?_)
  | (with_reducible refine' w_nn ?_)
  | (with_reducible refine' w_nnT ?_)
  | (with_reducible refine' w_nnR ?_)
  | (with_reducible refine' w_neG ?_)
  | (with_reducible refine' w_eqG ?_)
  | (with_reducible refine' w_neS ?_)
  | (with_reducible refine' w_eqS ?_)
  | (with_reducible refine' w_neSb ?_)
  | (with_reducible refine' w_eqSb ?_)
  | (with_reducible refine' w_deIS ?_)
  | (with_reducible refine' w_deSI ?_)
  | (with_reducible refine' w_deISn ?_)
  | ((with_reducible refine' w_deST ?he ?_); (case he => decide +kernel))
  | ((with_reducible refine' w_deSF ?he ?_); (case he => decide +kernel))
  | ((with_reducible refine' w_deSTn ?he ?_); (case he => decide +kernel))
  | ((with_reducible refine' w_deSFn ?he ?_); (case he => decide +kernel))
  | (with_reducible refine' w_nF ?_)
  | dsimp only [Bool.not_true, Bool.not_false])
local macro_rules | `(tactic| walk_at "ty") => `(tactic| first
  | exact .base (.int _) | exact .base (.str _) | exact .base (.bl _) | exact .base .non
  | ((refine' tyx_t ?hq); (case hq => walk_at "hp")) | ((refine' tyx_l ?hq); (case hq => walk_at "hp")) | ((refine' .base (.tup ?hq)); (case hq => walk_at "hp")) | assumption)
local macro_rules | `(tactic| walk_at "go") => `(tactic| repeat walk_at "go1")
local macro_rules | `(tactic| walk_at "st") => `(tactic| try dsimp only [cxOf, Cx.nox, Cx.wish])
local macro_rules | `(tactic| walk_at "kit") => `(tactic| with_reducible first | exact kit_int_int | exact kit_int_str | exact kit_int_bool | exact kit_int_tuple | exact kit_int_list | exact kit_str_int | exact kit_str_str | exact kit_str_bool | exact kit_str_tuple | exact kit_str_list | exact kit_bool_int | exact kit_bool_str | exact kit_bool_bool | exact kit_bool_tuple | exact kit_bool_list | exact kit_NoneType_int | exact kit_NoneType_str | exact kit_NoneType_bool | exact kit_NoneType_tuple | exact kit_NoneType_list | exact kit_list_int | exact kit_list_str | exact kit_list_bool | exact kit_list_tuple | exact kit_list_list | exact kit_tuple_int | exact kit_tuple_str | exact kit_tuple_bool | exact kit_tuple_tuple | exact kit_tuple_list)
local macro_rules | `(tactic| walk_at "nd") => `(tactic| first
  | assumption
  | exact Tm.nds _
  | exact Nds.nil
  | exact Nds.ofInts _
  | ((refine' Nds.cons ?na ?nb); (case na => first | exact Nds.I _ | exact Nds.L | exact Nds.A); (case nb => walk_at "nd"))
  | ((refine' Nds.app ?na ?nb); (case na => walk_at "nd"); (case nb => walk_at "nd"))
  | ((refine' Nds.rep ?na _); (case na => walk_at "nd")))
local macro_rules | `(tactic| walk_at "len") => `(tactic| first
  | exact ly_sz (by omega)
  | ((simp only [List.length_append, List.length_cons, List.length_nil, List.length_map, PyProof.Rows.lm_len_rep_flat]); exact ly_sz (by omega)))
local macro_rules | `(tactic| walk_at "go1") => `(tactic| first
  | (with_reducible refine' w_kget2 ?_)
  | (with_reducible refine' w_isRN ?_)
  | (with_reducible refine' w_isNN ?_)
  | (with_reducible refine' w_isIN ?_)
  | ((with_reducible refine' w_kg ?hd ?_); (case hd => assumption)))
local macro_rules | `(tactic| walk_at "go1") => `(tactic| first
  | ((with_reducible refine' w_extT ?hh ?hh2 ?hz ?_); (case hh => walk_at "hp"); (case hh2 => walk_at "hp"))
  | ((with_reducible refine' w_I ?hc ?_); (case hc => exact ⟨by decide, by decide, by decide⟩))
  | (with_reducible refine' w_sl ?_)
  | (with_reducible refine' w_noP ?_)
  | (with_reducible refine' w_part ?_)
  | (with_reducible refine' w_part1 ?_)
  | (with_reducible refine' w_it ?_)
  | (with_reducible refine' w_it1 ?_)
  | ((with_reducible refine' w_lenZ ?hz ?_); (case hz => omega))
  | ((with_reducible refine' w_addZb ?hz ?_); (case hz => omega))
  | ((with_reducible refine' w_addZf ?hz ?_); (case hz => omega))
  | ((with_reducible refine' w_addZa ?hz ?_); (case hz => omega))
  | ((with_reducible refine' w_inS ?hh ?_); (case hh => walk_at "hp"))
  | ((with_reducible refine' w_ixT ?hh ?ha ?_); (case hh => assumption); (case ha => exact atI_nat (by assumption))))
local macro_rules | `(tactic| walk_at "go1") => `(tactic| first
  | (with_reducible refine' w_iR2 ?_)
  | ((with_reducible refine' w_iR21 ?h1 ?h2 ?h3 ?h4 ?_); (case h1 => omega); (case h2 => omega); (case h3 => omega); (case h4 => omega))
  | (with_reducible refine' w_nnI ?_)
  | (with_reducible refine' w_max ?_)
  | (with_reducible refine' w_break ?_)
  | (with_reducible refine' w_cont ?_))
local macro_rules | `(tactic| walk_at "go1") => `(tactic| first
  | (with_reducible refine' w_m1 ?_)
  | (with_reducible refine' w_m11 ?_)
  | (with_reducible refine' w_st2 ?_)
  | (with_reducible refine' w_sg ?_)
  | (with_reducible refine' w_sg2 ?_)
  | (with_reducible refine' w_sgSp ?_)
  | ((with_reducible refine' w_lcnt ?hh ?_); (case hh => walk_at "hp")))
local macro_rules | `(tactic| walk_at "go1") => `(tactic| first
  | (with_reducible refine' w_bmX ?_)
  | ((with_reducible refine' w_bmX1 ?hh ?_); (case hh => assumption))
  | ((with_reducible refine' w_tcnt ?hh ?hn ?_); (case hh => walk_at "hp"); (case hn => walk_at "nd")))
local macro_rules | `(tactic| walk_at "hp") => `(tactic| first
  | ((refine' SqX.t ?hq); (case hq => assumption)))
local macro_rules | `(tactic| walk_at "go1") => `(tactic| first
  | (with_reducible refine' w_tupD ?_)
  | ((with_reducible refine' w_catF ?hh ?hh2 ?nx ?ny ?hz ?_); (case hh => walk_at "hp"); (case hh2 => walk_at "hp"); (case nx => first | (simp; done) | exact ne_flat (by assumption) | exact Tm.enc_ne _); (case ny => first | exact Tm.enc_ne _ | (simp; done)); (case hz => walk_at "len")))
section
variable {P : Program} {w : World} {K : PySem.W.Frag} {mg : Str → Option Value} {base : Heap} {tk : Nat → Tok} {cl : Nat → Addr}
theorem sqx_mut {H : Hp} {a p : Addr} {xs ys : List V} {o : HO} (h : SqX H a xs) (hp : H p = some (.lst ys)) : SqX (upd H p o) a xs := by
  obtain ⟨ob, h, c⟩ := h
  exact ⟨ob, by rw [upd_ne (fun z => by rw [z, hp] at h; cases h)]; exact h, c⟩
theorem okF_wf {m : Nat} : ∀ {t : Tm} {d : Nat}, t.wf (d + m) → okF m d t
  | .var n, d, h => h
  | .lam b, d, h => okF_wf (t := b) (d := d + 1) (by have h : b.wf (d + m + 1) := h; rw [show d + 1 + m = d + m + 1 by omega]; exact h)
  | .app f a, d, h => ⟨okF_wf h.1, okF_wf h.2⟩
theorem put_two (t : Tm) : Tm.put t 0 (.app (.var 0) (.var 0)) = .app t t := by
  show Tm.app (Tm.put t 0 (.var 0)) (Tm.put t 0 (.var 0)) = _
  have e : Tm.put t 0 (.var 0) = t := by simp [Tm.put, Tm.lif_zero]
  rw [e]
theorem w_two {c : Bool} {A B : Hp → Prop} {Pr : Hp → Prop} (k : ∀ H', Pr H' → B H') (h2 : c = true → (∀ H', Pr H' → B H') → ∀ H, Pr H → A H) : ∀ H, Pr H → if c = true then A H else B H := by
  intro H h
  split
  · exact h2 (by assumption) k H h
  · exact k H h
theorem due_ok15 {t v : Tm} {i : Nat} {u : Tm} (h1 : t.vars 1000000) (h2 : v.vars 1000000) : fitsV (dueV t v i u) = decide ((dueV t v i u).length ≤ 1000) := by
  have a1 := List.all_eq_true.mp (ok_vars h1)
  have a2 := List.all_eq_true.mp (ok_vars h2)
  have : (dueV t v i u).all okV = true := by
    refine List.all_eq_true.mpr fun x hx => ?_
    simp only [dueV, List.mem_append] at hx
    rcases hx with (hx | hx) | hx
    · exact a1 x (List.mem_of_mem_take hx)
    · exact a2 x hx
    · exact a1 x (List.mem_of_mem_drop hx)
  rw [fitsV, this, Bool.and_true]
theorem vars_mem15 {M : Nat} : ∀ {t : Tm} {m : Nat}, t.vars M → V.int m ∈ t.enc → m ≤ M
  | .var n, m, h, hm => by
    have e : (m : Int) = n := by simpa [Tm.enc] using hm
    have h : n ≤ M := h
    omega
  | .lam b, m, h, hm => by
    rcases List.mem_cons.mp hm with e | e
    · cases e
    · exact vars_mem15 (t := b) h e
  | .app f a, m, h, hm => by
    rcases List.mem_cons.mp hm with e | e
    · cases e
    · rcases List.mem_append.mp e with e | e
      · exact vars_mem15 (t := f) h.1 e
      · exact vars_mem15 (t := a) h.2 e
theorem cut_last (xs : List V) : cutV xs none (some (-1)) = xs.dropLast := by
  rw [List.dropLast_eq_take]
  unfold cutV
  rw [HT.sIx_none]
  have e : HT.sIx xs.length xs.length (some (-1)) = xs.length - 1 := by
    unfold HT.sIx
    simp
    omega
  rw [e]
  simp
theorem nds_of {xs ys : List V} (h : Nds xs) (s : ∀ x ∈ ys, x ∈ xs) : Nds ys := fun x hx => h x (s x hx)
theorem nds_app {xs ys : List V} (h : Nds xs) (k : Nds ys) : Nds (xs ++ ys) := fun x hx => (List.mem_append.mp hx).elim (h x) (k x)
theorem nds_i (i : Int) : Nds [V.int i] := fun x hx => .inl ⟨i, List.mem_singleton.mp hx⟩
def spLaw (K : PySem.W.Frag) (PT : Addr) : Sp := fun vs H Q _ => ∃ (a : Addr) (ns : List Int), vs = [.ref a] ∧ SqL K H a (ns.map V.int) ∧ ns.length ≤ 63 ∧ GxR.TabG H PT ∧ ∀ H', Q (.bl true) H'
theorem ok_law {f : Addr} {fd : FuncData} {PT : Addr} (F : Fun K "law" "law" s_law f fd) (T : Txt w K mg tk cl)
    (D1 : Def P w K mg base CX0 1 "_law_stream" ["script"] (spStream K)) (D2 : Def P w K mg base CX0 1 "_law_draw" ["stream", "many"] spDraw) (D3 : Def P w K mg base CX0 1 "_law_deep" ["pick", "deep"] (spDeep K))
    (D4 : Def P w K mg base CX0 4 "is_term" ["value"] (spIsW K ["lam", "app"])) (D5 : Def P w K mg base CX0 1 "_law_places" ["term"] (spLPlaces K)) (D6 : Def P w K mg base CX0 2 "places" ["term"] (spLPlaces K))
    (D7 : Def P w K mg base (L2.CX P w) 4 "part" ["term", "place"] (spPart K (cl 3))) (D8 : Def P w K mg base CX0 1 "comes_before" ["first", "second"] spBefore) (D9 : Def P w K mg base (L2.CX P w) 4 "replace" ["term", "place", "value"] (spRepl K (cl 1) (cl 3)))
    (D10 : Def P w K mg base CX0 1 "_law_depths" ["term"] (spDepths K)) (D11 : Def P w K mg base CX0 2 "free" ["term"] (spFree K)) (D12 : Def P w K mg base (L2.CX P w) 3 "lift" ["term", "count"] (spLift K (cl 1)))
    (D13 : Def P w K mg base CX0 2 "_law_lift" ["term", "count"] (spLawLift K)) (D14 : Def P w K mg base CX0 3 "_law_put" ["term", "value"] (spLawPut K)) (D15 : Def P w K mg base CX0 5 "_law_put_told" ["term", "value"] (spPutTold K))
    (D16 : Def P w K mg base (L2.CX P w) 6 "show" ["term", "names"] (spShow K PT (cl 5))) (D17 : Def P w K mg base CX0 2 "_law_shown" ["pick", "deep"] spLShown15) : FnOk P w K mg base (L2.CX P w) 30 f fd ["script"] (spLaw K PT) := by
  obtain ⟨f1, fd1, g_law_stream, kp_law_stream, b_law_stream, G_law_stream⟩ := D1
  obtain ⟨f2, fd2, g_law_draw, kp_law_draw, b_law_draw, G_law_draw⟩ := D2
  obtain ⟨f3, fd3, g_law_deep, kp_law_deep, b_law_deep, G_law_deep⟩ := D3
  obtain ⟨f4, fd4, g_is_term, kp_is_term, b_is_term, G_is_term⟩ := D4
  obtain ⟨f5, fd5, g_law_places, kp_law_places, b_law_places, G_law_places⟩ := D5
  obtain ⟨f6, fd6, g_places, kp_places, b_places, G_places⟩ := D6
  obtain ⟨f7, fd7, g_part, kp_part, b_part, G_part⟩ := D7
  obtain ⟨f8, fd8, g_comes_before, kp_comes_before, b_comes_before, G_comes_before⟩ := D8
  obtain ⟨f9, fd9, g_replace, kp_replace, b_replace, G_replace⟩ := D9
  obtain ⟨f10, fd10, g_law_depths, kp_law_depths, b_law_depths, G_law_depths⟩ := D10
  obtain ⟨f11, fd11, g_free, kp_free, b_free, G_free⟩ := D11
  obtain ⟨f12, fd12, g_lift, kp_lift, b_lift, G_lift⟩ := D12
  obtain ⟨f13, fd13, g_law_lift, kp_law_lift, b_law_lift, G_law_lift⟩ := D13
  obtain ⟨f14, fd14, g_law_put, kp_law_put, b_law_put, G_law_put⟩ := D14
  obtain ⟨f15, fd15, g_law_put_told, kp_law_put_told, b_law_put_told, G_law_put_told⟩ := D15
  obtain ⟨f16, fd16, g_show, kp_show, b_show, G_show⟩ := D16
  obtain ⟨f17, fd17, g_law_shown, kp_law_shown, b_law_shown, G_law_shown⟩ := D17
  refine F.okX sc_law (fun vs H Q E h => ?_) (fun cdv A outer s H vs Q E hr h => ?_)
  · obtain ⟨a, ns, rfl, _⟩ := h
    rfl
  · obtain ⟨a, ns, rfl, hS, hlen, tab, q⟩ := h
    refine ⟨_, (pss_cons (ps_set (i := 1) sc_law.nd rfl (.inl rfl) (pe_call G_law_stream (hr.mono (by first | decide | omega)) (by rfl) g_law_stream kp_law_stream b_law_stream .nil pass0 (pa_cons (pv 0) pa_nil))) (pss_cons (ps_set (i := 2) sc_law.nd rfl (.inl rfl) (pe_call G_law_draw (hr.mono (by first | decide | omega)) (by rfl) g_law_draw kp_law_draw b_law_draw .nil pass0 (pa_cons (pv 1) (pa_cons pe_int pa_nil)))) (pss_cons (ps_set (i := 3) sc_law.nd rfl (.inl rfl) (pe_op op_sub pe_int (pe_op op_mul (pe_call G_law_draw (hr.mono (by first | decide | omega)) (by rfl) g_law_draw kp_law_draw b_law_draw .nil pass0 (pa_cons (pv 1) (pa_cons pe_int pa_nil))) (pe_callTy call_int1 (by rfl) T.n_int (by decide +kernel) (pa_cons (pe_cmpR op_gt (pe_call G_law_draw (hr.mono (by first | decide | omega)) (by rfl) g_law_draw kp_law_draw b_law_draw .nil pass0 (pa_cons (pv 1) (pa_cons pe_int pa_nil))) pe_int (nomark _)) pa_nil))))) (pss_cut (ps_if (pt_cmpR op_eq (pe_call G_law_draw (hr.mono (by first | decide | omega)) (by rfl) g_law_draw kp_law_draw b_law_draw .nil pass0 (pa_cons (pv 1) (pa_cons pe_int pa_nil))) pe_int (nomark _)) (pss_one (ps_set (i := 3) sc_law.nd rfl (.inl rfl) (pe_call G_law_draw (hr.mono (by first | decide | omega)) (by rfl) g_law_draw kp_law_draw b_law_draw .nil pass0 (pa_cons (pv 1) (pa_cons pe_int pa_nil))))) pss_nil) (pss_cons (ps_asg (pe_call G_law_deep (hr.mono (by first | decide | omega)) (by rfl) g_law_deep kp_law_deep b_law_deep .nil pass0 (pa_cons (pv 2) (pa_cons (pv 3) pa_nil))) (pg_tup (by rfl) (pgs_cons (pg_name (i := 4) sc_law.nd rfl (.inl rfl)) (pgs_cons (pg_name (i := 5) sc_law.nd rfl (.inl rfl)) pgs_nil)))) (pss_cons (ps_if (PW.pt (pw_or (pt_cmpR op_notBl (pe_call G_is_term (hr.mono (by first | decide | omega)) (by rfl) g_is_term kp_is_term b_is_term .nil pass0 (pa_cons (pv 4) pa_nil)) pe_bl (nomark _)) (pw_or (pt_cmpR op_notBl (pe_call G_is_term (hr.mono (by first | decide | omega)) (by rfl) g_is_term kp_is_term b_is_term .nil pass0 (pa_cons (pe_slice sl_tupA (pv 4) po_none (po_some (pe_un un_neg pe_int))) pa_nil)) pe_bl (nomark _)) (pw_or1 (pt_cmpR op_notBl (pe_call G_is_term (hr.mono (by first | decide | omega)) (by rfl) g_is_term kp_is_term b_is_term .nil pass0 (pa_cons (pe_op op_catA (pv 4) (pe_tup (pa_cons pe_int pa_nil))) pa_nil)) pe_bl (nomark _)))))) (pss_one (ps_ret pe_bl)) pss_nil) (pss_cons (ps_set (i := 6) sc_law.nd rfl (.inl rfl) (pe_call G_law_places (hr.mono (by first | decide | omega)) (by rfl) g_law_places kp_law_places b_law_places .nil pass0 (pa_cons (pv 4) pa_nil))) (pss_cons (ps_set (i := 7) sc_law.nd rfl (.inl rfl) (pe_bm PySem.F.plainAttrs_list PySem.F.slot_list_index PySem.F.type_list_index mt_index (pv 6) (pa_cons (pv 5) pa_nil))) (pss_cons (ps_if (PW.pt (pw_or (pt_cmpR (op_neD hr.units) (pe_call G_places (hr.mono (by first | decide | omega)) (by rfl) g_places kp_places b_places .nil pass0 (pa_cons (pv 4) pa_nil)) (pv 6) (nomark _)) (pw_or1 (pt_cmpR (op_neD hr.units) (pe_call G_part (hr.mono (by first | decide | omega)) (by rfl) g_part kp_part b_part .nil (passes_call (takes_of rfl rfl rfl rfl) (fun _ _ _ _ h => h)) (pa_cons (pv 4) (pa_cons (pv 5) pa_nil))) (pe_slice sl_tupA (pv 4) (po_some (pv 7)) (po_some (pe_op op_add (pv 7) pe_int))) (nomark _))))) (pss_one (ps_ret pe_bl)) pss_nil) (pss_cons (ps_if (PW.pt (pw_and (pt_cmpR op_ne (pv 5) pe_str (nomark _)) (pw_and1 (PW.pt (pw_or (pt_cmpR op_notBl (pe_call G_comes_before (hr.mono (by first | decide | omega)) (by rfl) g_comes_before kp_comes_before b_comes_before .nil pass0 (pa_cons pe_str (pa_cons (pv 5) pa_nil))) pe_bl (nomark _)) (pw_or1 (pt_cmpR op_notBl (pe_call G_comes_before (hr.mono (by first | decide | omega)) (by rfl) g_comes_before kp_comes_before b_comes_before .nil pass0 (pa_cons (pv 5) (pa_cons pe_str pa_nil))) pe_bl (nomark _)))))))) (pss_one (ps_ret pe_bl)) pss_nil) (pss_cons (ps_if (PW.pt (pw_or (pt_cmpR (op_neD hr.units) (pe_call G_replace (hr.mono (by first | decide | omega)) (by rfl) g_replace kp_replace b_replace .nil (passes_call (takes_of rfl rfl rfl rfl) (fun _ _ _ _ h => h)) (pa_cons (pv 4) (pa_cons (pv 5) (pa_cons (pe_tup (pa_cons pe_int pa_nil)) pa_nil)))) (pe_op op_catA (pe_op op_catA (pe_slice sl_tupA (pv 4) po_none (po_some (pv 7))) (pe_tup (pa_cons pe_int pa_nil))) (pe_slice sl_tupA (pv 4) (po_some (pe_op op_add (pv 7) pe_int)) po_none)) (nomark _)) (pw_or1 (pt_cmpR (op_neD hr.units) (pe_call G_part (hr.mono (by first | decide | omega)) (by rfl) g_part kp_part b_part .nil (passes_call (takes_of rfl rfl rfl rfl) (fun _ _ _ _ h => h)) (pa_cons (pv 4) (pa_cons pe_str pa_nil))) (pv 4) (nomark _))))) (pss_one (ps_ret pe_bl)) pss_nil) (pss_cons (ps_set (i := 8) sc_law.nd rfl (.inl rfl) (pe_call G_law_depths (hr.mono (by first | decide | omega)) (by rfl) g_law_depths kp_law_depths b_law_depths .nil pass0 (pa_cons (pv 4) pa_nil))) (pss_cons (ps_set (i := 9) sc_law.nd rfl (.inl rfl) (pe_lst pa_nil)) (pss_cons (ps_for (passes_of rfl) rfl (pi_range1 (by rfl) T.n_range (pa_cons (pe_callB call_len_seq (by rfl) T.n_len (by decide +kernel) (pa_cons (pv 4) pa_nil)) pa_nil)) (pg_name (i := 10) sc_law.nd rfl (.inl rfl)) (pss_one (ps_if (PW.pt (pw_and (pt_val (pe_callB call_isi (by rfl) T.n_isinstance (by decide +kernel) (pa_cons (pe_ix ix_tup (pv 4) (pv 10) (fun _ _ => rfl)) (pa_cons (pe_bltn (v := .ty "int") (by rfl) T.n_int (by decide +kernel) rfl) pa_nil)))) (pw_and (pt_cmpR op_ge (pe_ix ix_tup (pv 4) (pv 10) (fun _ _ => rfl)) (pe_ix ix_list (pv 8) (pv 10) (fun _ _ => rfl)) (nomark _)) (pw_and1 (pt_cmpR op_notIn_seq (pe_op op_sub (pe_ix ix_tup (pv 4) (pv 10) (fun _ _ => rfl)) (pe_ix ix_list (pv 8) (pv 10) (fun _ _ => rfl))) (pv 9) (by rfl)))))) (pss_one (ps_expr (pe_bm PySem.F.plainAttrs_list PySem.F.slot_list_append PySem.F.type_list_append mt_append (pv 9) (pa_cons (pe_op op_sub (pe_ix ix_tup (pv 4) (pv 10) (fun _ _ => rfl)) (pe_ix ix_list (pv 8) (pv 10) (fun _ _ => rfl))) pa_nil)))) pss_nil))) (pss_cons (ps_if (PW.pt (pw_or (pt_cmpR (op_neD hr.units) (pe_call G_free (hr.mono (by first | decide | omega)) (by rfl) g_free kp_free b_free .nil pass0 (pa_cons (pv 4) pa_nil)) (pe_callB cr_sortedI (by rfl) T.n_sorted (by decide +kernel) (pa_cons (pv 9) pa_nil)) (nomark _)) (pw_or1 (pt_cmpR (op_neD hr.units) (pe_call G_lift (hr.mono (by first | decide | omega)) (by rfl) g_lift kp_lift b_lift .nil (passes_call (takes_of rfl rfl rfl rfl) (fun _ _ _ _ h => h)) (pa_cons (pv 4) (pa_cons pe_int pa_nil))) (pe_call G_law_lift (hr.mono (by first | decide | omega)) (by rfl) g_law_lift kp_law_lift b_law_lift .nil pass0 (pa_cons (pv 4) (pa_cons pe_int pa_nil))) (nomark _))))) (pss_one (ps_ret pe_bl)) pss_nil) (pss_cons (ps_set (i := 11) sc_law.nd rfl (.inl rfl) (pe_call G_law_put (hr.mono (by first | decide | omega)) (by rfl) g_law_put kp_law_put b_law_put .nil pass0 (pa_cons (pv 4) (pa_cons (pe_tup (pa_cons pe_int pa_nil)) pa_nil)))) (pss_cons (ps_if (PW.pt (pw_or (pt_cmpR (op_neD hr.units) (pe_call G_law_put_told (hr.mono (by first | decide | omega)) (by rfl) g_law_put_told kp_law_put_told b_law_put_told .nil pass0 (pa_cons (pv 4) (pa_cons (pe_tup (pa_cons pe_int pa_nil)) pa_nil))) (pv 11) (nomark _)) (pw_or1 (PW.pt (pw_and (pt_cmpR op_notN (pe_call G_law_put_told (hr.mono (by first | decide | omega)) (by rfl) g_law_put_told kp_law_put_told b_law_put_told .nil pass0 (pa_cons (pe_tup (pa_cons pe_str (pa_cons pe_int (pa_cons pe_int pa_nil)))) (pa_cons (pv 4) pa_nil))) pe_non (nomark _)) (pw_and1 (pt_cmpR op_gt (pe_callB call_len_seq (by rfl) T.n_len (by decide +kernel) (pa_cons (pv 4) pa_nil)) pe_int (nomark _)))))))) (pss_one (ps_ret pe_bl)) pss_nil) (pss_one (ps_ret (pe_cmpR op_eq (pe_call G_show (hr.mono (by first | decide | omega)) (by rfl) g_show kp_show b_show .nil (passes_call (takes_of rfl rfl rfl rfl) (fun _ _ _ _ h => h)) (pa_cons (pv 4) (pa_cons (pe_lst (pa_cons pe_str (pa_cons pe_str pa_nil))) pa_nil))) (pe_call G_law_shown (hr.mono (by first | decide | omega)) (by rfl) g_law_shown kp_law_shown b_law_shown .nil pass0 (pa_cons (pv 2) (pa_cons (pv 3) pa_nil))) (nomark _))))))))))))))))))))), ?_⟩
    refine sl_of (σ2 := [some _, none, none, none, none, none, none, none, none, none, none, none]) rfl ?_
    walk_at "st"
    walk_at "go"
    refine ⟨a, ns, rfl, hS, hlen, fun H1 s1 l e1 hs1 st1 => ?_⟩
    have tab1 := tab_ex tab e1
    generalize (⟨l, ns, 0, 0, mixOf ns⟩ : Stm) = m1 at *
    clear hs1 e1 hS tab
    walk_at "go"
    refine ⟨s1, m1, 4, rfl, st1, by decide, by decide, fun H2 fr2 st2 => ?_⟩
    have v2 := m1.val_lt (n := 4) (by decide)
    have tab2 := tab_fr tab1 fr2 st1.2.1
    generalize m1.val 4 = n2 at *
    generalize m1.next 4 = m2 at *
    obtain ⟨p, rfl⟩ : ∃ k : Nat, n2 = (k : Int) := ⟨n2.toNat, (Int.toNat_of_nonneg v2.1).symm⟩
    clear fr2 st1 tab1
    walk_at "go"
    refine ⟨s1, m2, 199, rfl, st2, by decide, by decide, fun H3 fr3 st3 => ?_⟩
    have v3 := m2.val_lt (n := 199) (by decide)
    have tab3 := tab_fr tab2 fr3 st2.2.1
    generalize m2.val 199 = n3' at *
    generalize m2.next 199 = m3 at *
    obtain ⟨d1, rfl⟩ : ∃ k : Nat, n3' = (k : Int) := ⟨n3'.toNat, (Int.toNat_of_nonneg v3.1).symm⟩
    clear fr3 st2 tab2
    walk_at "go"
    refine ⟨s1, m3, 3, rfl, st3, by decide, by decide, fun H4 fr4 st4 => ?_⟩
    have v4 := m3.val_lt (n := 3) (by decide)
    have tab4 := tab_fr tab3 fr4 st3.2.1
    generalize m3.val 3 = n4 at *
    generalize m3.next 3 = m4 at *
    clear fr4 st3 tab3
    walk_at "go"
    refine w_cut (M := fun σ' H' => ∃ (n : Nat), σ' = [some (.ref a), some (.ref s1), some (.int (p : Int)), some (.int (n : Int)), none, none, none, none, none, none, none, none] ∧ n ≤ 498 ∧ GxR.TabG H' PT) ?_ ?_
    · walk_at "go"
      refine ⟨s1, m4, 3, rfl, st4, by decide, by decide, fun H5 fr5 st5 => ?_⟩
      have tab5 := tab_fr tab4 fr5 st4.2.1
      generalize m4.val 3 = n5 at *
      generalize m4.next 3 = m5 at *
      clear fr5 st4 tab4
      walk_at "go"
      refine w_brI (fun c1 => ?_) (fun c1 => ?_)
      · walk_at "go"
        refine ⟨s1, m5, 300, rfl, st5, by decide, by decide, fun H6 fr6 st6 => ?_⟩
        have v6 := m5.val_lt (n := 300) (by decide)
        have tab6 := tab_fr tab5 fr6 st5.2.1
        generalize m5.val 300 = n6 at *
        obtain ⟨n, rfl⟩ : ∃ k : Nat, n6 = (k : Int) := ⟨n6.toNat, (Int.toNat_of_nonneg v6.1).symm⟩
        walk_at "go"
        exact ⟨n, rfl, by omega, tab6⟩
      · walk_at "go"
        have hd : ∃ n : Nat, (498 - (d1 : Int) * if decide (0 < n4) = true then 1 else 0) = (n : Int) ∧ n ≤ 498 := by
          split
          · exact ⟨498 - d1, by omega, by omega⟩
          · exact ⟨498, by omega, by omega⟩
        obtain ⟨n, e, hn⟩ := hd
        walk_at "go"
        rw [e]
        exact ⟨n, rfl, hn, tab5⟩
    rintro σ' H5 ⟨n, rfl, hn, tab5⟩
    clear st4 tab4
    walk_at "go"
    refine ⟨p, n, rfl, by omega, hn, fun H6 pq pt e6 hq6 ht6 => ?_⟩
    have tab6 := tab_ex tab5 e6
    have twf := dp_wf p n
    have tln := dp_len (p := p) hn
    obtain ⟨i, v, hsub⟩ := dp_sub p n
    have tlm := dp_lams (p := p) (n := n)
    have tsh := fun bs h => dp_shw (bs := bs) (p := p) (n := n) h
    generalize dpT p n = t at *
    generalize dpP p n = r at *
    have tv : t.vars 1000000 := Tm.vars_mono (by omega) (Tm.vars_wf twf)
    have hT : isTermV t.enc = true := by rw [isTermV, scan_tm tv, decide_eq_true (by omega)]; rfl
    clear e6 tab5
    walk_at "go"
    refine ⟨_, rfl, .inl ⟨pt, t.enc, rfl, ht6.t, by omega, t.nds.flat.kd _, fun H7 e7 => ?_⟩⟩
    have tab7 := tab_ex tab6 e7
    have ht7 := ht6.ex e7
    rw [← isV_W, hT]
    clear hq6 tab6 ht6 e7
    walk_at "go"
    refine fun p1 H8 e8 h8 => ?_
    have tab8 := tab_ex tab7 e8
    have ht8 := ht7.ex e8
    rw [cut_last] at h8
    clear ht7 tab7 e8
    walk_at "go"
    refine ⟨_, rfl, .inl ⟨p1, t.enc.dropLast, rfl, h8, by rw [List.length_dropLast]; omega, (nds_of t.nds fun x hx => (List.dropLast_sublist _).mem hx).flat.kd _, fun H9 e9 => ?_⟩⟩
    have tab9 := tab_ex tab8 e9
    have ht9 := ht8.ex e9
    rw [← isV_W, no_less tv]
    clear ht8 tab8 e9 h8
    walk_at "go"
    intro p2 hp2
    have e10 := Ex.new hp2 (o := .tup [V.int 0])
    have h10 : SqT K (upd H9 p2 (.tup [V.int 0])) p2 [V.int 0] := SqT.of upd_same
    have tab10 := tab_ex tab9 e10
    have ht10 := ht9.ex e10
    have ht10t : SqT K _ pt t.enc := ht10.t
    generalize upd H9 p2 (.tup [V.int 0]) = H10 at *
    clear ht9 tab9 e10
    walk_at "go"
    refine fun p3 H11 e11 h11 => ?_
    have tab11 := tab_ex tab10 e11
    have ht11 := ht10.ex e11
    have h11 : SqT K H11 p3 (t.enc ++ [V.int 0]) := h11
    clear ht10 ht10t tab10 e11 h10 hp2
    walk_at "go"
    refine ⟨_, rfl, .inl ⟨p3, t.enc ++ [V.int 0], rfl, h11, by simp; omega, (nds_app t.nds (nds_i 0)).flat.kd _, fun H12 e12 => ?_⟩⟩
    have tab12 := tab_ex tab11 e12
    have ht12 := ht11.ex e12
    rw [← isV_W, no_more tv]
    clear ht11 tab11 e12 h11
    walk_at "go"
    refine ⟨pt, t, rfl, ht12.t, by omega, fun H13 fl e13 hfln hfl => ?_⟩
    have tab13 := tab_ex tab12 e13
    have ht13 := ht12.ex e13
    clear ht12 tab12 e13 hfln
    have pln := t.pls_len []
    have ord := t.pls_order []
    obtain ⟨⟨post, hdr⟩, hix⟩ := Tm.sub_at t r [] hsub
    rw [List.nil_append] at hix
    have small : r.length ≤ 80000 := by
      obtain ⟨s, e, hl⟩ := t.pls_pre (List.mem_of_getElem? hix)
      rw [e]
      simp
      omega
    have hsm := t.pls_small0
    generalize eqs : t.pls [] = qs at *
    walk_at "go"
    refine w_indexS hfl ord hix ?_
    walk_at "go"
    refine ⟨pt, t, rfl, ht13.t, by omega, fun H14 fl2 e14 hfln hfl2 => ?_⟩
    rw [eqs] at hfl2
    have tab14 := tab_ex tab13 e14
    have ht14 := ht13.ex e14
    have hfl14 := e14 _ _ hfl
    clear ht13 tab13 e14 hfln hfl
    walk_at "go"
    refine w_neP hfl2 hfl14 hsm ?_
    clear hfl2 hfl14
    have hvl : (Tm.var v).enc.length = 1 := rfl
    have hcm := cut_mid (u := .var v) hdr
    have ilt : i < t.enc.length := by
      have := (List.getElem?_eq_some_iff.mp hix).1
      omega
    walk_at "go"
    refine ⟨pt, t, r, rfl, ht14.t, by omega, by omega, fun hno => ?_, fun i2 u2 hs2 => ?_⟩
    · rw [hsub] at hno
      cases hno
    obtain ⟨rfl, rfl⟩ : i2 = i ∧ u2 = Tm.var v := by
      rw [hsub] at hs2
      cases hs2
      exact ⟨rfl, rfl⟩
    have hvm : v ≤ 1000000 := vars_mem15 tv (List.mem_of_mem_drop (i := i2) (by rw [hdr]; simp [Tm.enc]))
    refine ⟨fits_of (t := .var v) hvm (by show 1 ≤ 1000; decide), fun p4 H15 e15 hp4 => ?_⟩
    have tab15 := tab_ex tab14 e15
    have ht15 := ht14.ex e15
    have ht15t : SqT K _ pt t.enc := ht15.t
    clear ht14 tab14 e15
    walk_at "go"
    refine fun p5 H16 e16 h16 => ?_
    have hcm' : cutV t.enc (some (i2 : Int)) (some ((i2 : Int) + 1)) = (Tm.var v).enc := hcm
    rw [hcm'] at h16
    have tab16 := tab_ex tab15 e16
    have ht16 := ht15.ex e16
    refine w_neN (ex_t e16 hp4) h16 (Tm.nds _) (Tm.nds _) ?_
    rw [decide_eq_true rfl]
    clear ht15t ht15 tab15 e16 hp4 h16
    have hem : ("" : Str) = pl [] := by decide +kernel
    walk_at "go"
    have pr16 : GxR.TabG H16 PT ∧ SqX H16 pt t.enc := ⟨tab16, ht16⟩
    clear tab16 ht16
    revert H16
    refine w_two (Pr := fun H' => GxR.TabG H' PT ∧ SqX H' pt t.enc) ?_ ?_
    · rintro H17 ⟨tab17, ht17⟩
      walk_at "go"
      intro p6 hp6
      have e18 := Ex.new hp6 (o := .tup [V.int 7])
      have h6 : SqT K (upd H17 p6 (.tup [V.int 7])) p6 (Tm.var 7).enc := SqT.of upd_same
      have tab18 := tab_ex tab17 e18
      have ht18 := ht17.ex e18
      generalize upd H17 p6 (.tup [V.int 7]) = H18 at *
      clear e18 hp6 ht17 tab17
      walk_at "go"
      refine ⟨pt, p6, t, .var 7, r, rfl, ht18.t, h6, by omega, by show 1 ≤ 10000; decide, by omega, fun hno => ?_, fun i3 u3 hs3 => ?_⟩
      · rw [hsub] at hno
        cases hno
      obtain ⟨rfl, rfl⟩ : i3 = i2 ∧ u3 = Tm.var v := by
        rw [hsub] at hs3
        cases hs3
        exact ⟨rfl, rfl⟩
      have dfit : fitsV (dueV t (.var 7) i3 (.var v)) = true := by
        rw [due_ok15 (v := .var 7) tv (show 7 ≤ 1000000 by decide)]
        refine decide_eq_true ?_
        simp only [dueV, List.length_append, List.length_take, List.length_drop]
        show _ + 1 + _ ≤ 1000
        omega
      refine ⟨fun _ p7 H19 e19 h7 => ?_, fun hf => by rw [dfit] at hf; cases hf⟩
      have tab19 := tab_ex tab18 e19
      have ht19 := ht18.ex e19
      have ht19t : SqT K _ pt t.enc := ht19.t
      clear e19 h6 ht18 tab18
      walk_at "go"
      refine fun p8 H20 e20 h8 => ?_
      rw [cut_lo] at h8
      have tab20 := tab_ex tab19 e20
      have ht20 := ht19.ex e20
      have h7b := ex_t e20 h7
      clear ht19t ht19 tab19 e20 h7
      walk_at "go"
      intro p9 hp9
      have e21 := Ex.new hp9 (o := .tup [V.int 7])
      have h9 : SqT K (upd H20 p9 (.tup [V.int 7])) p9 [V.int 7] := SqT.of upd_same
      have tab21 := tab_ex tab20 e21
      have ht21 := ht20.ex e21
      have h7c := ex_t e21 h7b
      have h8b := ex_t e21 h8
      generalize upd H20 p9 (.tup [V.int 7]) = H21 at *
      clear e21 hp9 ht20 tab20 h7b h8
      have tl : (t.enc.take i3).length ≤ 997 := by rw [List.length_take]; omega
      refine w_catA h8b h9 (ly_sz (by rw [List.length_singleton]; omega)) fun p10 H22 e22 h10 => ?_
      have tab22 := tab_ex tab21 e22
      have ht22 := ht21.ex e22
      have h7d := ex_t e22 h7c
      have ht22t : SqT K _ pt t.enc := ht22.t
      clear ht21 tab21 h7c h8b h9
      walk_at "go"
      refine fun p11 H23 e23 h11 => ?_
      have hch : cutV t.enc (some ((i3 : Int) + 1)) none = t.enc.drop (i3 + (Tm.var v).enc.length) := cut_hi t.enc (i3 + 1)
      rw [hch] at h11
      have tab23 := tab_ex tab22 e23
      have ht23 := ht22.ex e23
      have h7e := ex_t e23 h7d
      have h10b := ex_t e23 h10
      have dl2 : (t.enc.drop (i3 + (Tm.var v).enc.length)).length ≤ 997 := by rw [List.length_drop]; omega
      clear ht22t ht22 tab22 h7d h10
      refine w_catA h10b h11 (ly_sz (by rw [List.length_append, List.length_singleton]; omega)) fun p12 H24 e24 h12 => ?_
      have tab24 := tab_ex tab23 e24
      have ht24 := ht23.ex e24
      have h7f := ex_t e24 h7e
      have h12 : SqT K H24 p12 (dueV t (.var 7) i3 (.var v)) := h12
      refine w_neN h7f h12 (dueV_nds _ _ _ _) (dueV_nds _ _ _ _) ?_
      rw [decide_eq_true rfl]
      clear ht23 tab23 h7e h7f h12 h10b h11 e22 e23 e24
      walk_at "go"
      rw [hem]
      refine ⟨pt, t, [], rfl, ht24.t, by omega, by simp, fun hno => ?_, fun i4 u4 hs4 => ?_⟩
      · cases t <;> cases hno
      obtain rfl : t = u4 := by
        cases t <;> (cases hs4; rfl)
      refine ⟨fits_of tv (by omega), fun p13 H25 e25 h13 => ?_⟩
      have tab25 := tab_ex tab24 e25
      have ht25 := ht24.ex e25
      have ht25t : SqT K _ pt t.enc := ht25.t
      clear e25 ht24 tab24
      walk_at "go"
      refine ⟨pt, t, rfl, ht25t, by omega, fun H26 dl' e26 hdl hdn => ?_⟩
      have tab26 := tab_ex tab25 e26
      have ht26 := ht25.ex e26
      clear ht25t ht25 tab25 e26 h13
      walk_at "go"
      intro ul hul
      have hud : ul ≠ dl' := (ne_of_none hdn hul).symm
      have hpl : t.enc.length = (t.deps 0).length := by rw [t.deps_len 0]
      have e27 := Ex.new hul (o := .lst (List.map V.int []))
      have hu27 : upd H26 ul (.lst (List.map V.int [])) ul = some (.lst (List.map V.int [])) := upd_same
      have hd27 := e27 _ _ hdn
      have tab27 := tab_ex tab26 e27
      have ht27 := ht26.ex e27
      rw [show (HO.lst ([] : List V)) = .lst (List.map V.int []) from rfl]
      generalize upd H26 ul (.lst (List.map V.int [])) = H27 at *
      clear e27 ht26 tab26 hdl hdn hul
      have ht27t : SqT K _ pt t.enc := ht27.t
      walk_at "go"
      refine for_range (lo := 0) (n := (t.enc.length : Int).toNat) (fun i σ H' => ∃ y ms, σ = [some (.ref a), some (.ref s1), some (.int (p : Int)), some (.int (n : Int)), some (.ref pt), some (.str (pl r)), some (.ref fl), some (.int (i3 : Int)), some (.ref dl'), some (.ref ul), y, none] ∧ GxR.TabG H' PT ∧ SqX H' pt t.enc ∧ H' dl' = some (.lst (nums (t.deps 0))) ∧ H' ul = some (.lst (List.map V.int ms)) ∧ ms.Nodup ∧ ms.length ≤ i ∧
          ∀ j, j ∈ ms ↔ j ∈ ((List.zipWith frv t.enc (t.deps 0)).take i).flatten) ⟨_, [], rfl, tab27, ht27, hd27, hu27, List.nodup_nil, Nat.le_refl _, by simp⟩ ?_ ?_
      · rintro i σ H7 hi ⟨y, ms, rfl, tab7, ht7, hd7, hu7, hnod, hml, hmem⟩
        have hil : i < t.enc.length := by omega
        obtain ⟨x, hx⟩ : ∃ x, t.enc[i]? = some x := ⟨_, List.getElem?_eq_getElem hil⟩
        obtain ⟨d, hd⟩ : ∃ d, (t.deps 0)[i]? = some d := ⟨_, List.getElem?_eq_getElem (by omega)⟩
        have hdn : (nums (t.deps 0))[i]? = some (.int (d : Int)) := by rw [List.getElem?_map, hd]; rfl
        have hp7 : SqT K H7 pt t.enc := ht7.t
        have tk1 := zip_take (f := frv) hx hd
        have skip : frv x d = [] → ∀ j, j ∈ ms ↔ j ∈ ((List.zipWith frv t.enc (t.deps 0)).take (i + 1)).flatten := fun e j => by
          rw [tk1, List.flatten_append, hmem j, e]
          simp
        have lm : (List.map V.int ms).length = ms.length := List.length_map _
        walk_at "go"
        rcases Tm.int_nat (List.mem_of_getElem? hx) with ⟨m, rfl⟩ | rfl | rfl
        · walk_at "go"
          refine w_br (fun h3 => ?_) (fun h3 => ?_)
          · have e1 : frv (.int m) d = [(m : Int) - d] := by simp [frv]; omega
            have more : ∀ j, j ∈ ((List.zipWith frv t.enc (t.deps 0)).take (i + 1)).flatten ↔ j ∈ ms ∨ j = (m : Int) - d := fun j => by
              rw [tk1, List.flatten_append, List.mem_append, ← hmem j, e1]
              simp
            walk_at "go"
            refine w_brM (fun h4 => ?_) (fun h4 => ?_)
            · walk_at "go"
              refine ⟨_, ms ++ [(m : Int) - d], rfl, tab_up tab7 hu7, sqx_mut ht7 hu7, by rw [upd_ne hud.symm]; exact hd7, by rw [upd_same]; simp, ?_, by simp; omega, fun j => ?_⟩
              · rw [List.nodup_append]
                refine ⟨hnod, by simp, fun a ha b hb => ?_⟩
                rw [List.mem_singleton.mp hb]
                exact fun e => h4 (by rw [← e]; exact ha)
              · rw [more j, List.mem_append, List.mem_singleton]
            · walk_at "go"
              refine ⟨_, ms, rfl, tab7, ht7, hd7, hu7, hnod, by omega, fun j => ?_⟩
              rw [more j]
              constructor
              · exact Or.inl
              · rintro (h | h)
                · exact h
                · rw [h]
                  exact h4
          · walk_at "go"
            exact ⟨_, ms, rfl, tab7, ht7, hd7, hu7, hnod, by omega, skip (by simp [frv]; omega)⟩
        · walk_at "go"
          exact ⟨_, ms, rfl, tab7, ht7, hd7, hu7, hnod, by omega, skip rfl⟩
        · walk_at "go"
          exact ⟨_, ms, rfl, tab7, ht7, hd7, hu7, hnod, by omega, skip rfl⟩
      · rintro σ H28 ⟨y, ms, rfl, tab28, ht28, hd28, hu28, hnod, hml, hmem⟩
        have all : (List.zipWith frv t.enc (t.deps 0)).take (t.enc.length : Int).toNat = List.zipWith frv t.enc (t.deps 0) := List.take_of_length_le (by simp; omega)
        rw [all] at hmem
        clear ht27t ht27 tab27 hd27 hu27 all
        have ht28t : SqT K _ pt t.enc := ht28.t
        walk_at "go"
        refine ⟨pt, t, 2, rfl, ht28t, by omega, by decide, twf, fun H29 al ks e29 hal hak hasc => ?_⟩
        have hau : al ≠ ul := (ne_of_none hu28 hal).symm
        have hu29 := e29 _ _ hu28
        have tab29 := tab_ex tab28 e29
        have ht29 := ht28.ex e29
        clear e29 ht28t ht28 tab28
        walk_at "go"
        intro ns2 l2 hperm hsort2 hl2n
        have es : ns2 = ks := by
          refine sorted_one (le_lt hsort2 (hperm.symm.nodup hnod)) hasc.1 fun j => ?_
          rw [hperm.mem_iff, hmem j, hasc.2 j]
          exact Tm.frs_fr t 0 j
        rw [es]
        have e30 := Ex.new hl2n (o := .lst (List.map V.int ks))
        have hal30 := e30 _ _ hak
        have tab30 := tab_ex tab29 e30
        have ht30 := ht29.ex e30
        have hnk : Nds (List.map V.int ks) := fun x hx => by
          obtain ⟨i, _, e⟩ := List.mem_map.mp hx
          exact .inl ⟨i, e.symm⟩
        refine w_neL (SqL.of hal30) (SqL.of upd_same) hnk hnk ?_
        rw [decide_eq_true rfl]
        generalize upd H29 l2 (.lst (List.map V.int ks)) = H30 at *
        clear e30 hal30 tab29 ht29 hu29 hu28 hd28 hmem hperm hasc hak hal hl2n hau
        have tv9 : t.vars 999 := Tm.vars_mono (by omega) (Tm.vars_wf twf)
        have ll := t.vmap_len (lif 3) 0
        walk_at "go"
        refine ⟨pt, t, 3, rfl, ht30.t, by omega, fun _ p14 H31 e31 h14 => ?_, fun hf => ?_⟩
        case refine_2 =>
          rw [fits_of (Tm.vars_mono (by omega) (Tm.vars_lif tv9)) (by omega)] at hf
          cases hf
        have tab31 := tab_ex tab30 e31
        have ht31 := ht30.ex e31
        clear e31 ht30 tab30
        walk_at "go"
        refine ⟨pt, t, 3, rfl, ht31.t, by omega, fun H32 p15 e32 h15 => ?_⟩
        have tab32 := tab_ex tab31 e32
        have ht32 := ht31.ex e32
        refine w_neN (ex_t e32 h14) h15 (Tm.nds _) (Tm.nds _) ?_
        rw [decide_eq_true rfl]
        clear e32 ht31 tab31 h14 h15
        walk_at "go"
        intro p16 hp16
        have e33 := Ex.new hp16 (o := .tup [V.int 5])
        have h16 : SqT K (upd H32 p16 (.tup [V.int 5])) p16 (Tm.var 5).enc := SqT.of upd_same
        have tab33 := tab_ex tab32 e33
        have ht33 := ht32.ex e33
        generalize upd H32 p16 (.tup [V.int 5]) = H33 at *
        clear e33 hp16 ht32 tab32
        walk_at "go"
        refine ⟨pt, p16, t, .var 5, rfl, ht33.t, h16, by omega, by show 1 ≤ 2000; decide, fun H34 p17 e34 h17 => ?_⟩
        have tab34 := tab_ex tab33 e34
        have ht34 := ht33.ex e34
        clear e34 h16 ht33 tab33
        walk_at "go"
        intro p18 hp18
        have e35 := Ex.new hp18 (o := .tup [V.int 5])
        have h18 : SqT K (upd H34 p18 (.tup [V.int 5])) p18 (Tm.var 5).enc := SqT.of upd_same
        have tab35 := tab_ex tab34 e35
        have ht35 := ht34.ex e35
        have h17b := ex_t e35 h17
        generalize upd H34 p18 (.tup [V.int 5]) = H35 at *
        clear e35 hp18 ht34 tab34 h17
        walk_at "go"
        refine ⟨pt, p18, t, .var 5, rfl, ht35.t, h18, by omega, by show 1 ≤ 20000; decide, fun _ p19 H36 e36 h19 => ?_, fun hf => ?_⟩
        case refine_2 =>
          have pl5 := Tm.put_len (.var 5) t 0
          have one5 : (Tm.var 5).enc.length = 1 := rfl
          rw [one5] at pl5
          rw [fits_of (Tm.vars_mono (by omega) (Tm.vars_put (u := .var 5) (N := 5) (show 5 ≤ 5 by decide) tv9)) (by omega)] at hf
          cases hf
        have tab36 := tab_ex tab35 e36
        have ht36 := ht35.ex e36
        have h17c := ex_t e36 h17b
        clear e36 h18 ht35 tab35 h17b
        walk_at "go"
        clear h19 h17c
        intro p20 hp20
        have e37 := Ex.new hp20 (o := .tup [V.str "app", V.int 0, V.int 0])
        have h20 : SqT K (upd H36 p20 (.tup [V.str "app", V.int 0, V.int 0])) p20 (Tm.app (.var 0) (.var 0)).enc := SqT.of upd_same
        have tab37 := tab_ex tab36 e37
        have ht37 := ht36.ex e37
        generalize upd H36 p20 (.tup [V.str "app", V.int 0, V.int 0]) = H37 at *
        clear e37 hp20 ht36 tab36
        walk_at "go"
        refine ⟨p20, pt, .app (.var 0) (.var 0), t, rfl, h20, ht37.t, by show 3 ≤ 20000; decide, by omega, fun hf p21 H38 e38 h21 => ?_, fun _ H38 e38 => ?_⟩
        · have hle : t.enc.length ≤ 499 := by
            rw [put_two] at hf
            simp [fitsV, Tm.enc] at hf
            omega
          have tab38 := tab_ex tab37 e38
          have ht38 := ht37.ex e38
          have ht38t : SqT K _ pt t.enc := ht38.t
          clear e38 h20 h21 ht37 tab37
          walk_at "go"
          refine w_br (fun h9 => absurd h9 (by omega)) (fun h9 => ?_)
          walk_at "go"
          intro px hpx
          rw [show [V.str "x", V.str "y"] = plcs fxy by decide +kernel]
          have e39 := Ex.new hpx (o := .lst (plcs fxy))
          have ht39 := ht38.ex e39
          have tab39 := tab_ex tab38 e39
          have hx39 : upd H38 px (.lst (plcs fxy)) px = some (.lst (plcs fxy)) := upd_same
          generalize upd H38 px (.lst (plcs fxy)) = H39 at *
          clear e39 hpx ht38 tab38
          have nok : NmOk fxy := ⟨fun w hw => List.all_eq_true.mp (show fxy.all nmB = true by decide +kernel) w hw, by decide +kernel⟩
          walk_at "go"
          refine ⟨pt, px, t, fxy, rfl, ht39, by omega, hx39, by decide, by decide, tab39, fun h1 h2 H40 bs m tb40 hbs hbl hm => ?_, fun hno => absurd ⟨nok, okF_wf (m := fxy.length) (d := 0) (by show t.wf (0 + 2); rw [Nat.zero_add]; exact twf)⟩ hno⟩
          walk_at "go"
          refine ⟨p, n, rfl, by omega, hn, fun H41 e41 => ?_⟩
          have hx2 : fxy.length = 2 := rfl
          obtain ⟨rr, er⟩ := own_pre (fs := fxy) (m := m) (n := 1002) (by omega)
          have hol := own_len (fs := fxy) (n := 1002) (by decide)
          have es : shw bs fxy 0 t = dpS (own fxy 1002) p n := by
            rw [← tsh (own fxy 1002) (by omega), er, ← hbs]
            exact (shw_more t 0 (by omega)).symm
          rw [es]
          walk_at "go"
          rw [decide_eq_true rfl]
          exact q _
        · have tab38 := tab_ex tab37 e38
          have ht38 := ht37.ex e38
          clear e38 h20 ht37 tab37
          walk_at "go"
          intro px hpx
          rw [show [V.str "x", V.str "y"] = plcs fxy by decide +kernel]
          have e39 := Ex.new hpx (o := .lst (plcs fxy))
          have ht39 := ht38.ex e39
          have tab39 := tab_ex tab38 e39
          have hx39 : upd H38 px (.lst (plcs fxy)) px = some (.lst (plcs fxy)) := upd_same
          generalize upd H38 px (.lst (plcs fxy)) = H39 at *
          clear e39 hpx ht38 tab38
          have nok : NmOk fxy := ⟨fun w hw => List.all_eq_true.mp (show fxy.all nmB = true by decide +kernel) w hw, by decide +kernel⟩
          walk_at "go"
          refine ⟨pt, px, t, fxy, rfl, ht39, by omega, hx39, by decide, by decide, tab39, fun h1 h2 H40 bs m tb40 hbs hbl hm => ?_, fun hno => absurd ⟨nok, okF_wf (m := fxy.length) (d := 0) (by show t.wf (0 + 2); rw [Nat.zero_add]; exact twf)⟩ hno⟩
          walk_at "go"
          refine ⟨p, n, rfl, by omega, hn, fun H41 e41 => ?_⟩
          have hx2 : fxy.length = 2 := rfl
          obtain ⟨rr, er⟩ := own_pre (fs := fxy) (m := m) (n := 1002) (by omega)
          have hol := own_len (fs := fxy) (n := 1002) (by decide)
          have es : shw bs fxy 0 t = dpS (own fxy 1002) p n := by
            rw [← tsh (own fxy 1002) (by omega), er, ← hbs]
            exact (shw_more t 0 (by omega)).symm
          rw [es]
          walk_at "go"
          rw [decide_eq_true rfl]
          exact q _
    · rintro hc key H16 ⟨tab16, ht16⟩
      have hrn : r ≠ [] := fun e => by
        rw [e, hem] at hc
        simp at hc
      walk_at "go"
      rw [hem]
      refine ⟨[], r, rfl, by simp, by omega, fun H17 e17 => ?_⟩
      have b1 : before [] r = true := decide_eq_true (List.length_pos_iff.mpr hrn)
      rw [b1]
      walk_at "go"
      refine ⟨r, [], rfl, by omega, by simp, fun H18 e18 => ?_⟩
      have b2 : before r [] = false := by
        cases r with
        | nil => exact absurd rfl hrn
        | cons c r => rfl
      rw [b2]
      have kk := key H18 ⟨tab_ex tab16 (e17.trans e18), ht16.ex (e17.trans e18)⟩
      clear key
      refine w_c (w_notB ⟨_, rfl, ?_⟩)
      exact kk
end
end Ly
set_option Elab.async false
set_option linter.all false
set_option maxRecDepth 100000
set_option maxHeartbeats 8000000
namespace Ly
open PySem PySem.Spec PyProof.Rows L2 Evl

theorem all_mk {q : Program} {r0 : DefRec} {cT PT : Addr} {ocT : Value} {odT : Option Addr} {vsT : Array Value} {slT : Array (Option Value)} {l : PySem.W.OpenLaw} {w : World} {K : PySem.W.Frag} {h : Heap} {mg : Str → Option Value} {fa f1 f2 f3 f4 f5 f6 f7 f8 f9 f10 f11 f12 f13 f14 f15 f16 f17 f18 f19 f20 f21 f22 f23 f24 f25 f26 f27 f28 f29 f30 f31 f32 f33 f34 f35 f36 f37 f38 f39 f40 cc40 cc0 cc1 cc3 cc5 : Addr} (X : K.In h) (G : h.Ns mainGlobals mg) (hfa : mg "law" = some (.ref fa))
    {od1 an1 od2 an2 od3 an3 od4 an4 od5 an5 od6 an6 od7 an7 od8 an8 od9 an9 od10 an10 od11 an11 od12 an12 od13 an13 od14 an14 od15 an15 od16 an16 od17 an17 od18 an18 od19 an19 od20 an20 od21 an21 od22 an22 od23 an23 od24 an24 od25 an25 od26 an26 od27 an27 od28 an28 od29 an29 od30 an30 od31 an31 od32 an32 od33 an33 od34 an34 od35 an35 od36 an36 od37 an37 od38 an38 od39 an39 od40 an40 : Option Addr} {sl1 sl2 sl3 sl4 sl5 sl6 sl7 sl8 sl9 sl10 sl11 sl12 sl13 sl14 sl15 sl16 sl17 sl18 sl19 sl20 sl21 sl22 sl23 sl24 sl25 sl26 sl27 sl28 sl29 sl30 sl31 sl32 sl33 sl34 sl35 sl36 sl37 sl38 sl39 sl40 : Array (Option Value)} {oc1 kV1 dc1 pm1 cd1 ct1 oc2 kV2 dc2 pm2 cd2 ct2 oc3 kV3 dc3 pm3 cd3 ct3 oc4 kV4 dc4 pm4 cd4 ct4 oc5 kV5 dc5 pm5 cd5 ct5 oc6 kV6 dc6 pm6 cd6 ct6 oc7 kV7 dc7 pm7 cd7 ct7 oc8 kV8 dc8 pm8 cd8 ct8 oc9 kV9 dc9 pm9 cd9 ct9 oc10 kV10 dc10 pm10 cd10 ct10 oc11 kV11 dc11 pm11 cd11 ct11 oc12 kV12 dc12 pm12 cd12 ct12 oc13 kV13 dc13 pm13 cd13 ct13 oc14 kV14 dc14 pm14 cd14 ct14 oc15 kV15 dc15 pm15 cd15 ct15 oc16 kV16 dc16 pm16 cd16 ct16 oc17 kV17 dc17 pm17 cd17 ct17 oc18 kV18 dc18 pm18 cd18 ct18 oc19 kV19 dc19 pm19 cd19 ct19 oc20 kV20 dc20 pm20 cd20 ct20 oc21 kV21 dc21 pm21 cd21 ct21 oc22 kV22 dc22 pm22 cd22 ct22 oc23 kV23 dc23 pm23 cd23 ct23 oc24 kV24 dc24 pm24 cd24 ct24 oc25 kV25 dc25 pm25 cd25 ct25 oc26 kV26 dc26 pm26 cd26 ct26 oc27 kV27 dc27 pm27 cd27 ct27 oc28 kV28 dc28 pm28 cd28 ct28 oc29 kV29 dc29 pm29 cd29 ct29 oc30 kV30 dc30 pm30 cd30 ct30 oc31 kV31 dc31 pm31 cd31 ct31 oc32 kV32 dc32 pm32 cd32 ct32 oc33 kV33 dc33 pm33 cd33 ct33 oc34 kV34 dc34 pm34 cd34 ct34 oc35 kV35 dc35 pm35 cd35 ct35 oc36 kV36 dc36 pm36 cd36 ct36 oc37 kV37 dc37 pm37 cd37 ct37 oc38 kV38 dc38 pm38 cd38 ct38 oc39 kV39 dc39 pm39 cd39 ct39 oc40 kV40 dc40 pm40 cd40 ct40 : Value} {t0 t1 t2 t100 t101 : Tok}
    (a1 : PySem.W.nsIn K mainGlobals "_law_draw" = some (some (.ref f1))) (l1 : K.lookup f1 = some ⟨oc1, od1, .func (PySem.W.fnOf "_law_draw" "_law_draw" (defArgs s_law_draw) (defBody s_law_draw) (defScope s_law_draw) .none kV1 dc1 pm1 an1 cd1 ct1), sl1⟩) (c1 : PySem.W.codeIn K cd1 "_law_draw" = true) (k1 : PySem.W.keepIn K (.ref f1) = true)
    (a2 : PySem.W.nsIn K mainGlobals "_law_stream" = some (some (.ref f2))) (l2 : K.lookup f2 = some ⟨oc2, od2, .func (PySem.W.fnOf "_law_stream" "_law_stream" (defArgs s_law_stream) (defBody s_law_stream) (defScope s_law_stream) .none kV2 dc2 pm2 an2 cd2 ct2), sl2⟩) (c2 : PySem.W.codeIn K cd2 "_law_stream" = true) (k2 : PySem.W.keepIn K (.ref f2) = true)
    (a3 : PySem.W.nsIn K mainGlobals "part_count" = some (some (.ref f3))) (l3 : K.lookup f3 = some ⟨oc3, od3, .func (PySem.W.fnOf "part_count" "part_count" (defArgs s_part_count) (defBody s_part_count) (defScope s_part_count) .none kV3 dc3 pm3 an3 cd3 ct3), sl3⟩) (c3 : PySem.W.codeIn K cd3 "part_count" = true) (k3 : PySem.W.keepIn K (.ref f3) = true)
    (a4 : PySem.W.nsIn K mainGlobals "check_size" = some (some (.ref f4))) (l4 : K.lookup f4 = some ⟨oc4, od4, .func (PySem.W.fnOf "check_size" "check_size" (defArgs s_check_size) (defBody s_check_size) (defScope s_check_size) .none kV4 dc4 pm4 an4 cd4 ct4), sl4⟩) (c4 : PySem.W.codeIn K cd4 "check_size" = true) (k4 : PySem.W.keepIn K (.ref f4) = true)
    (a5 : PySem.W.nsIn K mainGlobals "checked" = some (some (.ref f5))) (l5 : K.lookup f5 = some ⟨oc5, od5, .func (PySem.W.fnOf "checked" "checked" (defArgs s_checked) (defBody s_checked) (defScope s_checked) .none kV5 dc5 pm5 an5 cd5 ct5), sl5⟩) (c5 : PySem.W.codeIn K cd5 "checked" = true) (k5 : PySem.W.keepIn K (.ref f5) = true)
    (a6 : PySem.W.nsIn K mainGlobals "depths" = some (some (.ref f6))) (l6 : K.lookup f6 = some ⟨oc6, od6, .func (PySem.W.fnOf "depths" "depths" (defArgs s_depths) (defBody s_depths) (defScope s_depths) .none kV6 dc6 pm6 an6 cd6 ct6), sl6⟩) (c6 : PySem.W.codeIn K cd6 "depths" = true) (k6 : PySem.W.keepIn K (.ref f6) = true)
    (a7 : PySem.W.nsIn K mainGlobals "stands_free" = some (some (.ref f7))) (l7 : K.lookup f7 = some ⟨oc7, od7, .func (PySem.W.fnOf "stands_free" "stands_free" (defArgs s_stands_free) (defBody s_stands_free) (defScope s_stands_free) .none kV7 dc7 pm7 an7 cd7 ct7), sl7⟩) (c7 : PySem.W.codeIn K cd7 "stands_free" = true) (k7 : PySem.W.keepIn K (.ref f7) = true)
    (a8 : PySem.W.nsIn K mainGlobals "lifted_nodes" = some (some (.ref f8))) (l8 : K.lookup f8 = some ⟨oc8, od8, .func (PySem.W.fnOf "lifted_nodes" "lifted_nodes" (defArgs s_lifted_nodes) (defBody s_lifted_nodes) (defScope s_lifted_nodes) .none kV8 dc8 pm8 an8 cd8 ct8), sl8⟩) (c8 : PySem.W.codeIn K cd8 "lifted_nodes" = true) (k8 : PySem.W.keepIn K (.ref f8) = true)
    (a9 : PySem.W.nsIn K mainGlobals "put" = some (some (.ref f9))) (l9 : K.lookup f9 = some ⟨oc9, od9, .func (PySem.W.fnOf "put" "put" (defArgs s_put) (defBody s_put) (defScope s_put) .none kV9 dc9 pm9 an9 cd9 ct9), sl9⟩) (c9 : PySem.W.codeIn K cd9 "put" = true) (k9 : PySem.W.keepIn K (.ref f9) = true)
    (a10 : PySem.W.nsIn K mainGlobals "letters_of" = some (some (.ref f10))) (l10 : K.lookup f10 = some ⟨oc10, od10, .func (PySem.W.fnOf "letters_of" "letters_of" (defArgs s_letters_of) (defBody s_letters_of) (defScope s_letters_of) .none kV10 dc10 pm10 an10 cd10 ct10), sl10⟩) (c10 : PySem.W.codeIn K cd10 "letters_of" = true) (k10 : PySem.W.keepIn K (.ref f10) = true)
    (a11 : PySem.W.nsIn K mainGlobals "places" = some (some (.ref f11))) (l11 : K.lookup f11 = some ⟨oc11, od11, .func (PySem.W.fnOf "places" "places" (defArgs s_places) (defBody s_places) (defScope s_places) .none kV11 dc11 pm11 an11 cd11 ct11), sl11⟩) (c11 : PySem.W.codeIn K cd11 "places" = true) (k11 : PySem.W.keepIn K (.ref f11) = true)
    (a12 : PySem.W.nsIn K mainGlobals "end_of" = some (some (.ref f12))) (l12 : K.lookup f12 = some ⟨oc12, od12, .func (PySem.W.fnOf "end_of" "end_of" (defArgs s_end_of) (defBody s_end_of) (defScope s_end_of) .none kV12 dc12 pm12 an12 cd12 ct12), sl12⟩) (c12 : PySem.W.codeIn K cd12 "end_of" = true) (k12 : PySem.W.keepIn K (.ref f12) = true)
    (a13 : PySem.W.nsIn K mainGlobals "start_of" = some (some (.ref f13))) (l13 : K.lookup f13 = some ⟨oc13, od13, .func (PySem.W.fnOf "start_of" "start_of" (defArgs s_start_of) (defBody s_start_of) (defScope s_start_of) .none kV13 dc13 pm13 an13 cd13 ct13), sl13⟩) (c13 : PySem.W.codeIn K cd13 "start_of" = true) (k13 : PySem.W.keepIn K (.ref f13) = true)
    (a14 : PySem.W.nsIn K mainGlobals "is_number" = some (some (.ref f14))) (l14 : K.lookup f14 = some ⟨oc14, od14, .func (PySem.W.fnOf "is_number" "is_number" (defArgs s_is_number) (defBody s_is_number) (defScope s_is_number) .none kV14 dc14 pm14 an14 cd14 ct14), sl14⟩) (c14 : PySem.W.codeIn K cd14 "is_number" = true) (k14 : PySem.W.keepIn K (.ref f14) = true)
    (a15 : PySem.W.nsIn K mainGlobals "is_node" = some (some (.ref f15))) (l15 : K.lookup f15 = some ⟨oc15, od15, .func (PySem.W.fnOf "is_node" "is_node" (defArgs s_is_node) (defBody s_is_node) (defScope s_is_node) .none kV15 dc15 pm15 an15 cd15 ct15), sl15⟩) (c15 : PySem.W.codeIn K cd15 "is_node" = true) (k15 : PySem.W.keepIn K (.ref f15) = true)
    (a16 : PySem.W.nsIn K mainGlobals "is_written" = some (some (.ref f16))) (l16 : K.lookup f16 = some ⟨oc16, od16, .func (PySem.W.fnOf "is_written" "is_written" (defArgs s_is_written) (defBody s_is_written) (defScope s_is_written) .none kV16 dc16 pm16 an16 cd16 ct16), sl16⟩) (c16 : PySem.W.codeIn K cd16 "is_written" = true) (k16 : PySem.W.keepIn K (.ref f16) = true)
    (a17 : PySem.W.nsIn K mainGlobals "is_term" = some (some (.ref f17))) (l17 : K.lookup f17 = some ⟨oc17, od17, .func (PySem.W.fnOf "is_term" "is_term" (defArgs s_is_term) (defBody s_is_term) (defScope s_is_term) .none kV17 dc17 pm17 an17 cd17 ct17), sl17⟩) (c17 : PySem.W.codeIn K cd17 "is_term" = true) (k17 : PySem.W.keepIn K (.ref f17) = true)
    (a18 : PySem.W.nsIn K mainGlobals "free" = some (some (.ref f18))) (l18 : K.lookup f18 = some ⟨oc18, od18, .func (PySem.W.fnOf "free" "free" (defArgs s_free) (defBody s_free) (defScope s_free) .none kV18 dc18 pm18 an18 cd18 ct18), sl18⟩) (c18 : PySem.W.codeIn K cd18 "free" = true) (k18 : PySem.W.keepIn K (.ref f18) = true)
    (a19 : PySem.W.nsIn K mainGlobals "part" = some (some (.ref f19))) (l19 : K.lookup f19 = some ⟨oc19, od19, .func (PySem.W.fnOf "part" "part" (defArgs s_part) (defBody s_part) (defScope s_part) .none kV19 dc19 pm19 an19 cd19 ct19), sl19⟩) (c19 : PySem.W.codeIn K cd19 "part" = true) (k19 : PySem.W.keepIn K (.ref f19) = true)
    (a20 : PySem.W.nsIn K mainGlobals "replace" = some (some (.ref f20))) (l20 : K.lookup f20 = some ⟨oc20, od20, .func (PySem.W.fnOf "replace" "replace" (defArgs s_replace) (defBody s_replace) (defScope s_replace) .none kV20 dc20 pm20 an20 cd20 ct20), sl20⟩) (c20 : PySem.W.codeIn K cd20 "replace" = true) (k20 : PySem.W.keepIn K (.ref f20) = true)
    (a21 : PySem.W.nsIn K mainGlobals "comes_before" = some (some (.ref f21))) (l21 : K.lookup f21 = some ⟨oc21, od21, .func (PySem.W.fnOf "comes_before" "comes_before" (defArgs s_comes_before) (defBody s_comes_before) (defScope s_comes_before) .none kV21 dc21 pm21 an21 cd21 ct21), sl21⟩) (c21 : PySem.W.codeIn K cd21 "comes_before" = true) (k21 : PySem.W.keepIn K (.ref f21) = true)
    (a22 : PySem.W.nsIn K mainGlobals "lift" = some (some (.ref f22))) (l22 : K.lookup f22 = some ⟨oc22, od22, .func (PySem.W.fnOf "lift" "lift" (defArgs s_lift) (defBody s_lift) (defScope s_lift) .none kV22 dc22 pm22 an22 cd22 ct22), sl22⟩) (c22 : PySem.W.codeIn K cd22 "lift" = true) (k22 : PySem.W.keepIn K (.ref f22) = true)
    (a23 : PySem.W.nsIn K mainGlobals "is_name" = some (some (.ref f23))) (l23 : K.lookup f23 = some ⟨oc23, od23, .func (PySem.W.fnOf "is_name" "is_name" (defArgs s_is_name) (defBody s_is_name) (defScope s_is_name) .none kV23 dc23 pm23 an23 cd23 ct23), sl23⟩) (c23 : PySem.W.codeIn K cd23 "is_name" = true) (k23 : PySem.W.keepIn K (.ref f23) = true)
    (a24 : PySem.W.nsIn K mainGlobals "name_table" = some (some (.ref f24))) (l24 : K.lookup f24 = some ⟨oc24, od24, .func (PySem.W.fnOf "name_table" "name_table" (defArgs s_name_table) (defBody s_name_table) (defScope s_name_table) .none kV24 dc24 pm24 an24 cd24 ct24), sl24⟩) (c24 : PySem.W.codeIn K cd24 "name_table" = true) (k24 : PySem.W.keepIn K (.ref f24) = true)
    (a25 : PySem.W.nsIn K mainGlobals "numbered_name" = some (some (.ref f25))) (l25 : K.lookup f25 = some ⟨oc25, od25, .func (PySem.W.fnOf "numbered_name" "numbered_name" (defArgs s_numbered_name) (defBody s_numbered_name) (defScope s_numbered_name) .none kV25 dc25 pm25 an25 cd25 ct25), sl25⟩) (c25 : PySem.W.codeIn K cd25 "numbered_name" = true) (k25 : PySem.W.keepIn K (.ref f25) = true)
    (a26 : PySem.W.nsIn K mainGlobals "bound_names" = some (some (.ref f26))) (l26 : K.lookup f26 = some ⟨oc26, od26, .func (PySem.W.fnOf "bound_names" "bound_names" (defArgs s_bound_names) (defBody s_bound_names) (defScope s_bound_names) .none kV26 dc26 pm26 an26 cd26 ct26), sl26⟩) (c26 : PySem.W.codeIn K cd26 "bound_names" = true) (k26 : PySem.W.keepIn K (.ref f26) = true)
    (a27 : PySem.W.nsIn K mainGlobals "written_variable" = some (some (.ref f27))) (l27 : K.lookup f27 = some ⟨oc27, od27, .func (PySem.W.fnOf "written_variable" "written_variable" (defArgs s_written_variable) (defBody s_written_variable) (defScope s_written_variable) .none kV27 dc27 pm27 an27 cd27 ct27), sl27⟩) (c27 : PySem.W.codeIn K cd27 "written_variable" = true) (k27 : PySem.W.keepIn K (.ref f27) = true)
    (a28 : PySem.W.nsIn K mainGlobals "is_abstraction" = some (some (.ref f28))) (l28 : K.lookup f28 = some ⟨oc28, od28, .func (PySem.W.fnOf "is_abstraction" "is_abstraction" (defArgs s_is_abstraction) (defBody s_is_abstraction) (defScope s_is_abstraction) .none kV28 dc28 pm28 an28 cd28 ct28), sl28⟩) (c28 : PySem.W.codeIn K cd28 "is_abstraction" = true) (k28 : PySem.W.keepIn K (.ref f28) = true)
    (a29 : PySem.W.nsIn K mainGlobals "written_abstraction" = some (some (.ref f29))) (l29 : K.lookup f29 = some ⟨oc29, od29, .func (PySem.W.fnOf "written_abstraction" "written_abstraction" (defArgs s_written_abstraction) (defBody s_written_abstraction) (defScope s_written_abstraction) .none kV29 dc29 pm29 an29 cd29 ct29), sl29⟩) (c29 : PySem.W.codeIn K cd29 "written_abstraction" = true) (k29 : PySem.W.keepIn K (.ref f29) = true)
    (a30 : PySem.W.nsIn K mainGlobals "written_application" = some (some (.ref f30))) (l30 : K.lookup f30 = some ⟨oc30, od30, .func (PySem.W.fnOf "written_application" "written_application" (defArgs s_written_application) (defBody s_written_application) (defScope s_written_application) .none kV30 dc30 pm30 an30 cd30 ct30), sl30⟩) (c30 : PySem.W.codeIn K cd30 "written_application" = true) (k30 : PySem.W.keepIn K (.ref f30) = true)
    (a31 : PySem.W.nsIn K mainGlobals "show" = some (some (.ref f31))) (l31 : K.lookup f31 = some ⟨oc31, od31, .func (PySem.W.fnOf "show" "show" (defArgs s_show) (defBody s_show) (defScope s_show) .none kV31 dc31 pm31 an31 cd31 ct31), sl31⟩) (c31 : PySem.W.codeIn K cd31 "show" = true) (k31 : PySem.W.keepIn K (.ref f31) = true)
    (a32 : PySem.W.nsIn K mainGlobals "_law_depths" = some (some (.ref f32))) (l32 : K.lookup f32 = some ⟨oc32, od32, .func (PySem.W.fnOf "_law_depths" "_law_depths" (defArgs s_law_depths) (defBody s_law_depths) (defScope s_law_depths) .none kV32 dc32 pm32 an32 cd32 ct32), sl32⟩) (c32 : PySem.W.codeIn K cd32 "_law_depths" = true) (k32 : PySem.W.keepIn K (.ref f32) = true)
    (a33 : PySem.W.nsIn K mainGlobals "_law_lift" = some (some (.ref f33))) (l33 : K.lookup f33 = some ⟨oc33, od33, .func (PySem.W.fnOf "_law_lift" "_law_lift" (defArgs s_law_lift) (defBody s_law_lift) (defScope s_law_lift) .none kV33 dc33 pm33 an33 cd33 ct33), sl33⟩) (c33 : PySem.W.codeIn K cd33 "_law_lift" = true) (k33 : PySem.W.keepIn K (.ref f33) = true)
    (a34 : PySem.W.nsIn K mainGlobals "_law_put" = some (some (.ref f34))) (l34 : K.lookup f34 = some ⟨oc34, od34, .func (PySem.W.fnOf "_law_put" "_law_put" (defArgs s_law_put) (defBody s_law_put) (defScope s_law_put) .none kV34 dc34 pm34 an34 cd34 ct34), sl34⟩) (c34 : PySem.W.codeIn K cd34 "_law_put" = true) (k34 : PySem.W.keepIn K (.ref f34) = true)
    (a35 : PySem.W.nsIn K mainGlobals "_law_places" = some (some (.ref f35))) (l35 : K.lookup f35 = some ⟨oc35, od35, .func (PySem.W.fnOf "_law_places" "_law_places" (defArgs s_law_places) (defBody s_law_places) (defScope s_law_places) .none kV35 dc35 pm35 an35 cd35 ct35), sl35⟩) (c35 : PySem.W.codeIn K cd35 "_law_places" = true) (k35 : PySem.W.keepIn K (.ref f35) = true)
    (a36 : PySem.W.nsIn K mainGlobals "_law_deep" = some (some (.ref f36))) (l36 : K.lookup f36 = some ⟨oc36, od36, .func (PySem.W.fnOf "_law_deep" "_law_deep" (defArgs s_law_deep) (defBody s_law_deep) (defScope s_law_deep) .none kV36 dc36 pm36 an36 cd36 ct36), sl36⟩) (c36 : PySem.W.codeIn K cd36 "_law_deep" = true) (k36 : PySem.W.keepIn K (.ref f36) = true)
    (a37 : PySem.W.nsIn K mainGlobals "_law_own_names" = some (some (.ref f37))) (l37 : K.lookup f37 = some ⟨oc37, od37, .func (PySem.W.fnOf "_law_own_names" "_law_own_names" (defArgs s_law_own_names) (defBody s_law_own_names) (defScope s_law_own_names) .none kV37 dc37 pm37 an37 cd37 ct37), sl37⟩) (c37 : PySem.W.codeIn K cd37 "_law_own_names" = true) (k37 : PySem.W.keepIn K (.ref f37) = true)
    (a38 : PySem.W.nsIn K mainGlobals "_law_shown" = some (some (.ref f38))) (l38 : K.lookup f38 = some ⟨oc38, od38, .func (PySem.W.fnOf "_law_shown" "_law_shown" (defArgs s_law_shown) (defBody s_law_shown) (defScope s_law_shown) .none kV38 dc38 pm38 an38 cd38 ct38), sl38⟩) (c38 : PySem.W.codeIn K cd38 "_law_shown" = true) (k38 : PySem.W.keepIn K (.ref f38) = true)
    (a39 : PySem.W.nsIn K mainGlobals "_law_put_told" = some (some (.ref f39))) (l39 : K.lookup f39 = some ⟨oc39, od39, .func (PySem.W.fnOf "_law_put_told" "_law_put_told" (defArgs s_law_put_told) (defBody s_law_put_told) (defScope s_law_put_told) .none kV39 dc39 pm39 an39 cd39 ct39), sl39⟩) (c39 : PySem.W.codeIn K cd39 "_law_put_told" = true) (k39 : PySem.W.keepIn K (.ref f39) = true)
    (a40 : PySem.W.nsIn K mainGlobals "law" = some (some (.ref f40))) (l40 : K.lookup f40 = some ⟨oc40, od40, .func (PySem.W.fnOf "law" "law" (defArgs s_law) (defBody s_law) (defScope s_law) .none kV40 dc40 pm40 an40 cd40 ct40), sl40⟩) (c40 : PySem.W.codeIn K cd40 "law" = true) (k40 : PySem.W.keepIn K (.ref f40) = true)
    (z_int : PySem.W.nsIn K mainGlobals "int" = some none)
    (z_list : PySem.W.nsIn K mainGlobals "list" = some none)
    (z_len : PySem.W.nsIn K mainGlobals "len" = some none)
    (z_abs : PySem.W.nsIn K mainGlobals "abs" = some none)
    (z_isinstance : PySem.W.nsIn K mainGlobals "isinstance" = some none)
    (z_tuple : PySem.W.nsIn K mainGlobals "tuple" = some none)
    (z_range : PySem.W.nsIn K mainGlobals "range" = some none)
    (z_zip : PySem.W.nsIn K mainGlobals "zip" = some none)
    (z_reversed : PySem.W.nsIn K mainGlobals "reversed" = some none)
    (z_sorted : PySem.W.nsIn K mainGlobals "sorted" = some none)
    (z_all : PySem.W.nsIn K mainGlobals "all" = some none)
    (z_set : PySem.W.nsIn K mainGlobals "set" = some none)
    (z_str : PySem.W.nsIn K mainGlobals "str" = some none)
    (z_bool : PySem.W.nsIn K mainGlobals "bool" = some none)
    (z_ValueError : PySem.W.nsIn K mainGlobals "ValueError" = some none)
    (g_MOST_NODES : PySem.W.nsIn K mainGlobals "MOST_NODES" = some (some (.int 1000 t0)))
    (g_MOST_VARIABLE : PySem.W.nsIn K mainGlobals "MOST_VARIABLE" = some (some (.int 1000000 t1)))
    (g_MOST_LENGTH : PySem.W.nsIn K mainGlobals "MOST_LENGTH" = some (some (.int 10 t2)))
    (g_LETTERS : PySem.W.nsIn K mainGlobals "LETTERS" = some (some (.str "abcdefghijklmnopqrstuvwxyz" t100)))
    (g_DIGITS : PySem.W.nsIn K mainGlobals "DIGITS" = some (some (.str "0123456789" t101)))
    (e_PART_COUNTS : PySem.W.nsIn K mainGlobals "PART_COUNTS" = some (some (.ref cc40)))
    (e_LyditeError : PySem.W.nsIn K mainGlobals "LyditeError" = some (some (.ref cc0)))
    (e_TooLarge : PySem.W.nsIn K mainGlobals "TooLarge" = some (some (.ref cc1)))
    (e_NoPlace : PySem.W.nsIn K mainGlobals "NoPlace" = some (some (.ref cc3)))
    (e_BadNames : PySem.W.nsIn K mainGlobals "BadNames" = some (some (.ref cc5)))
    (y_d_PART_COUNTS : KD K w cc40 [("lam", .int 1), ("app", .int 2), ("to", .int 2)])
    (y_t_LyditeError : PySem.W.typeIn K (.ref cc0) = some (.type "type"))
    (y_h3_LyditeError : PySem.W.hasDictIn K cc0 = true)
    (y_x_TooLarge : PySem.W.excIn K cc1 [.type "ValueError", .type "Exception", .type "BaseException", .type "object"] "ValueError.__new__" = true)
    (y_k_TooLarge : PySem.W.keepIn K (.ref cc1) = true)
    (y_b_TooLarge : PySem.W.subIn K (.ref cc1) (.type "BaseException") = some true)
    (y_t_TooLarge : PySem.W.typeIn K (.ref cc1) = some (.type "type"))
    (y_s0_TooLarge : PySem.W.subIn K (.ref cc1) (.ref cc0) = some true)
    (y_sv_TooLarge : PySem.W.subIn K (.ref cc1) (.type "ValueError") = some true)
    (y_s1_TooLarge : PySem.W.subIn K (.ref cc1) (.ref cc1) = some true)
    (y_s3_TooLarge : PySem.W.subIn K (.ref cc1) (.ref cc3) = some false)
    (y_s5_TooLarge : PySem.W.subIn K (.ref cc1) (.ref cc5) = some false)
    (y_h1_TooLarge : PySem.W.findIn K (.ref cc1) "__getattribute__" = some (some (.builtin "BaseException.__getattribute__")))
    (y_h2_TooLarge : PySem.W.findIn K (.ref cc1) "__getattr__" = some none)
    (y_h3_TooLarge : PySem.W.hasDictIn K cc1 = true)
    (y_h4_TooLarge : PySem.W.findIn K (.ref cc1) "__class__" = some (some (.builtin "object.__class__")))
    (y_h7_TooLarge : PySem.W.mroIn K cc1 (.type "object") = some true)
    (y_h5_TooLarge : PySem.W.specialIn K (.builtin "object.__class__") "__get__" = some (some (.builtin "getset_descriptor.__get__")))
    (y_h6_TooLarge : PySem.W.takesIn K (.builtin "object.__class__") = some true)
    (y_x_NoPlace : PySem.W.excIn K cc3 [.type "ValueError", .type "Exception", .type "BaseException", .type "object"] "ValueError.__new__" = true)
    (y_k_NoPlace : PySem.W.keepIn K (.ref cc3) = true)
    (y_b_NoPlace : PySem.W.subIn K (.ref cc3) (.type "BaseException") = some true)
    (y_t_NoPlace : PySem.W.typeIn K (.ref cc3) = some (.type "type"))
    (y_s0_NoPlace : PySem.W.subIn K (.ref cc3) (.ref cc0) = some true)
    (y_sv_NoPlace : PySem.W.subIn K (.ref cc3) (.type "ValueError") = some true)
    (y_s1_NoPlace : PySem.W.subIn K (.ref cc3) (.ref cc1) = some false)
    (y_s3_NoPlace : PySem.W.subIn K (.ref cc3) (.ref cc3) = some true)
    (y_s5_NoPlace : PySem.W.subIn K (.ref cc3) (.ref cc5) = some false)
    (y_h1_NoPlace : PySem.W.findIn K (.ref cc3) "__getattribute__" = some (some (.builtin "BaseException.__getattribute__")))
    (y_h2_NoPlace : PySem.W.findIn K (.ref cc3) "__getattr__" = some none)
    (y_h3_NoPlace : PySem.W.hasDictIn K cc3 = true)
    (y_h4_NoPlace : PySem.W.findIn K (.ref cc3) "__class__" = some (some (.builtin "object.__class__")))
    (y_h7_NoPlace : PySem.W.mroIn K cc3 (.type "object") = some true)
    (y_x_BadNames : PySem.W.excIn K cc5 [.type "ValueError", .type "Exception", .type "BaseException", .type "object"] "ValueError.__new__" = true)
    (y_k_BadNames : PySem.W.keepIn K (.ref cc5) = true)
    (y_b_BadNames : PySem.W.subIn K (.ref cc5) (.type "BaseException") = some true)
    (y_t_BadNames : PySem.W.typeIn K (.ref cc5) = some (.type "type"))
    (y_s0_BadNames : PySem.W.subIn K (.ref cc5) (.ref cc0) = some true)
    (y_sv_BadNames : PySem.W.subIn K (.ref cc5) (.type "ValueError") = some true)
    (y_s1_BadNames : PySem.W.subIn K (.ref cc5) (.ref cc1) = some false)
    (y_s3_BadNames : PySem.W.subIn K (.ref cc5) (.ref cc3) = some false)
    (y_s5_BadNames : PySem.W.subIn K (.ref cc5) (.ref cc5) = some true)
    (y_h1_BadNames : PySem.W.findIn K (.ref cc5) "__getattribute__" = some (some (.builtin "BaseException.__getattribute__")))
    (y_h2_BadNames : PySem.W.findIn K (.ref cc5) "__getattr__" = some none)
    (y_h3_BadNames : PySem.W.hasDictIn K cc5 = true)
    (y_h4_BadNames : PySem.W.findIn K (.ref cc5) "__class__" = some (some (.builtin "object.__class__")))
    (y_h7_BadNames : PySem.W.mroIn K cc5 (.type "object") = some true)
    (eT : cd23 = .ref cT) (lT : K.lookup cT = some ⟨ocT, odT, .fields vsT, slT⟩) (vT : vsT[11]? = some (.ref PT)) (nT : K.lookup PT = none) (rT : (recsOf q).find? (fun e => e.name == ("is_name" : Str)) = some r0)
    (hT : ∀ (y : Str) (c P : Addr) (r : DefRec), (recsOf q).find? (fun e => e.name == y) = some r → PySem.W.tabIn K y = some (c, P) → PySem.W.CodeHd h c P ∧ h.get? P = some { cls := .none, data := .fields #[] })
    : LamX.LawAtS l w K (L2.CX l.prog w) 30 63 "script" mg fa h := by
  have e := hfa.symm.trans (PySem.W.mg_of X G a40)
  cases e
  have T : Txt w K mg (fun n => match n with | 0 => t0 | 1 => t1 | 2 => t2 | 100 => t100 | _ => t101) (fun n => match n with | 40 => cc40 | 0 => cc0 | 1 => cc1 | 3 => cc3 | _ => cc5) := ⟨PySem.W.mg_none_of X G z_int, PySem.W.mg_none_of X G z_list, PySem.W.mg_none_of X G z_len, PySem.W.mg_none_of X G z_abs, PySem.W.mg_none_of X G z_isinstance, PySem.W.mg_none_of X G z_tuple, PySem.W.mg_none_of X G z_range, PySem.W.mg_none_of X G z_zip, PySem.W.mg_none_of X G z_reversed, PySem.W.mg_none_of X G z_sorted, PySem.W.mg_none_of X G z_all, PySem.W.mg_none_of X G z_set, PySem.W.mg_none_of X G z_str, PySem.W.mg_none_of X G z_bool, PySem.W.mg_of X G g_MOST_NODES, PySem.W.mg_of X G g_MOST_VARIABLE, PySem.W.mg_of X G g_MOST_LENGTH, PySem.W.mg_of X G g_LETTERS, PySem.W.mg_of X G g_DIGITS, PySem.W.mg_of X G e_PART_COUNTS, y_d_PART_COUNTS, PySem.W.mg_none_of X G z_ValueError, PySem.W.mg_of X G e_LyditeError, y_t_LyditeError, y_h3_LyditeError, PySem.W.mg_of X G e_TooLarge, y_x_TooLarge, y_k_TooLarge, y_b_TooLarge, y_t_TooLarge, y_s0_TooLarge, y_sv_TooLarge, y_s1_TooLarge, y_s3_TooLarge, y_s5_TooLarge, y_h1_TooLarge, y_h2_TooLarge, y_h3_TooLarge, y_h4_TooLarge, y_h7_TooLarge, y_h5_TooLarge, y_h6_TooLarge, PySem.W.mg_of X G e_NoPlace, y_x_NoPlace, y_k_NoPlace, y_b_NoPlace, y_t_NoPlace, y_s0_NoPlace, y_sv_NoPlace, y_s1_NoPlace, y_s3_NoPlace, y_s5_NoPlace, y_h1_NoPlace, y_h2_NoPlace, y_h3_NoPlace, y_h4_NoPlace, y_h7_NoPlace, PySem.W.mg_of X G e_BadNames, y_x_BadNames, y_k_BadNames, y_b_BadNames, y_t_BadNames, y_s0_BadNames, y_sv_BadNames, y_s1_BadNames, y_s3_BadNames, y_s5_BadNames, y_h1_BadNames, y_h2_BadNames, y_h3_BadNames, y_h4_BadNames, y_h7_BadNames⟩
  have tabE : PySem.W.tabIn K "is_name" = some (cT, PT) := by
    subst eT
    unfold PySem.W.tabIn
    rw [a23]
    simp only [l23, PySem.W.fnOf, lT, vT]
  have tabH := hT _ _ _ _ rT tabE
  exact ⟨PySem.W.fnOf "law" "law" (defArgs s_law) (defBody s_law) (defScope s_law) .none kV40 dc40 pm40 an40 cd40 ct40, [(cT, PT)], spLaw K PT, fun p hp => by rw [List.mem_singleton.mp hp]; exact tabH.2, fun p hp => by rw [List.mem_singleton.mp hp]; exact nT, fun p hp => by rw [List.mem_singleton.mp hp]; exact tabH.1, fun s v => .of_eq rfl, fun H a ns hl _ hH hS => ⟨a, ns, rfl, hS, hl, ⟨#[], hH (cT, PT) (List.mem_singleton.mpr rfl), by first | trivial | simp [TriplesOk]⟩, fun _ => rfl⟩, fun base _ _ hTB => by
    have tbH0 := hTB (cT, PT) (List.mem_singleton.mpr rfl)
    have tbH : GxR.TabB base mg cT PT := ⟨tbH0.1, tbH0.2, tbH0.3⟩
    have F1 := fun_mk (st := s_law_draw) l1 c1 k1
    have D1 := Def.of (P := l.prog) (w := w) (base := base) (k := 1) (PySem.W.mg_of X G a1) k1 (F1.binds (ps := ["stream", "many"]) fun _ _ _ _ _ _ us hl => match us, hl with | [_, _], _ => rfl) (ok_draw F1 T)
    have F2 := fun_mk (st := s_law_stream) l2 c2 k2
    have D2 := Def.of (P := l.prog) (w := w) (base := base) (k := 1) (PySem.W.mg_of X G a2) k2 (F2.binds (ps := ["script"]) fun _ _ _ _ _ _ us hl => match us, hl with | [_], _ => rfl) (ok_stream F2 T)
    have F3 := fun_mk (st := s_part_count) l3 c3 k3
    have D3 := Def.of (P := l.prog) (w := w) (base := base) (k := 1) (PySem.W.mg_of X G a3) k3 (F3.binds (ps := ["node"]) fun _ _ _ _ _ _ us hl => match us, hl with | [_], _ => rfl) (ok_part_count F3 T)
    have F4 := fun_mk (st := s_check_size) l4 c4 k4
    have D4 := Def.of (P := l.prog) (w := w) (base := base) (k := 1) (PySem.W.mg_of X G a4) k4 (F4.binds (ps := ["size"]) fun _ _ _ _ _ _ us hl => match us, hl with | [_], _ => rfl) (ok_check_size F4 T)
    have F5 := fun_mk (st := s_checked) l5 c5 k5
    have D5 := Def.of (P := l.prog) (w := w) (base := base) (k := 2) (PySem.W.mg_of X G a5) k5 (F5.binds (ps := ["term"]) fun _ _ _ _ _ _ us hl => match us, hl with | [_], _ => rfl) (ok_checked F5 T D4)
    have F6 := fun_mk (st := s_depths) l6 c6 k6
    have D6 := Def.of (P := l.prog) (w := w) (base := base) (k := 1) (PySem.W.mg_of X G a6) k6 (F6.binds (ps := ["term"]) fun _ _ _ _ _ _ us hl => match us, hl with | [_], _ => rfl) (ok_depths F6 T)
    have F7 := fun_mk (st := s_stands_free) l7 c7 k7
    have D7 := Def.of (P := l.prog) (w := w) (base := base) (k := 1) (PySem.W.mg_of X G a7) k7 (F7.binds (ps := ["node", "depth"]) fun _ _ _ _ _ _ us hl => match us, hl with | [_, _], _ => rfl) (ok_stands_free F7 T)
    have F8 := fun_mk (st := s_lifted_nodes) l8 c8 k8
    have D8 := Def.of (P := l.prog) (w := w) (base := base) (k := 2) (PySem.W.mg_of X G a8) k8 (F8.binds (ps := ["term", "count"]) fun _ _ _ _ _ _ us hl => match us, hl with | [_, _], _ => rfl) (ok_lifted F8 T D6 D7)
    have F9 := fun_mk (st := s_put) l9 c9 k9
    have D9 := Def.of (P := l.prog) (w := w) (base := base) (k := 3) (PySem.W.mg_of X G a9) k9 (F9.binds (ps := ["term", "value"]) fun _ _ _ _ _ _ us hl => match us, hl with | [_, _], _ => rfl) (ok_put F9 T D6 D7 D8 D4 D5)
    have F10 := fun_mk (st := s_letters_of) l10 c10 k10
    have D10 := Def.of (P := l.prog) (w := w) (base := base) (k := 1) (PySem.W.mg_of X G a10) k10 (F10.binds (ps := ["node"]) fun _ _ _ _ _ _ us hl => match us, hl with | [_], _ => rfl) (ok_letters F10 T)
    have F11 := fun_mk (st := s_places) l11 c11 k11
    have D11 := Def.of (P := l.prog) (w := w) (base := base) (k := 2) (PySem.W.mg_of X G a11) k11 (F11.binds (ps := ["term"]) fun _ _ _ _ _ _ us hl => match us, hl with | [_], _ => rfl) (ok_places F11 T D10)
    have F12 := fun_mk (st := s_end_of) l12 c12 k12
    have D12 := Def.of (P := l.prog) (w := w) (base := base) (k := 2) (PySem.W.mg_of X G a12) k12 (F12.binds (ps := ["term", "start"]) fun _ _ _ _ _ _ us hl => match us, hl with | [_, _], _ => rfl) (ok_end_of F12 T D3)
    have F13 := fun_mk (st := s_start_of) l13 c13 k13
    have D13 := Def.of (P := l.prog) (w := w) (base := base) (k := 3) (PySem.W.mg_of X G a13) k13 (F13.binds (ps := ["term", "place"]) fun _ _ _ _ _ _ us hl => match us, hl with | [_, _], _ => rfl) (ok_start F13 T D12 D10)
    have F14 := fun_mk (st := s_is_number) l14 c14 k14
    have D14 := Def.of (P := l.prog) (w := w) (base := base) (k := 1) (PySem.W.mg_of X G a14) k14 (F14.binds (ps := ["value", "most"]) fun _ _ _ _ _ _ us hl => match us, hl with | [_, _], _ => rfl) (ok_is_number F14 T)
    have F15 := fun_mk (st := s_is_node) l15 c15 k15
    have D15 := Def.of (P := l.prog) (w := w) (base := base) (k := 2) (PySem.W.mg_of X G a15) k15 (F15.binds (ps := ["value", "words"]) fun _ _ _ _ _ _ us hl => match us, hl with | [_, _], _ => rfl) (ok_is_node F15 T D14)
    have F3 := fun_mk (st := s_part_count) l3 c3 k3
    have D3 := Def.of (P := l.prog) (w := w) (base := base) (k := 1) (PySem.W.mg_of X G a3) k3 (F3.binds (ps := ["node"]) fun _ _ _ _ _ _ us hl => match us, hl with | [_], _ => rfl) (ok_part_countD F3 T)
    have F16 := fun_mk (st := s_is_written) l16 c16 k16
    have D16 := Def.of (P := l.prog) (w := w) (base := base) (k := 3) (PySem.W.mg_of X G a16) k16 (F16.binds (ps := ["value", "words"]) fun _ _ _ _ _ _ us hl => match us, hl with | [_, _], _ => rfl) (ok_is_written F16 T D15 D3)
    have F17 := fun_mk (st := s_is_term) l17 c17 k17
    have D17 := Def.of (P := l.prog) (w := w) (base := base) (k := 4) (PySem.W.mg_of X G a17) k17 (F17.binds (ps := ["value"]) fun _ _ _ _ _ _ us hl => match us, hl with | [_], _ => rfl) (ok_is_term F17 T D16)
    have F18 := fun_mk (st := s_free) l18 c18 k18
    have D18 := Def.of (P := l.prog) (w := w) (base := base) (k := 2) (PySem.W.mg_of X G a18) k18 (F18.binds (ps := ["term"]) fun _ _ _ _ _ _ us hl => match us, hl with | [_], _ => rfl) (ok_free F18 T D6 D7)
    have F19 := fun_mk (st := s_part) l19 c19 k19
    have D19 := Def.of (P := l.prog) (w := w) (base := base) (k := 4) (PySem.W.mg_of X G a19) k19 (F19.binds (ps := ["term", "place"]) fun _ _ _ _ _ _ us hl => match us, hl with | [_, _], _ => rfl) (ok_part F19 T D12 D13 D5)
    have F20 := fun_mk (st := s_replace) l20 c20 k20
    have D20 := Def.of (P := l.prog) (w := w) (base := base) (k := 4) (PySem.W.mg_of X G a20) k20 (F20.binds (ps := ["term", "place", "value"]) fun _ _ _ _ _ _ us hl => match us, hl with | [_, _, _], _ => rfl) (ok_replace F20 T D12 D13 D5)
    have F21 := fun_mk (st := s_comes_before) l21 c21 k21
    have D21 := Def.of (P := l.prog) (w := w) (base := base) (k := 1) (PySem.W.mg_of X G a21) k21 (F21.binds (ps := ["first", "second"]) fun _ _ _ _ _ _ us hl => match us, hl with | [_, _], _ => rfl) (ok_before F21 T)
    have F22 := fun_mk (st := s_lift) l22 c22 k22
    have D22 := Def.of (P := l.prog) (w := w) (base := base) (k := 3) (PySem.W.mg_of X G a22) k22 (F22.binds (ps := ["term", "count"]) fun _ _ _ _ _ _ us hl => match us, hl with | [_, _], _ => rfl) (ok_lift F22 T D8 D5)
    have F23 := fun_mk (st := s_is_name) l23 c23 k23
    have D23 := Def.of (P := l.prog) (w := w) (base := base) (k := 2) (PySem.W.mg_of X G a23) k23 (F23.binds (ps := ["value"]) fun _ _ _ _ _ _ us hl => match us, hl with | [_], _ => rfl) ((fun F T => ok_isname F T tbH eT) F23 T)
    have F24 := fun_mk (st := s_name_table) l24 c24 k24
    have D24 := Def.of (P := l.prog) (w := w) (base := base) (k := 3) (PySem.W.mg_of X G a24) k24 (F24.binds (ps := ["names"]) fun _ _ _ _ _ _ us hl => match us, hl with | [_], _ => rfl) (ok_nmtable F24 T D23)
    have F25 := fun_mk (st := s_numbered_name) l25 c25 k25
    have D25 := Def.of (P := l.prog) (w := w) (base := base) (k := 1) (PySem.W.mg_of X G a25) k25 (F25.binds (ps := ["number"]) fun _ _ _ _ _ _ us hl => match us, hl with | [_], _ => rfl) (ok_numbered F25 T)
    have F26 := fun_mk (st := s_bound_names) l26 c26 k26
    have D26 := Def.of (P := l.prog) (w := w) (base := base) (k := 2) (PySem.W.mg_of X G a26) k26 (F26.binds (ps := ["count", "taken"]) fun _ _ _ _ _ _ us hl => match us, hl with | [_, _], _ => rfl) (ok_bound F26 T D25)
    have F27 := fun_mk (st := s_written_variable) l27 c27 k27
    have D27 := Def.of (P := l.prog) (w := w) (base := base) (k := 1) (PySem.W.mg_of X G a27) k27 (F27.binds (ps := ["number", "depth", "bound", "names"]) fun _ _ _ _ _ _ us hl => match us, hl with | [_, _, _, _], _ => rfl) (ok_wvar F27 T)
    have F28 := fun_mk (st := s_is_abstraction) l28 c28 k28
    have D28 := Def.of (P := l.prog) (w := w) (base := base) (k := 1) (PySem.W.mg_of X G a28) k28 (F28.binds (ps := ["text"]) fun _ _ _ _ _ _ us hl => match us, hl with | [_], _ => rfl) (ok_isabs F28 T)
    have F29 := fun_mk (st := s_written_abstraction) l29 c29 k29
    have D29 := Def.of (P := l.prog) (w := w) (base := base) (k := 2) (PySem.W.mg_of X G a29) k29 (F29.binds (ps := ["name", "body"]) fun _ _ _ _ _ _ us hl => match us, hl with | [_, _], _ => rfl) (ok_wabs F29 T D28)
    have F30 := fun_mk (st := s_written_application) l30 c30 k30
    have D30 := Def.of (P := l.prog) (w := w) (base := base) (k := 2) (PySem.W.mg_of X G a30) k30 (F30.binds (ps := ["function", "argument"]) fun _ _ _ _ _ _ us hl => match us, hl with | [_, _], _ => rfl) (ok_wapp F30 T D28)
    have F31 := fun_mk (st := s_show) l31 c31 k31
    have D31 := Def.of (P := l.prog) (w := w) (base := base) (k := 6) (PySem.W.mg_of X G a31) k31 (F31.binds (ps := ["term", "names"]) fun _ _ _ _ _ _ us hl => match us, hl with | [_, _], _ => rfl) (ok_show F31 T D26 D24 D6 D29 D30 D27)
    have F32 := fun_mk (st := s_law_depths) l32 c32 k32
    have D32 := Def.of (P := l.prog) (w := w) (base := base) (k := 1) (PySem.W.mg_of X G a32) k32 (F32.binds (ps := ["term"]) fun _ _ _ _ _ _ us hl => match us, hl with | [_], _ => rfl) (ok_ldepths F32 T)
    have F33 := fun_mk (st := s_law_lift) l33 c33 k33
    have D33 := Def.of (P := l.prog) (w := w) (base := base) (k := 2) (PySem.W.mg_of X G a33) k33 (F33.binds (ps := ["term", "count"]) fun _ _ _ _ _ _ us hl => match us, hl with | [_, _], _ => rfl) (ok_lawlift F33 T D32)
    have F34 := fun_mk (st := s_law_put) l34 c34 k34
    have D34 := Def.of (P := l.prog) (w := w) (base := base) (k := 3) (PySem.W.mg_of X G a34) k34 (F34.binds (ps := ["term", "value"]) fun _ _ _ _ _ _ us hl => match us, hl with | [_, _], _ => rfl) (ok_lawput F34 T D32 D33)
    have F35 := fun_mk (st := s_law_places) l35 c35 k35
    have D35 := Def.of (P := l.prog) (w := w) (base := base) (k := 1) (PySem.W.mg_of X G a35) k35 (F35.binds (ps := ["term"]) fun _ _ _ _ _ _ us hl => match us, hl with | [_], _ => rfl) (ok_lplaces F35 T)
    have F36 := fun_mk (st := s_law_deep) l36 c36 k36
    have D36 := Def.of (P := l.prog) (w := w) (base := base) (k := 1) (PySem.W.mg_of X G a36) k36 (F36.binds (ps := ["pick", "deep"]) fun _ _ _ _ _ _ us hl => match us, hl with | [_, _], _ => rfl) (ok_deep F36 T)
    have F37 := fun_mk (st := s_law_own_names) l37 c37 k37
    have D37 := Def.of (P := l.prog) (w := w) (base := base) (k := 1) (PySem.W.mg_of X G a37) k37 (F37.binds (ps := ["many"]) fun _ _ _ _ _ _ us hl => match us, hl with | [_], _ => rfl) (ok_lown15 F37 T)
    have F38 := fun_mk (st := s_law_shown) l38 c38 k38
    have D38 := Def.of (P := l.prog) (w := w) (base := base) (k := 2) (PySem.W.mg_of X G a38) k38 (F38.binds (ps := ["pick", "deep"]) fun _ _ _ _ _ _ us hl => match us, hl with | [_, _], _ => rfl) (ok_lshown15 F38 T D37)
    have F39 := fun_mk (st := s_law_put_told) l39 c39 k39
    have D39 := Def.of (P := l.prog) (w := w) (base := base) (k := 5) (PySem.W.mg_of X G a39) k39 (F39.binds (ps := ["term", "value"]) fun _ _ _ _ _ _ us hl => match us, hl with | [_, _], _ => rfl) (ok_ptold F39 T D9)
    have F40 := fun_mk (st := s_law) l40 c40 k40
    exact ok_law F40 T D2 D1 D36 D17 D35 D11 D19 D21 D20 D32 D18 D22 D33 D34 D39 D31 D38⟩
theorem walk {l : PySem.W.OpenLaw} {q : Program} {loose : List Str} {XP : (Str → Option Value) → Heap → Prop} {YP : World → Heap → Prop} {d : DefRec} {K : Params → PySem.W.Frag} (hn : l.most = some 63) (hdf : d.params.defaults = [])
    (hY : ∀ (w : World) (h : Heap), YP w h → (K w.params).In h)
    (F : ∀ (w : World) (mg : Str → Option Value) (fa : Addr) (h : Heap), (K w.params).In h → h.Ns mainGlobals mg → mg d.name = some (.ref fa) →
      (∀ (y : Str) (c P : Addr) (r : DefRec), (recsOf q).find? (fun e => e.name == y) = some r → PySem.W.tabIn (K w.params) y = some (c, P) → PySem.W.CodeHd h c P ∧ h.get? P = some { cls := .none, data := .fields #[] }) →
      LamX.LawAtS l w (K w.params) (L2.CX l.prog w) 30 63 "script" mg fa h) :
    PySem.W.WalkO q loose XP YP l.row.toRowW d [] (fun f vs => PySem.call f vs) :=
  walk_tab (n := 63) (k := 30) (x := "script") (CX := fun w => L2.CX l.prog w) hn (by decide) hdf ⟨rfl, by decide, by decide⟩ hY F fun _ _ _ _ _ z => (match z with | ⟨_, _, _, _, _, _, _, _, _, _, _, _, e⟩ => e)
end Ly
open PySem PySem.W PyProof.Rows in
set_option maxRecDepth 100000 in
set_option maxHeartbeats 0 in
theorem PySem.Challenge.cw_lydite_k15_deep_terms_holds : PySem.Challenge.rw_lydite_k15_deep_terms.Holds := by
  w_on; o_law; k_head; (case hw => w_witness2)
  k_fill
  refine Ly.walk (l := PySem.Challenge.rw_lydite_k15_deep_terms) rfl rfl (fun w h Y => PySem.W.kIn_of Y) ?F
  case F =>
    intro w mg fa h KX G hmg hT0
    refine' Ly.all_mk KX G hmg ?a1 ?l1 ?c1 ?k1 ?a2 ?l2 ?c2 ?k2 ?a3 ?l3 ?c3 ?k3 ?a4 ?l4 ?c4 ?k4 ?a5 ?l5 ?c5 ?k5 ?a6 ?l6 ?c6 ?k6 ?a7 ?l7 ?c7 ?k7 ?a8 ?l8 ?c8 ?k8 ?a9 ?l9 ?c9 ?k9 ?a10 ?l10 ?c10 ?k10 ?a11 ?l11 ?c11 ?k11 ?a12 ?l12 ?c12 ?k12 ?a13 ?l13 ?c13 ?k13 ?a14 ?l14 ?c14 ?k14 ?a15 ?l15 ?c15 ?k15 ?a16 ?l16 ?c16 ?k16 ?a17 ?l17 ?c17 ?k17 ?a18 ?l18 ?c18 ?k18 ?a19 ?l19 ?c19 ?k19 ?a20 ?l20 ?c20 ?k20 ?a21 ?l21 ?c21 ?k21 ?a22 ?l22 ?c22 ?k22 ?a23 ?l23 ?c23 ?k23 ?a24 ?l24 ?c24 ?k24 ?a25 ?l25 ?c25 ?k25 ?a26 ?l26 ?c26 ?k26 ?a27 ?l27 ?c27 ?k27 ?a28 ?l28 ?c28 ?k28 ?a29 ?l29 ?c29 ?k29 ?a30 ?l30 ?c30 ?k30 ?a31 ?l31 ?c31 ?k31 ?a32 ?l32 ?c32 ?k32 ?a33 ?l33 ?c33 ?k33 ?a34 ?l34 ?c34 ?k34 ?a35 ?l35 ?c35 ?k35 ?a36 ?l36 ?c36 ?k36 ?a37 ?l37 ?c37 ?k37 ?a38 ?l38 ?c38 ?k38 ?a39 ?l39 ?c39 ?k39 ?a40 ?l40 ?c40 ?k40 ?z_int ?z_list ?z_len ?z_abs ?z_isinstance ?z_tuple ?z_range ?z_zip ?z_reversed ?z_sorted ?z_all ?z_set ?z_str ?z_bool ?z_ValueError ?g_MOST_NODES ?g_MOST_VARIABLE ?g_MOST_LENGTH ?g_LETTERS ?g_DIGITS ?e_PART_COUNTS ?e_LyditeError ?e_TooLarge ?e_NoPlace ?e_BadNames ?y_d_PART_COUNTS ?y_t_LyditeError ?y_h3_LyditeError ?y_x_TooLarge ?y_k_TooLarge ?y_b_TooLarge ?y_t_TooLarge ?y_s0_TooLarge ?y_sv_TooLarge ?y_s1_TooLarge ?y_s3_TooLarge ?y_s5_TooLarge ?y_h1_TooLarge ?y_h2_TooLarge ?y_h3_TooLarge ?y_h4_TooLarge ?y_h7_TooLarge ?y_h5_TooLarge ?y_h6_TooLarge ?y_x_NoPlace ?y_k_NoPlace ?y_b_NoPlace ?y_t_NoPlace ?y_s0_NoPlace ?y_sv_NoPlace ?y_s1_NoPlace ?y_s3_NoPlace ?y_s5_NoPlace ?y_h1_NoPlace ?y_h2_NoPlace ?y_h3_NoPlace ?y_h4_NoPlace ?y_h7_NoPlace ?y_x_BadNames ?y_k_BadNames ?y_b_BadNames ?y_t_BadNames ?y_s0_BadNames ?y_sv_BadNames ?y_s1_BadNames ?y_s3_BadNames ?y_s5_BadNames ?y_h1_BadNames ?y_h2_BadNames ?y_h3_BadNames ?y_h4_BadNames ?y_h7_BadNames ?eT ?lT ?vT ?nT ?rT hT0
    (case e_PART_COUNTS => k_is)
    (case e_LyditeError => k_is)
    (case e_TooLarge => k_is)
    (case e_NoPlace => k_is)
    (case e_BadNames => k_is)
    (case y_d_PART_COUNTS => (refine' Ly.KD.mk ?kl ?kk ?ks ?ke; (case kl => k_is); (case kk => k_keys); (case ks => decide); (case ke => exact ⟨⟨_, rfl⟩, ⟨_, rfl⟩, ⟨⟨_, rfl⟩, ⟨_, rfl⟩, ⟨⟨_, rfl⟩, ⟨_, rfl⟩, True.intro⟩⟩⟩)))
    (case a1 => k_is)
    (case l1 => k_is)
    (case c1 => k_is)
    (case k1 => k_is)
    (case a2 => k_is)
    (case l2 => k_is)
    (case c2 => k_is)
    (case k2 => k_is)
    (case a3 => k_is)
    (case l3 => k_is)
    (case c3 => k_is)
    (case k3 => k_is)
    (case a4 => k_is)
    (case l4 => k_is)
    (case c4 => k_is)
    (case k4 => k_is)
    (case a5 => k_is)
    (case l5 => k_is)
    (case c5 => k_is)
    (case k5 => k_is)
    (case a6 => k_is)
    (case l6 => k_is)
    (case c6 => k_is)
    (case k6 => k_is)
    (case a7 => k_is)
    (case l7 => k_is)
    (case c7 => k_is)
    (case k7 => k_is)
    (case a8 => k_is)
    (case l8 => k_is)
    (case c8 => k_is)
    (case k8 => k_is)
    (case a9 => k_is)
    (case l9 => k_is)
    (case c9 => k_is)
    (case k9 => k_is)
    (case a10 => k_is)
    (case l10 => k_is)
    (case c10 => k_is)
    (case k10 => k_is)
    (case a11 => k_is)
    (case l11 => k_is)
    (case c11 => k_is)
    (case k11 => k_is)
    (case a12 => k_is)
    (case l12 => k_is)
    (case c12 => k_is)
    (case k12 => k_is)
    (case a13 => k_is)
    (case l13 => k_is)
    (case c13 => k_is)
    (case k13 => k_is)
    (case a14 => k_is)
    (case l14 => k_is)
    (case c14 => k_is)
    (case k14 => k_is)
    (case a15 => k_is)
    (case l15 => k_is)
    (case c15 => k_is)
    (case k15 => k_is)
    (case a16 => k_is)
    (case l16 => k_is)
    (case c16 => k_is)
    (case k16 => k_is)
    (case a17 => k_is)
    (case l17 => k_is)
    (case c17 => k_is)
    (case k17 => k_is)
    (case a18 => k_is)
    (case l18 => k_is)
    (case c18 => k_is)
    (case k18 => k_is)
    (case a19 => k_is)
    (case l19 => k_is)
    (case c19 => k_is)
    (case k19 => k_is)
    (case a20 => k_is)
    (case l20 => k_is)
    (case c20 => k_is)
    (case k20 => k_is)
    (case a21 => k_is)
    (case l21 => k_is)
    (case c21 => k_is)
    (case k21 => k_is)
    (case a22 => k_is)
    (case l22 => k_is)
    (case c22 => k_is)
    (case k22 => k_is)
    (case a23 => k_is)
    (case l23 => k_is)
    (case c23 => k_is)
    (case k23 => k_is)
    (case a24 => k_is)
    (case l24 => k_is)
    (case c24 => k_is)
    (case k24 => k_is)
    (case a25 => k_is)
    (case l25 => k_is)
    (case c25 => k_is)
    (case k25 => k_is)
    (case a26 => k_is)
    (case l26 => k_is)
    (case c26 => k_is)
    (case k26 => k_is)
    (case a27 => k_is)
    (case l27 => k_is)
    (case c27 => k_is)
    (case k27 => k_is)
    (case a28 => k_is)
    (case l28 => k_is)
    (case c28 => k_is)
    (case k28 => k_is)
    (case a29 => k_is)
    (case l29 => k_is)
    (case c29 => k_is)
    (case k29 => k_is)
    (case a30 => k_is)
    (case l30 => k_is)
    (case c30 => k_is)
    (case k30 => k_is)
    (case a31 => k_is)
    (case l31 => k_is)
    (case c31 => k_is)
    (case k31 => k_is)
    (case a32 => k_is)
    (case l32 => k_is)
    (case c32 => k_is)
    (case k32 => k_is)
    (case a33 => k_is)
    (case l33 => k_is)
    (case c33 => k_is)
    (case k33 => k_is)
    (case a34 => k_is)
    (case l34 => k_is)
    (case c34 => k_is)
    (case k34 => k_is)
    (case a35 => k_is)
    (case l35 => k_is)
    (case c35 => k_is)
    (case k35 => k_is)
    (case a36 => k_is)
    (case l36 => k_is)
    (case c36 => k_is)
    (case k36 => k_is)
    (case a37 => k_is)
    (case l37 => k_is)
    (case c37 => k_is)
    (case k37 => k_is)
    (case a38 => k_is)
    (case l38 => k_is)
    (case c38 => k_is)
    (case k38 => k_is)
    (case a39 => k_is)
    (case l39 => k_is)
    (case c39 => k_is)
    (case k39 => k_is)
    (case a40 => k_is)
    (case l40 => k_is)
    (case c40 => k_is)
    (case k40 => k_is)
    (case z_int => k_is)
    (case z_list => k_is)
    (case z_len => k_is)
    (case z_abs => k_is)
    (case z_isinstance => k_is)
    (case z_tuple => k_is)
    (case z_range => k_is)
    (case z_zip => k_is)
    (case z_reversed => k_is)
    (case z_sorted => k_is)
    (case z_all => k_is)
    (case z_set => k_is)
    (case z_str => k_is)
    (case z_bool => k_is)
    (case z_ValueError => k_is)
    (case g_MOST_NODES => k_is)
    (case g_MOST_VARIABLE => k_is)
    (case g_MOST_LENGTH => k_is)
    (case g_LETTERS => k_is)
    (case g_DIGITS => k_is)
    (case y_t_LyditeError => k_is)
    (case y_h3_LyditeError => k_is)
    (case y_x_TooLarge => k_exc)
    (case y_k_TooLarge => k_is)
    (case y_b_TooLarge => k_is)
    (case y_t_TooLarge => k_is)
    (case y_s0_TooLarge => k_is)
    (case y_sv_TooLarge => k_is)
    (case y_s1_TooLarge => k_is)
    (case y_s3_TooLarge => k_is)
    (case y_s5_TooLarge => k_is)
    (case y_h1_TooLarge => k_is)
    (case y_h2_TooLarge => k_is)
    (case y_h3_TooLarge => k_is)
    (case y_h4_TooLarge => k_is)
    (case y_h7_TooLarge => k_is)
    (case y_h5_TooLarge => k_is)
    (case y_h6_TooLarge => k_is)
    (case y_x_NoPlace => k_exc)
    (case y_k_NoPlace => k_is)
    (case y_b_NoPlace => k_is)
    (case y_t_NoPlace => k_is)
    (case y_s0_NoPlace => k_is)
    (case y_sv_NoPlace => k_is)
    (case y_s1_NoPlace => k_is)
    (case y_s3_NoPlace => k_is)
    (case y_s5_NoPlace => k_is)
    (case y_h1_NoPlace => k_is)
    (case y_h2_NoPlace => k_is)
    (case y_h3_NoPlace => k_is)
    (case y_h4_NoPlace => k_is)
    (case y_h7_NoPlace => k_is)
    (case y_x_BadNames => k_exc)
    (case y_k_BadNames => k_is)
    (case y_b_BadNames => k_is)
    (case y_t_BadNames => k_is)
    (case y_s0_BadNames => k_is)
    (case y_sv_BadNames => k_is)
    (case y_s1_BadNames => k_is)
    (case y_s3_BadNames => k_is)
    (case y_s5_BadNames => k_is)
    (case y_h1_BadNames => k_is)
    (case y_h2_BadNames => k_is)
    (case y_h3_BadNames => k_is)
    (case y_h4_BadNames => k_is)
    (case y_h7_BadNames => k_is)
    (case eT => exact rfl)
    (case lT => k_is)
    (case vT => exact rfl)
    (case nT => kernel_rfl)
    (case rT => exact rfl)
