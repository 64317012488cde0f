import PyProof.Rows.All
import Wide.All
import OpenK.AllK
import Wide.FinOn
import HandS.ForMost
import HandS.IsInst
import HandS.Style
import HandS.Walk
import HandS.TupMul
import HandS.TupAny
import HandS.Evl
import HandS.Strs
import HandS.SortInts
import PyProof.P3Eq
import HandS.ForExc
import HandS.ExcIs
import HandS.FStr
import HandS.RaiseMore
import KE.GoesMore
import KE.GoesEnum
import HandS.Rev
import HandS.Comp
import HandS.HotCalls
import HandS.ExcCtx
import HandS.SuiteRaise
import HandS.WordsExc
import HandS.TryMany
import HandS.RaiseFrom
import HandS.Dict
import HandS.More
import HandS.Iter
import HandS.CallLocal
import HandS.Conv
import HandS.SetKeys
import HandS.Codes
import PyProof.StrOps2
import HandS.AnyAll
import HandS.EndOwn
import KE.KDictZip
import KE.GoesZip
import HandS.GenList
import HandS.SetFor
import HandS.Text
import PySem.Challenge.RW_lydite_k14_whole_shown_and_read
set_option Elab.async false
set_option linter.all false
set_option maxRecDepth 100000
namespace Ly
open PySem PySem.Spec PyProof.Rows L2 Evl

section
variable {K : PySem.W.Frag} {σ : L2.St} {H H' H0 : Hp} {Q : VK} {D : Ends} {ta tb tc te to : TE} {tA : TA} {t u : TT} {s1 s2 : TS} {g : TG}
theorem w_var {i : Nat} {v : V} (h : σ[i]? = some (some v)) (q : Q v H) : tVar i σ H Q := ⟨v, h, q⟩
theorem w_c {v : V} (q : Q v H) : tC v σ H Q := q
theorem w_op {r : R2} (h : ta σ H fun x H1 => tb σ H1 fun y H2 => r x y H2 Q) : tOp r ta tb σ H Q := h
theorem w_un {r : V → Hp → VK → Prop} (h : ta σ H fun x H1 => r x H1 Q) : tUn r ta σ H Q := h
theorem w_I0 {f : Int → Int → V} {i j : Int} (q : Q (f i j) H) : rI0 f (.int i) (.int j) H Q := ⟨i, j, rfl, rfl, q⟩
theorem w_I {C : Int → Int → Prop} {f : Int → Int → V} {i j : Int} (c : C i j) (q : Q (f i j) H) : rI C f (.int i) (.int j) H Q := ⟨i, j, rfl, rfl, c, q⟩
theorem w_U {f : Int → V} {i : Int} (q : Q (f i) H) : rU f (.int i) H Q := ⟨i, rfl, q⟩
theorem w_eq {x y : V} (s : scal x y = true) (q : Q (.bl (decide (x = y))) H) : rEq x y H Q := ⟨s, q⟩
theorem w_ne {x y : V} (s : scal x y = true) (q : Q (.bl (!decide (x = y))) H) : rNe x y H Q := ⟨s, q⟩
theorem w_isB {a b : Bool} (q : Q (.bl (decide (a = b))) H) : rIsB (.bl a) (.bl b) H Q := ⟨a, b, rfl, rfl, q⟩
theorem w_notB {a b : Bool} (q : Q (.bl (!decide (a = b))) H) : rNotB (.bl a) (.bl b) H Q := ⟨a, b, rfl, rfl, q⟩
theorem w_nil {R : List V → Hp → Prop} (q : R [] H) : tNil σ H R := q
theorem w_cons {R : List V → Hp → Prop} {tr : TA} (h : ta σ H fun x H1 => tr σ H1 fun xs H2 => R (x :: xs) H2) : tCons ta tr σ H R := h
theorem w_tup (h : tA σ H fun xs H1 => xs.length ≤ sizeLine ∧ ∀ p, H1 p = none → Q (.ref p) (upd H1 p (.tup xs))) : tTup tA σ H Q := h
theorem w_lst (h : tA σ H fun xs H1 => xs.length ≤ sizeLine ∧ ∀ p, H1 p = none → Q (.ref p) (upd H1 p (.lst xs))) : tLst tA σ H Q := h
theorem w_cb {r : List V → Hp → VK → Prop} (h : tA σ H fun vs H1 => r vs H1 Q) : tCB r tA σ H Q := h
theorem w_call {sp : Sp} {dvs : List V} {E : XK} (h : tA σ H fun vs H1 => sp (vs ++ dvs) H1 Q E) : tCall sp dvs E tA σ H Q := h
theorem w_isi {x : V} {n : String} {t : Value} {b : Bool} (h : TyX K H x t) (k : PySem.W.kitOne K t (.type n) = some b) (q : Q (.bl b) H) : rIsi K [x, .ty n] H Q :=
  ⟨x, .ty n, t, .type n, b, rfl, .ty n, h, k, q⟩
theorem w_bm {T : String} {r : V → List V → Hp → VK → Prop} (h : to σ H fun x H1 => tyV K T x H1 ∧ tA σ H1 fun xs H2 => r x xs H2 Q) : tBM K T r to tA σ H Q := h
theorem w_bm0 {T : String} {r : V → List V → Hp → VK → Prop} (h : to σ H fun x H1 => tyV K T x H1 ∧ r x [] H1 Q) : tBM0 K T r to σ H Q := h
theorem w_app {l : Addr} {xs : List V} {y : V} (h : H l = some (.lst xs)) (z : xs.length < sizeLine) (q : Q .non (upd H l (.lst (xs ++ [y])))) : rAppend (.ref l) [y] H Q := ⟨l, xs, y, rfl, rfl, h, z, q⟩
theorem w_popA {l : Addr} {xs : List V} {y : V} (h : H l = some (.lst (xs ++ [y]))) (q : Q y (upd H l (.lst xs))) : rPop (.ref l) [] H Q :=
  ⟨l, xs ++ [y], y, rfl, rfl, h, by simp, by rw [List.dropLast_concat]; exact q⟩
theorem w_sadd {w : World} {a : Addr} {k : Int} {S : Int → Bool} {n : Nat} (h : H a = some (SetO w a S n)) (r : n + 1 < 4096) (q : Q .non (upd H a (SetO w a (fun j => S j || decide (j = k)) (if S k = true then n else n + 1)))) : rSAdd w (.ref a) [.int k] H Q := ⟨a, k, S, n, rfl, rfl, h, r, q⟩
theorem w_tsadd {w : World} (h : ta σ H fun x H1 => (∃ a S n, x = V.ref a ∧ H1 a = some (SetO w a S n)) ∧ tA σ H1 fun xs H2 => rSAdd w x xs H2 Q) : tSAdd w ta tA σ H Q := h
theorem w_tsadd1 {w : World} {a : Addr} {S : Int → Bool} {n : Nat} {B : Prop} (h : H a = some (SetO w a S n)) (q : B) : (∃ b S' n', V.ref a = V.ref b ∧ H b = some (SetO w b S' n')) ∧ B := ⟨⟨a, S, n, rfl, h⟩, q⟩
theorem w_ext {l b : Addr} {xs zs : List V} (h : H l = some (.lst xs)) (h2 : H b = some (.lst zs)) (z : xs.length + zs.length ≤ sizeLine) (q : Q .non (upd H l (.lst (xs ++ zs)))) : rExtend (.ref l) [.ref b] H Q := ⟨l, b, xs, zs, rfl, rfl, h, h2, z, q⟩
theorem w_ixL {p : Addr} {xs : List V} {i : Int} {v : V} (h : SqL K H p xs) (a : atI xs i = some v) (q : Q v H) : rIxL K (.ref p) (.int i) H Q := ⟨p, xs, i, v, rfl, rfl, h, a, q⟩
theorem w_ixT {p : Addr} {xs : List V} {i : Int} {v : V} (h : SqT K H p xs) (a : atI xs i = some v) (q : Q v H) : rIxT K (.ref p) (.int i) H Q := ⟨p, xs, i, v, rfl, rfl, h, a, q⟩
theorem w_cat {a b : Addr} {xs ys : List V} (h : H a = some (.lst xs)) (h2 : H b = some (.lst ys)) (z : xs.length + ys.length ≤ sizeLine) (q : ∀ p, H p = none → Q (.ref p) (upd H p (.lst (xs ++ ys)))) : rCat (.ref a) (.ref b) H Q := ⟨a, b, xs, ys, rfl, rfl, h, h2, z, q⟩
theorem w_test {R : Bool → Hp → Prop} (h : te σ H fun x H1 => ∃ k, x = .bl k ∧ R k H1) : tTest te σ H R := h
theorem w_tB {R : Bool → Hp → Prop} (h : te σ H fun x H1 => ∃ k, x = .bl k ∧ R k H1) : tB te σ H R := h
theorem w_bl {A : Bool → Prop} {k : Bool} (h : A k) : ∃ c, V.bl k = .bl c ∧ A c := ⟨k, rfl, h⟩
theorem w_and {R : Bool → Hp → Prop} (h : t σ H fun c H1 => if c = true then u σ H1 R else R false H1) : tAnd t u σ H R := h
theorem w_or {R : Bool → Hp → Prop} (h : t σ H fun c H1 => if c = true then R true H1 else u σ H1 R) : tOr t u σ H R := h
theorem w_not {R : Bool → Hp → Prop} (h : t σ H fun c H1 => R (!c) H1) : tNot t σ H R := h
theorem w_andV (h : ta σ H fun x H1 => ∃ c, x = .bl c ∧ if c = true then tb σ H1 Q else Q (.bl false) H1) : tAndV ta tb σ H Q := h
theorem w_orV (h : ta σ H fun x H1 => ∃ c, x = .bl c ∧ if c = true then Q (.bl true) H1 else tb σ H1 Q) : tOrV ta tb σ H Q := h
theorem w_notV (h : ta σ H fun x H1 => ∃ c, x = .bl c ∧ Q (.bl (!c)) H1) : tNotV ta σ H Q := h
theorem w_ifE (h : t σ H fun c H1 => if c = true then ta σ H1 Q else tb σ H1 Q) : tIf t ta tb σ H Q := h
theorem w_ch {r r' : R2} (h : ta σ H fun x H1 => tb σ H1 fun y H2 => r x y H2 fun z H3 => ∃ k, z = .bl k ∧ (if k = true then tc σ H3 fun w' H4 => r' y w' H4 Q else Q (.bl false) H3)) : tChain r r' ta tb tc σ H Q := h
-- statements
theorem sl_of {t : TS} {D : Ends} {σ σ2 : L2.St} {H : Hp} (e : σ = σ2) (h : t D σ2 H) : t D σ H := by
  rw [e]
  exact h
theorem w_seq (h : s1 { D with nx := s2 D } σ H) : tSeq s1 s2 D σ H := h
theorem w_cut {M : L2.St → Hp → Prop} (h : s1 { D with nx := M } σ H) (q : ∀ σ' H', M σ' H' → s2 D σ' H') : tCut s1 s2 D σ H := ⟨M, h, q⟩
theorem w_while (W : Nat → L2.St → Hp → Prop) (m0 : Nat) (h0 : W m0 σ H) (hs : ∀ m σ H, W m σ H → t σ H fun b H1 => if b = true then ∃ N : L2.St → Hp → Prop, (∀ σ' H', N σ' H' → ∃ m', m' < m ∧ W m' σ' H') ∧ s1 { D with nx := N, ct := N, bk := D.nx } σ H1 else D.nx σ H1) : tWhile t s1 D σ H := ⟨W, ⟨m0, h0⟩, hs⟩
theorem w_truL {l : Addr} {xs : List V} {A : Bool → Prop} (h : SqL K H l xs) (q : A (!xs.isEmpty)) : ∃ k, TruV K (.ref l) H k ∧ A k := ⟨_, .inl ⟨xs, h, rfl⟩, q⟩
theorem w_next (h : D.nx σ H) : tNext D σ H := h
theorem w_drop (h : te σ H fun _ H1 => D.nx σ H1) : tDrop te D σ H := h
theorem w_ret (h : te σ H D.rt) : tRet te D σ H := h
theorem w_asg (h : te σ H fun x H1 => g x σ H1 D.nx) : tAsg te g D σ H := h
theorem w_if (h : t σ H fun b H1 => if b = true then s1 D σ H1 else s2 D σ H1) : tIfS t s1 s2 D σ H := h
theorem w_name {v : V} {i : Nat} {R : L2.St → Hp → Prop} (h : R (σ.set i (some v)) H) : gName i v σ H R := h
theorem w_sub {v : V} {st : TSet} {R : L2.St → Hp → Prop} (h : ta σ H fun o H1 => tb σ H1 fun i H2 => st o i v H2 fun H3 => R σ H3) : gSub ta tb st v σ H R := h
theorem w_setL {R : Hp → Prop} {p : Addr} {xs : List V} {k : Int} {j : Nat} {v : V} (h : H p = some (.lst xs)) (a : ixN xs.length k = some j) (q : R (upd H p (.lst (xs.set j v)))) : rSetL (.ref p) (.int k) v H R := ⟨p, xs, k, j, rfl, rfl, h, a, q⟩
theorem w_aug {i : Nat} {x : V} {ti : TIp} (h : σ[i]? = some (some x)) (q : te σ H fun y H1 => ti x y H1 fun z H2 => D.nx (σ.set i (some z)) H2) : tAug i te ti D σ H := ⟨x, h, q⟩
theorem w_ipI {f : Int → Int → Int} {i j : Int} (q : Q (.int (f i j)) H) : ipI f (.int i) (.int j) H Q := ⟨i, j, rfl, rfl, q⟩
end

def ForB (J : It) (g : TG) (tb : TS) (D : Ends) (σ : L2.St) (H1 : Hp) : Prop := ∃ W : Nat → Nat → L2.St → Hp → Prop, (∃ m, W 0 m σ H1) ∧ ∀ i m σ H, W i m σ H →
  (J.stop i H ∧ D.nx σ H) ∨ (J.go i H ∧ ∃ N : L2.St → Hp → Prop, (∀ σ' H', N σ' H' → ∃ m', m' < m ∧ W (i + 1) m' σ' H') ∧ ∀ x H', J.yld i H x H' → g x σ H' fun σ2 H2 => tb { D with nx := N, ct := N, bk := D.nx } σ2 H2)
def LcB (J : It) (g : TG) (tt : TT) (te : TE) (vs : List Nat) (Q : VK) (σ : L2.St) (H1 : Hp) (Dl : Addr) : Prop := ∃ W : Nat → Nat → Hp → Prop, (∃ m, W 0 m (upd H1 Dl (.lst []))) ∧ ∀ i m H, W i m H →
  (J.stop i H ∧ Q (.ref Dl) H) ∨ (J.go i H ∧ ∃ Nx : Hp → Prop, (∀ H', Nx H' → ∃ m', m' < m ∧ W (i + 1) m' H') ∧ ∀ x H', J.yld i H x H' → g x (wipe σ vs) H' fun σ2 H2 => wipe σ2 vs = wipe σ vs ∧ tt σ2 H2 fun b H3 =>
    if b = true then te σ2 H3 fun y H4 => ∃ acc, H4 Dl = some (.lst acc) ∧ acc.length < sizeLine ∧ Nx (upd H4 Dl (.lst (acc ++ [y]))) else Nx H3)
section
variable {K : PySem.W.Frag} {σ : L2.St} {H : Hp} {D : Ends} {ta tb : TE} {tA : TA} {g : TG} {s1 : TS} {wi : TI} {R : It → Hp → Prop}
theorem w_for (h : wi σ H fun J H1 => ForB J g s1 D σ H1) : tFor wi g s1 D σ H := h
theorem w_iL (h : ta σ H fun x H1 => ∃ a, x = .ref a ∧ (∃ xs, SqL K H1 a xs) ∧ R (Itl K a) H1) : iList K ta σ H R := h
theorem w_iL1 {a : Addr} {xs : List V} {B : Addr → Prop} (h : SqL K H a xs) (q : B a) : ∃ b, V.ref a = .ref b ∧ (∃ ys, SqL K H b ys) ∧ B b := ⟨a, rfl, ⟨xs, h⟩, q⟩
theorem w_iT (h : ta σ H fun x H1 => ∃ a, x = .ref a ∧ (∃ xs, SqT K H1 a xs) ∧ R (Itt K a) H1) : iTup K ta σ H R := h
theorem w_iT1 {a : Addr} {xs : List V} {B : Addr → Prop} (h : SqT K H a xs) (q : B a) : ∃ b, V.ref a = .ref b ∧ (∃ ys, SqT K H b ys) ∧ B b := ⟨a, rfl, ⟨xs, h⟩, q⟩
theorem w_iR (h : tA σ H fun vs H1 => ∃ j : Int, vs = [.int j] ∧ -(2 ^ 62) ≤ j ∧ j < 2 ^ 62 ∧ R (Itr 0 j.toNat) H1) : iRng1 tA σ H R := h
theorem w_iR1 {j : Int} {B : Int → Prop} (h1 : -(2 ^ 62) ≤ j) (h2 : j < 2 ^ 62) (q : B j) : ∃ k, [V.int j] = [V.int k] ∧ -(2 ^ 62) ≤ k ∧ k < 2 ^ 62 ∧ B k := ⟨j, rfl, h1, h2, q⟩
theorem w_yes {R : Bool → Hp → Prop} (h : R true H) : tYes σ H R := h
theorem w_wipe {σ2 : L2.St} {vs : List Nat} {B : Prop} (e : wipe σ2 vs = wipe σ vs) (q : B) : wipe σ2 vs = wipe σ vs ∧ B := ⟨e, q⟩
theorem w_lc {tt : TT} {te : TE} {vs : List Nat} {Q : VK} (h : wi σ H fun J H1 => ∀ Dl, H1 Dl = none → LcB J g tt te vs Q σ H1 Dl) : tLc wi g tt te vs σ H Q := h
end

def Fr (s : Addr) (H H' : Hp) : Prop := ∀ a o, a ≠ s → H a = some o → H' a = some o
section
variable {K : PySem.W.Frag} {H H' H0 H1 H2 : Hp} {a p s : Addr} {o : HO} {xs ys : List V}
theorem Fr.refl (s : Addr) (H : Hp) : Fr s H H := fun _ _ _ h => h
theorem Fr.ex (e : Ex H H') : Fr s H H' := fun a o _ h => e a o h
theorem Fr.trans (a : Fr s H H1) (b : Fr s H1 H2) : Fr s H H2 := fun x o n h => b x o n (a x o n h)
theorem Fr.new (e : Fr s H H') (h : H' p = none) : Fr s H (upd H' p o) := fun x u n ha => by
  have q := e x u n ha
  rw [upd_ne (ne_of_none q h)]
  exact q
theorem Fr.mut (e : Fr s H H') (h : H p = none) : Fr s H (upd H' p o) := fun x u n ha => by
  rw [upd_ne (ne_of_none ha h)]
  exact e x u n ha
theorem Fr.own (e : Fr s H H') : Fr s H (upd H' s o) := fun x u n ha => by
  rw [upd_ne n]
  exact e x u n ha
theorem Fr.free (e : Fr s H H') (hs : H s = some o) (h : H' p = none) (h2 : p ≠ s) : H p = none := by
  cases q : H p with
  | none => rfl
  | some u =>
    rw [e p u h2 q] at h
    cases h
theorem fr_t (e : Fr s H H') (hs : H s = some (.lst ys)) (h : SqT K H a xs) : SqT K H' a xs := by
  rcases h with (h | ⟨ob, h⟩) | h
  · exact .inl (.inl (e a _ (fun z => by rw [z, hs] at h; cases h) h))
  · exact .inl (.inr ⟨ob, e a _ (fun z => by rw [z, hs] at h; cases h) h⟩)
  · exact .inr h
theorem ex_upd (e : Ex H H') (h : H p = none) : Ex H (upd H' p o) := e.mut h
theorem ex_new (e : Ex H H') (h : H' p = none) : Ex H (upd H' p o) := e.trans (Ex.new h)
theorem ly_at (e : Ex H H') (h : H a = some o) : H' a = some o := e a o h
theorem ly_atF (e : Fr s H H') (n : a ≠ s) (h : H a = some o) : H' a = some o := e a o n h
theorem ly_mulL {i j : Int} (h1 : -(2 ^ 64) < i) (h2 : i < 2 ^ 64) : CMul i j := .inl ⟨h1, h2⟩
theorem ly_mulR {i j : Int} (h1 : -(2 ^ 64) < j) (h2 : j < 2 ^ 64) : CMul i j := .inr ⟨h1, h2⟩
end
section
variable {K : PySem.W.Frag} {H : Hp} {Q : VK} {p : Addr} {xs : List V}
theorem w_int {i : Int} {A : Int → Prop} {B : Prop} (q : A i) : (∃ j, [V.int i] = [V.int j] ∧ A j) ∨ B := .inl ⟨i, rfl, q⟩
theorem w_intB {k : Bool} {A : Prop} {B : Bool → Prop} (q : B k) : A ∨ ∃ c, [V.bl k] = [V.bl c] ∧ B c := .inr ⟨k, rfl, q⟩
theorem w_abs {i : Int} {A : Int → Prop} (q : A i) : ∃ j, [V.int i] = [V.int j] ∧ A j := ⟨i, rfl, q⟩
theorem w_lenL {A : Addr → List V → Prop} (h : SqL K H p xs) (q : A p xs) : ∃ a ys, [V.ref p] = [V.ref a] ∧ (SqL K H a ys ∨ SqT K H a ys) ∧ A a ys := ⟨p, xs, rfl, .inl h, q⟩
theorem w_lenT {A : Addr → List V → Prop} (h : SqT K H p xs) (q : A p xs) : ∃ a ys, [V.ref p] = [V.ref a] ∧ (SqL K H a ys ∨ SqT K H a ys) ∧ A a ys := ⟨p, xs, rfl, .inr h, q⟩
theorem w_tupL {A B : Addr → List V → Prop} (h : SqL K H p xs) (q : A p xs) : ∃ a ys, [V.ref p] = [V.ref a] ∧ ((SqL K H a ys ∧ A a ys) ∨ (SqT K H a ys ∧ B a ys)) := ⟨p, xs, rfl, .inl ⟨h, q⟩⟩
theorem w_tupT {A B : Addr → List V → Prop} (h : SqT K H p xs) (q : B p xs) : ∃ a ys, [V.ref p] = [V.ref a] ∧ ((SqL K H a ys ∧ A a ys) ∨ (SqT K H a ys ∧ B a ys)) := ⟨p, xs, rfl, .inr ⟨h, q⟩⟩
theorem w_nT {A B : Prop} (h : B) : if (!true) = true then A else B := iteF h
theorem w_nF {A B : Prop} (h : A) : if (!false) = true then A else B := iteT h
theorem w_br {c A B : Prop} [Decidable c] (h1 : c → A) (h2 : ¬ c → B) : if decide c = true then A else B := ite2 (fun h => h1 (of_decide_eq_true h)) (fun h => h2 (fun z => h (decide_eq_true z)))
theorem w_deIS {i : Int} {x : Str} {A B : Prop} (h : B) : if decide (V.int i = V.str x) = true then A else B := iteF h
theorem w_deSI {i : Int} {x : Str} {A B : Prop} (h : B) : if decide (V.str x = V.int i) = true then A else B := iteF h
theorem w_deST {x y : Str} {A B : Prop} (e : x = y) (h : A) : if decide (V.str x = V.str y) = true then A else B := by
  rw [decide_eq_true (by rw [e])]
  exact iteT h
theorem w_deSF {x y : Str} {A B : Prop} (e : x ≠ y) (h : B) : if decide (V.str x = V.str y) = true then A else B := by
  rw [decide_eq_false (fun z => e (V.str.inj z))]
  exact iteF h
theorem w_deISn {i : Int} {x : Str} {A B : Prop} (h : A) : if (!decide (V.int i = V.str x)) = true then A else B := iteT h
theorem w_deSTn {x y : Str} {A B : Prop} (e : x = y) (h : B) : if (!decide (V.str x = V.str y)) = true then A else B := by
  rw [decide_eq_true (by rw [e])]
  exact iteF h
theorem w_deSFn {x y : Str} {A B : Prop} (e : x ≠ y) (h : A) : if (!decide (V.str x = V.str y)) = true then A else B := by
  rw [decide_eq_false (fun z => e (V.str.inj z))]
  exact iteT h
theorem w_neS {x : V} {A B : Prop} (h : B) : if (!decide (x = x)) = true then A else B := by
  rw [decide_eq_true rfl]
  exact iteF h
theorem w_eqS {x : V} {A B : Prop} (h : A) : if decide (x = x) = true then A else B := by
  rw [decide_eq_true rfl]
  exact iteT h
theorem w_neSb {x : Bool} {A B : Prop} (h : B) : if (!decide (x = x)) = true then A else B := by
  rw [decide_eq_true rfl]
  exact iteF h
theorem w_eqSb {x : Bool} {A B : Prop} (h : A) : if decide (x = x) = true then A else B := by
  rw [decide_eq_true rfl]
  exact iteT h
theorem w_neG {α : Type} {x : α} [Decidable (x = x)] {A B : Prop} (h : B) : if (!decide (x = x)) = true then A else B := by
  rw [decide_eq_true rfl]
  exact iteF h
theorem w_eqG {α : Type} {x : α} [Decidable (x = x)] {A B : Prop} (h : A) : if decide (x = x) = true then A else B := by
  rw [decide_eq_true rfl]
  exact iteT h
theorem w_nn {B : Prop} (q : B) : V.non = V.non ∧ B := ⟨rfl, q⟩
theorem w_nnT {A B : Prop} (h : B) : if (!decide (V.non = V.non)) = true then A else B := iteF h
theorem w_nnR {a : Addr} {A B : Prop} (h : A) : if (!decide (V.ref a = V.non)) = true then A else B := iteT h
theorem w_brI {i j : Int} {A B : Prop} (h1 : i = j → A) (h2 : i ≠ j → B) : if decide (V.int i = V.int j) = true then A else B := w_br (fun h => h1 (V.int.inj h)) (fun h => h2 (fun z => h (by rw [z])))
theorem w_brS {i j : Str} {A B : Prop} (h1 : i = j → A) (h2 : i ≠ j → B) : if decide (V.str i = V.str j) = true then A else B := w_br (fun h => h1 (V.str.inj h)) (fun h => h2 (fun z => h (by rw [z])))
theorem w_disp {R : Addr → Prop} (z : xs.length ≤ sizeLine) (q : ∀ p, H p = none → R p) : xs.length ≤ sizeLine ∧ ∀ p, H p = none → R p := ⟨z, q⟩
theorem w_tyL {R : Prop} (h : SqL K H p xs) (q : R) : tyV K "list" (.ref p) H ∧ R := ⟨.inl ⟨rfl, xs, h⟩, q⟩
end
section
variable {K : PySem.W.Frag} {σ : L2.St} {H : Hp} {Q : VK} {te : TE} {tA : TA}
theorem w_js {ts : List TE} {acc : Str} {R : Str → Hp → Prop} (h : te σ H fun x H1 => ∃ y : Str, x = .str y ∧ (acc ++ y).length ≤ sizeLine ∧ tJs ts (acc ++ y) σ H1 R) : tJs (te :: ts) acc σ H R := h
theorem w_jsn {acc : Str} {R : Str → Hp → Prop} (h : R acc H) : tJs [] acc σ H R := h
theorem w_js1 {z acc : Str} {A : Str → Prop} (hl : (acc ++ z).length ≤ sizeLine) (q : A z) : ∃ y : Str, V.str z = .str y ∧ (acc ++ y).length ≤ sizeLine ∧ A y := ⟨z, rfl, hl, q⟩
theorem w_fmt (h : te σ H fun x H1 => (∃ y : Str, x = .str y ∧ y.length ≤ sizeLine ∧ Q (.str y) H1) ∨ ∃ i : Int, x = .int i ∧ i.natAbs.log2 < 1920 ∧ Q (.str (toString i)) H1) : tFmt te σ H Q := h
theorem w_fmt1 {i : Int} {A : Prop} {B : Int → Prop} (hl : i.natAbs.log2 < 1920) (q : B i) : A ∨ ∃ j : Int, V.int i = .int j ∧ j.natAbs.log2 < 1920 ∧ B j := .inr ⟨i, rfl, hl, q⟩
theorem w_callS {sp : Sp} {E : L2.St → XK} (h : tA σ H fun vs H1 => sp vs H1 Q (E σ)) : tCallS sp E tA σ H Q := h
end
section
variable {K : PySem.W.Frag} {H H' : Hp} {Q : VK} {a b p : Addr} {xs ys : List V}
theorem w_catA (h : SqT K H a xs) (h2 : SqT K H b ys) (z : xs.length + ys.length ≤ sizeLine) (q : ∀ p H', Ex H H' → SqT K H' p (xs ++ ys) → Q (.ref p) H') : rCatA K (.ref a) (.ref b) H Q :=
  ⟨a, b, xs, ys, rfl, rfl, h, h2, z, fun e => q b H (Ex.refl H) (by rw [e]; exact h2), fun _ e => q a H (Ex.refl H) (by rw [e, List.append_nil]; exact h), fun _ _ p hp => q p _ (Ex.new hp) (SqT.of upd_same)⟩
theorem w_slA {lo hi : Option Int} (h : SqT K H a xs) (q : ∀ p H', Ex H H' → SqT K H' p (cutV xs lo hi) → Q (.ref p) H') : rSlA K (.ref a) lo hi H Q := by
  refine ⟨a, xs, rfl, h, fun e => q a H (Ex.refl H) ?_, fun _ p hp => q p _ (Ex.new hp) (SqT.of upd_same)⟩
  unfold cutV
  rw [e.1, e.2]
  simpa using h
theorem tyx_t (h : SqT K H a xs) : TyX K H (.ref a) (.type "tuple") := by
  rcases h with (h | ⟨o, h⟩) | ⟨o, _, _, h, c, _⟩
  · exact .base (.tup h)
  · exact .fTuple h
  · exact .kTuple h c
theorem tyx_l (h : SqL K H a xs) : TyX K H (.ref a) (.type "list") := by
  rcases h with (h | ⟨o, h⟩) | ⟨o, _, _, h, c, _⟩
  · exact .base (.lst h)
  · exact .base (.frz h)
  · exact .kList h c
end
set_option maxHeartbeats 4000000 in
theorem mul_one_meets (l : Addr) (items : Array Value) (n : Nat) (di : Option Addr) (ss : Array (Option Value)) (u : Tok) :
    Meets (Builtin.«tuple.__mul__» ⟨[.ref l, .int 1 u], []⟩) (fun _ R s => s.heap.get? l = some { cls := .type "tuple", dict := di, data := .seq items n, slots := ss } ∧ R (.ok (.ret (Value.ref l))) s) :=
  .of_wp fun prog w A R s ⟨hl, h⟩ => by
    obtain ⟨hp, g, d, tk, os⟩ := s
    have idx := AutoSeq1.idx_int
    have c1 : (items.isEmpty || (1 : Int) == 1) = true := by simp
    have c0 : (decide ((1 : Int) < -(2 ^ 63)) || decide ((1 : Int) ≥ 2 ^ 63)) = false := by decide
    wp_walk using wpAny_loadPart' hl
    repeat (first
      | (refine wpAny_ite_false (decide_eq_false (fun z => by rw [c0] at z; cases z)) ?_; wp_walk using wpAny_loadPart' hl)
      | (refine wpAny_ite_true (decide_eq_true (by simp)) ?_; wp_walk using wpAny_loadPart' hl))
    exact ⟨_, rfl, h⟩
set_option maxHeartbeats 4000000 in
theorem mul_zero_meets (l : Addr) (items : Array Value) (n : Nat) (di : Option Addr) (ss : Array (Option Value)) (u : Tok) (em : items.isEmpty = false) :
    Meets (Builtin.«tuple.__mul__» ⟨[.ref l, .int 0 u], []⟩) (fun _ R s => s.heap.get? l = some { cls := .type "tuple", dict := di, data := .seq items n, slots := ss } ∧
      R (.ok (.ret (Value.ref s.heap.objs.size))) { s with heap := s.heap.push { cls := Value.type "tuple", data := Data.seq #[] }, toks := s.toks }) :=
  .of_wp fun prog w A R s ⟨hl, h⟩ => by
    obtain ⟨hp, g, d, tk, os⟩ := s
    have idx := AutoSeq1.idx_int
    have c1 : (items.isEmpty || (0 : Int) == 1) = false := by rw [em]; rfl
    have c2 : (decide ((0 : Int) ≤ 0) || items.isEmpty) = true := by simp
    have c0 : (decide ((0 : Int) < -(2 ^ 63)) || decide ((0 : Int) ≥ 2 ^ 63)) = false := by decide
    wp_walk using wpAny_loadPart' hl
    repeat (first
      | (refine wpAny_ite_false (decide_eq_false (fun z => by rw [c0] at z; cases z)) ?_; wp_walk using wpAny_loadPart' hl)
      | (refine wpAny_ite_false (decide_eq_false (fun z => by rw [c1] at z; cases z)) ?_; wp_walk using wpAny_loadPart' hl)
      | (refine wpAny_ite_true (decide_eq_true c2) ?_; wp_walk using wpAny_loadPart' hl))
    exact ⟨_, rfl, h⟩
def rRepB (K : PySem.W.Frag) : R2 := fun x y H Q => ∃ (l : Addr) (k : Int) (xs : List V), x = .ref l ∧ y = .int k ∧ SqT K H l xs ∧ xs ≠ [] ∧ 0 ≤ k ∧ k ≤ 3000 ∧ xs.length ≤ 1000 ∧ (k = 1 → Q (.ref l) H) ∧ (k ≠ 1 → ∀ p, H p = none → Q (.ref p) (upd H p (.tup (List.replicate k.toNat xs).flatten)))
theorem op_repB {X : Cx} : OpR X (binaryOp .Mult) (rRepB X.K) := by
  intro pins s σ H x y v u Q I rx ry ⟨l, k, xs, ex, ey, hT, hne, k0, k3, hz, q1, q⟩
  subst ex ey
  cases rx
  obtain ⟨tt, eu⟩ := ry
  subst eu
  obtain ⟨its, r, ⟨⟨cl, di, da, ss⟩, hob, hcl, n, hda⟩, _⟩ := I.tuple hT
  simp only at hcl hda
  subst hcl hda
  have el : its.length = xs.length := r.length.symm
  have es : its.toArray.size = xs.length := by rw [List.size_toArray, el]
  have pos : 0 < xs.length := List.length_pos_iff.mpr hne
  have em : its.toArray.isEmpty = false := by
    rw [Array.isEmpty_eq_false_iff_exists_mem]
    obtain ⟨a0, ha0⟩ := List.exists_mem_of_length_pos (l := its) (by omega)
    exact ⟨a0, by simpa using ha0⟩
  have big : k.toNat * xs.length ≤ 3000 * 1000 := Nat.mul_le_mul (by omega) hz
  have prod : ((its.toArray.size : Nat) : Int) * k = ((k.toNat * xs.length : Nat) : Int) := by
    rw [es, Int.natCast_mul, Int.toNat_of_nonneg (by omega), Int.mul_comm]
  have fl : (List.replicate k.toNat its).flatten.length = k.toNat * xs.length := by rw [PyProof.Rows.lm_len_rep_flat, el]
  have sl := sizeLine_eq
  have d0 : (decide (k < -(2 ^ 63)) || decide (k ≥ 2 ^ 63)) = false := by simp; omega
  refine wpAny_binaryOp_repeat_ref (T := "tuple") (U := "int") (by decide) ⟨_, hob, rfl⟩ (fun z => typeIs_int z k tt) noFill_tuple_mul F.fills_int_mul F.slot_int_rmul repeat_tuple F.slot_int_index.lookup (call_meets F.slot_int_rmul (typeIs_int s k tt) F.entry_int_rmul (F.args_int_rmul_2 _ _)
    (int_rmul_tuple k tt l its.toArray n di ss) ⟨hob, rfl, ⟨_, hob, rfl⟩, ?_⟩)
  have made : ∀ (xs2 : List V) (us : List Value), Vals xs2 us → xs2.length ≤ 3000000 → (∀ p, H p = none → Q (.ref p) (upd H p (.tup xs2))) → EP X pins σ Q (.ref s.heap.objs.size) { s with heap := s.heap.push { cls := Value.type "tuple", data := Data.seq us.toArray }, toks := s.toks } := fun xs2 us rv hlen q2 =>
    ⟨.ref s.heap.objs.size, _, I.laid (t' := s.toks) (o := .tup xs2) (fun _ _ z => Heap.get?_push_of_some _ z) (Nat.le_refl _) ⟨by omega, _, rv, IsTup.new _ _⟩, rfl, q2 _ (I.hok.fresh (Nat.le_refl _))⟩
  by_cases h1 : k = 1
  · subst h1
    exact call_meets F.slot_tuple_mul ⟨_, hob, rfl⟩ F.entry_tuple_mul (F.args_tuple_mul_2 _ _) (mul_one_meets l its.toArray n di ss tt) ⟨hob, .ref l, H, I, rfl, q1 rfl⟩
  · by_cases h2 : k = 0
    · subst h2
      exact call_meets F.slot_tuple_mul ⟨_, hob, rfl⟩ F.entry_tuple_mul (F.args_tuple_mul_2 _ _) (mul_zero_meets l its.toArray n di ss tt em) ⟨hob, made [] [] .nil (by simp) (q h1)⟩
    · have d1 : (its.toArray.isEmpty || k == 1) = false := by rw [em]; simp; omega
      have d2 : (decide (k ≤ 0) || its.toArray.isEmpty) = false := by rw [em]; simp; omega
      have d4 : Builtin.Tuple.tupleTooMany (((its.toArray.size : Nat) : Int) * k) = false := by
        rw [prod]
        unfold Builtin.Tuple.tupleTooMany
        exact decide_eq_false (by omega)
      have tm : Meets _ _ := tuple_mulW l its.toArray n di ss k tt d0 d1 d2 (by rw [prod]; omega) d4 (by rw [size_rep, List.size_toArray, fl]; omega)
      refine call_meets F.slot_tuple_mul ⟨_, hob, rfl⟩ F.entry_tuple_mul (F.args_tuple_mul_2 _ _) tm ⟨hob, ?_⟩
      rw [size_rep]
      exact made _ _ (r.rep k.toNat) (by rw [PyProof.Rows.lm_len_rep_flat]; omega) (q h1)
theorem w_repB {K : PySem.W.Frag} {H : Hp} {Q : VK} {l : Addr} {k : Int} {xs : List V} (h : SqT K H l xs) (hne : xs ≠ []) (h2 : 0 ≤ k) (h3 : k ≤ 3000) (hz : xs.length ≤ 1000) (q : ∀ p H', Ex H H' → SqT K H' p (List.replicate k.toNat xs).flatten → Q (.ref p) H') : rRepB K (.ref l) (.int k) H Q := by
  refine ⟨l, k, xs, rfl, rfl, h, hne, h2, h3, hz, fun e => q l H (Ex.refl H) ?_, fun _ p hp => q p _ (Ex.new hp) (SqT.of upd_same)⟩
  subst e
  simpa using h
section
variable {X : Cx} {K : PySem.W.Frag}
end
def Kp (H H' : Hp) : Prop := (∀ a xs, H a = some (.lst xs) → ∃ ys, H' a = some (.lst ys)) ∧ ∀ a xs, H a = some (.tup xs) → H' a = some (.tup xs)
section
variable {K : PySem.W.Frag} {H H' H1 : Hp} {a s l : Addr} {xs ys : List V}
theorem Kp.refl (H : Hp) : Kp H H := ⟨fun _ xs h => ⟨xs, h⟩, fun _ _ h => h⟩
theorem Kp.trans (e : Kp H H1) (f : Kp H1 H') : Kp H H' := ⟨fun a xs h => by
  obtain ⟨ys, h1⟩ := e.1 a xs h
  exact f.1 a ys h1, fun a xs h => f.2 a xs (e.2 a xs h)⟩
theorem Kp.ex (e : Ex H H') : Kp H H' := ⟨fun a xs h => ⟨xs, e a _ h⟩, fun a xs h => e a _ h⟩
theorem Kp.fr (e : Fr s H H') (h : H s = some (.lst xs)) (h2 : H' s = some (.lst ys)) : Kp H H' := ⟨fun a zs q => by
  by_cases z : a = s
  · rw [z]
    exact ⟨_, h2⟩
  · exact ⟨_, e a _ z q⟩, fun a zs q => e a _ (fun z => by rw [z, h] at q; cases q) q⟩
theorem Kp.put (h : H l = some (.lst xs)) : Kp H (upd H l (.lst ys)) := ⟨fun a zs q => by
  by_cases z : a = l
  · rw [z]
    exact ⟨_, upd_same⟩
  · exact ⟨zs, by rw [upd_ne z]; exact q⟩, fun a zs q => by
  rw [upd_ne (fun z => by rw [z, h] at q; cases q)]
  exact q⟩
/-- the values of the law that asks is_term -/
inductive Kd (H : Hp) : V → Prop
  | int (i : Int) : Kd H (.int i)
  | str (x : Str) : Kd H (.str x)
  | bl (b : Bool) : Kd H (.bl b)
  | non : Kd H .non
  | lst {a : Addr} {xs : List V} (h : H a = some (.lst xs)) : Kd H (.ref a)
  | tup {a : Addr} {xs : List V} (h : H a = some (.tup xs)) : Kd H (.ref a)
theorem Kd.mono {v : V} (h : Kd H v) (e : Kp H H') : Kd H' v := by
  cases h with
  | int i => exact .int i
  | str x => exact .str x
  | bl b => exact .bl b
  | non => exact .non
  | lst h =>
    obtain ⟨ys, h⟩ := e.1 _ _ h
    exact .lst h
  | tup h => exact .tup (e.2 _ _ h)
end
theorem Kd.ty {H : Hp} {v : V} (h : Kd H v) (K : PySem.W.Frag) : ∃ n, TyX K H v (.type n) ∧ n = (match v with | .int _ => "int" | .str _ => "str" | .bl _ => "bool" | .non => "NoneType" | _ => n) := by
  cases h with
  | int i => exact ⟨_, .base (.int i), rfl⟩
  | str i => exact ⟨_, .base (.str i), rfl⟩
  | bl i => exact ⟨_, .base (.bl i), rfl⟩
  | non => exact ⟨_, .base .non, rfl⟩
  | lst h => exact ⟨_, .base (.lst h), rfl⟩
  | tup h => exact ⟨_, .base (.tup h), rfl⟩
theorem all_cons {H : Hp} {v : V} {xs : List V} (h : Kd H v) (t : ∀ x ∈ xs, Kd H x) : ∀ x ∈ v :: xs, Kd H x := fun x hx => by
  rcases List.mem_cons.mp hx with e | e
  · rw [e]
    exact h
  · exact t x e
section
variable {K : PySem.W.Frag}
theorem kit_int_int : PySem.W.kitOne K (.type "int") (.type "int") = some true := kit_ty (by decide +kernel)
theorem kit_int_str : PySem.W.kitOne K (.type "int") (.type "str") = some false := kit_ty (by decide +kernel)
theorem kit_int_bool : PySem.W.kitOne K (.type "int") (.type "bool") = some false := kit_ty (by decide +kernel)
theorem kit_int_tuple : PySem.W.kitOne K (.type "int") (.type "tuple") = some false := kit_ty (by decide +kernel)
theorem kit_int_list : PySem.W.kitOne K (.type "int") (.type "list") = some false := kit_ty (by decide +kernel)
theorem kit_str_int : PySem.W.kitOne K (.type "str") (.type "int") = some false := kit_ty (by decide +kernel)
theorem kit_str_str : PySem.W.kitOne K (.type "str") (.type "str") = some true := kit_ty (by decide +kernel)
theorem kit_str_bool : PySem.W.kitOne K (.type "str") (.type "bool") = some false := kit_ty (by decide +kernel)
theorem kit_str_tuple : PySem.W.kitOne K (.type "str") (.type "tuple") = some false := kit_ty (by decide +kernel)
theorem kit_str_list : PySem.W.kitOne K (.type "str") (.type "list") = some false := kit_ty (by decide +kernel)
theorem kit_bool_int : PySem.W.kitOne K (.type "bool") (.type "int") = some true := kit_ty (by decide +kernel)
theorem kit_bool_str : PySem.W.kitOne K (.type "bool") (.type "str") = some false := kit_ty (by decide +kernel)
theorem kit_bool_bool : PySem.W.kitOne K (.type "bool") (.type "bool") = some true := kit_ty (by decide +kernel)
theorem kit_bool_tuple : PySem.W.kitOne K (.type "bool") (.type "tuple") = some false := kit_ty (by decide +kernel)
theorem kit_bool_list : PySem.W.kitOne K (.type "bool") (.type "list") = some false := kit_ty (by decide +kernel)
theorem kit_NoneType_int : PySem.W.kitOne K (.type "NoneType") (.type "int") = some false := kit_ty (by decide +kernel)
theorem kit_NoneType_str : PySem.W.kitOne K (.type "NoneType") (.type "str") = some false := kit_ty (by decide +kernel)
theorem kit_NoneType_bool : PySem.W.kitOne K (.type "NoneType") (.type "bool") = some false := kit_ty (by decide +kernel)
theorem kit_NoneType_tuple : PySem.W.kitOne K (.type "NoneType") (.type "tuple") = some false := kit_ty (by decide +kernel)
theorem kit_NoneType_list : PySem.W.kitOne K (.type "NoneType") (.type "list") = some false := kit_ty (by decide +kernel)
theorem kit_list_int : PySem.W.kitOne K (.type "list") (.type "int") = some false := kit_ty (by decide +kernel)
theorem kit_list_str : PySem.W.kitOne K (.type "list") (.type "str") = some false := kit_ty (by decide +kernel)
theorem kit_list_bool : PySem.W.kitOne K (.type "list") (.type "bool") = some false := kit_ty (by decide +kernel)
theorem kit_list_tuple : PySem.W.kitOne K (.type "list") (.type "tuple") = some false := kit_ty (by decide +kernel)
theorem kit_list_list : PySem.W.kitOne K (.type "list") (.type "list") = some true := kit_ty (by decide +kernel)
theorem kit_tuple_int : PySem.W.kitOne K (.type "tuple") (.type "int") = some false := kit_ty (by decide +kernel)
theorem kit_tuple_str : PySem.W.kitOne K (.type "tuple") (.type "str") = some false := kit_ty (by decide +kernel)
theorem kit_tuple_bool : PySem.W.kitOne K (.type "tuple") (.type "bool") = some false := kit_ty (by decide +kernel)
theorem kit_tuple_tuple : PySem.W.kitOne K (.type "tuple") (.type "tuple") = some true := kit_ty (by decide +kernel)
theorem kit_tuple_list : PySem.W.kitOne K (.type "tuple") (.type "list") = some false := kit_ty (by decide +kernel)
end
/-- a def that may be called by its name -/
def Def (P : Program) (w : World) (K : PySem.W.Frag) (mg : Str → Option Value) (base : Heap) (CX : CXT) (k : Nat) (x : Str) (ps : List Str) (sp : Sp) : Prop :=
  ∃ (f : Addr) (fd : FuncData), mg x = some (.ref f) ∧ PySem.W.keepIn K (.ref f) = true ∧ Binds K fd ps [] ∧ FnOk P w K mg base CX k f fd ps sp
theorem Def.of {P : Program} {w : World} {K : PySem.W.Frag} {mg : Str → Option Value} {base : Heap} {CX : CXT} {k : Nat} {x : Str} {ps : List Str} {sp : Sp} {f : Addr} {fd : FuncData} (g : mg x = some (.ref f)) (kp : PySem.W.keepIn K (.ref f) = true) (b : Binds K fd ps []) (G : FnOk P w K mg base CX k f fd ps sp) : Def P w K mg base CX k x ps sp := ⟨f, fd, g, kp, b, G⟩
theorem drop_at {α : Type} {xs : List α} {i : Nat} {x : α} (h : xs[i]? = some x) : xs.drop i = x :: xs.drop (i + 1) := by
  obtain ⟨h1, rfl⟩ := List.getElem?_eq_some_iff.mp h
  exact List.drop_eq_getElem_cons h1
inductive Tm where
  | var (n : Nat)
  | lam (b : Tm)
  | app (f a : Tm)
def Tm.enc : Tm → List V
  | .var n => [.int n]
  | .lam b => .str "lam" :: b.enc
  | .app f a => .str "app" :: (f.enc ++ a.enc)
/-- its free variables are below d -/
def Tm.wf : Nat → Tm → Prop
  | d, .var n => n < d
  | d, .lam b => b.wf (d + 1)
  | d, .app f a => f.wf d ∧ a.wf d
def encs (ts : List Tm) : List V := (ts.map Tm.enc).flatten
/-- whatever terms stand for what waits (the last one first), the whole is a term -/
def Comp (loose : Nat) (nodes : List V) (wait : List Nat) : Prop := ∀ ts : List Tm, ts.length = wait.length → (∀ p ∈ ts.zip wait.reverse, p.1.wf (p.2 + loose)) → ∃ t : Tm, t.wf loose ∧ t.enc = nodes ++ encs ts
theorem Comp.start (loose : Nat) : Comp loose [] [0] := fun ts hl hw => by
  match ts, hl with
  | [t], _ =>
    refine ⟨t, ?_, by simp [encs]⟩
    have := hw (t, 0) (by simp)
    simpa using this
theorem Comp.done {loose : Nat} {nodes : List V} (h : Comp loose nodes []) : ∃ t : Tm, t.wf loose ∧ t.enc = nodes := by
  obtain ⟨t, h1, h2⟩ := h [] rfl (by simp)
  exact ⟨t, h1, by rw [h2]; simp [encs]⟩
theorem Comp.var {loose : Nat} {nodes : List V} {wait : List Nat} {d n : Nat} (h : Comp loose nodes (wait ++ [d])) (hn : n < d + loose) : Comp loose (nodes ++ [.int n]) wait := fun ts hl hw => by
  obtain ⟨t, h1, h2⟩ := h (.var n :: ts) (by simp [hl]) (fun p hp => by
    rw [List.reverse_append] at hp
    rcases List.mem_cons.mp hp with e | e
    · subst e
      exact hn
    · exact hw p e)
  exact ⟨t, h1, by rw [h2]; simp [encs, Tm.enc]⟩
theorem Comp.lam {loose : Nat} {nodes : List V} {wait : List Nat} {d : Nat} (h : Comp loose nodes (wait ++ [d])) : Comp loose (nodes ++ [.str "lam"]) (wait ++ [d + 1]) := fun ts hl hw => by
  match ts, hl with
  | [], hl => simp at hl
  | b :: r, hl =>
    rw [List.reverse_append] at hw
    obtain ⟨t, h1, h2⟩ := h (.lam b :: r) (by simpa using hl) (fun p hp => by
      rw [List.reverse_append] at hp
      rcases List.mem_cons.mp hp with e | e
      · subst e
        have := hw (b, d + 1) (by simp)
        show b.wf (d + loose + 1)
        have e2 : d + loose + 1 = d + 1 + loose := by omega
        rw [e2]
        exact this
      · exact hw p (List.mem_cons_of_mem _ e))
    exact ⟨t, h1, by rw [h2]; simp [encs, Tm.enc]⟩
theorem Comp.app {loose : Nat} {nodes : List V} {wait : List Nat} {d : Nat} (h : Comp loose nodes (wait ++ [d])) : Comp loose (nodes ++ [.str "app"]) (wait ++ [d] ++ [d]) := fun ts hl hw => by
  match ts, hl with
  | [], hl => simp at hl
  | [_], hl => simp at hl
  | f :: a :: r, hl =>
    rw [List.reverse_append, List.reverse_append] at hw
    obtain ⟨t, h1, h2⟩ := h (.app f a :: r) (by simpa using hl) (fun p hp => by
      rw [List.reverse_append] at hp
      rcases List.mem_cons.mp hp with e | e
      · subst e
        exact ⟨hw (f, d) (by simp), hw (a, d) (by simp)⟩
      · exact hw p (List.mem_cons_of_mem _ (List.mem_cons_of_mem _ e)))
    exact ⟨t, h1, by rw [h2]; simp [encs, Tm.enc]⟩
def Flat (xs : List V) : Prop := ∀ x ∈ xs, (∃ i, x = .int i) ∨ ∃ s, x = .str s
theorem Flat.kd {xs : List V} (h : Flat xs) (H : Hp) : ∀ x ∈ xs, Kd H x := fun x hx => by
  rcases h x hx with ⟨i, rfl⟩ | ⟨s, rfl⟩
  · exact .int i
  · exact .str s
theorem Flat.app {xs ys : List V} (h : Flat xs) (t : Flat ys) : Flat (xs ++ ys) := fun x hx => by
  rcases List.mem_append.mp hx with e | e
  · exact h x e
  · exact t x e
theorem Flat.rep {xs : List V} (h : Flat xs) (n : Nat) : Flat (List.replicate n xs).flatten := fun x hx => by
  obtain ⟨l, h1, h2⟩ := List.mem_flatten.mp hx
  rw [(List.mem_replicate.mp h1).2] at h2
  exact h x h2
theorem Flat.one (x : V) (h : (∃ i, x = .int i) ∨ ∃ s, x = .str s) : Flat [x] := fun y hy => by
  rw [List.mem_singleton.mp hy]
  exact h
theorem Flat.two (x z : V) (h : (∃ i, x = .int i) ∨ ∃ s, x = .str s) (h2 : (∃ i, z = .int i) ∨ ∃ s, z = .str s) : Flat [x, z] := fun y hy => by
  rcases List.mem_cons.mp hy with e | e
  · rw [e]
    exact h
  · rw [List.mem_singleton.mp e]
    exact h2
theorem Flat.cons {x : V} {xs : List V} (h : (∃ i, x = .int i) ∨ ∃ s, x = .str s) (t : Flat xs) : Flat (x :: xs) := fun y hy => by
  rcases List.mem_cons.mp hy with e | e
  · rw [e]
    exact h
  · exact t y e
theorem Flat.nil : Flat [] := fun x h => absurd h (by simp)
theorem Tm.flat : ∀ t : Tm, Flat t.enc
  | .var n => Flat.one _ (.inl ⟨_, rfl⟩)
  | .lam b => Flat.cons (.inr ⟨_, rfl⟩) b.flat
  | .app f a => Flat.cons (.inr ⟨_, rfl⟩) (f.flat.app a.flat)
/-- no variable too great -/
def okV : V → Bool
  | .int i => decide (i ≤ 1000000)
  | _ => true
def fitsV (xs : List V) : Bool := decide (xs.length ≤ 1000) && xs.all okV
def Nds (xs : List V) : Prop := ∀ x ∈ xs, (∃ i, x = .int i) ∨ x = .str "lam" ∨ x = .str "app"
theorem Nds.flat {xs : List V} (h : Nds xs) : Flat xs := fun x hx => by
  rcases h x hx with e | e | e
  · exact .inl e
  · exact .inr ⟨_, e⟩
  · exact .inr ⟨_, e⟩
theorem Nds.nil : Nds [] := fun x h => absurd h (by simp)
theorem Nds.app {xs ys : List V} (h : Nds xs) (t : Nds ys) : Nds (xs ++ ys) := fun x hx => by
  rcases List.mem_append.mp hx with e | e
  · exact h x e
  · exact t x e
theorem Nds.cons {x : V} {xs : List V} (h : (∃ i, x = .int i) ∨ x = .str "lam" ∨ x = .str "app") (t : Nds xs) : Nds (x :: xs) := fun y hy => by
  rcases List.mem_cons.mp hy with e | e
  · rw [e]
    exact h
  · exact t y e
theorem Nds.rep {xs : List V} (h : Nds xs) (n : Nat) : Nds (List.replicate n xs).flatten := fun x hx => by
  obtain ⟨l, h1, h2⟩ := List.mem_flatten.mp hx
  rw [(List.mem_replicate.mp h1).2] at h2
  exact h x h2
theorem Nds.tail {x : V} {xs : List V} (h : Nds (x :: xs)) : Nds xs := fun y hy => h y (List.mem_cons_of_mem _ hy)
theorem Nds.take {xs : List V} (h : Nds xs) (n : Nat) : Nds (xs.take n) := fun x hx => h x (List.mem_of_mem_take hx)
theorem Nds.drop {xs : List V} (h : Nds xs) (n : Nat) : Nds (xs.drop n) := fun x hx => h x (List.mem_of_mem_drop hx)
theorem Nds.I (i : Int) : (∃ j, V.int i = .int j) ∨ V.int i = .str "lam" ∨ V.int i = .str "app" := .inl ⟨i, rfl⟩
theorem Nds.L : (∃ j, V.str "lam" = .int j) ∨ V.str "lam" = .str "lam" ∨ V.str "lam" = .str "app" := .inr (.inl rfl)
theorem Nds.A : (∃ j, V.str "app" = .int j) ∨ V.str "app" = .str "lam" ∨ V.str "app" = .str "app" := .inr (.inr rfl)
theorem Tm.nds : ∀ t : Tm, Nds t.enc
  | .var n => Nds.cons (Nds.I _) Nds.nil
  | .lam b => Nds.cons Nds.L b.nds
  | .app f a => Nds.cons Nds.A (f.nds.app a.nds)
def dv : V → PyData
  | .int i => .int i
  | .str x => .str x
  | _ => .none
theorem eqv_nodes : ∀ {xs ys : List V}, Nds xs → Nds ys → PyData.eqvAll (xs.map dv) (ys.map dv) = decide (xs = ys)
  | [], [], _, _ => by simp [PyData.eqvAll]
  | [], _ :: _, _, _ => by simp [PyData.eqvAll]
  | _ :: _, [], _, _ => by simp [PyData.eqvAll]
  | x :: xs, y :: ys, h, k => by
    have ih := eqv_nodes h.tail k.tail
    have hxy : PyData.eqv (dv x) (dv y) = decide (x = y) := by
      rcases h x List.mem_cons_self with ⟨i, rfl⟩ | rfl | rfl <;> rcases k y List.mem_cons_self with ⟨j, rfl⟩ | rfl | rfl <;> simp [dv, PyData.eqv] <;> first | (rw [Bool.eq_iff_iff]; simp) | decide +kernel
    rw [List.map_cons, List.map_cons, PyData.eqvAll, ih, hxy]
    simp
theorem lay_nodes : ∀ {xs : List V}, Nds xs → PyData.canLayAll0 (xs.map dv) = true
  | [], _ => rfl
  | x :: xs, h => by
    have ih := lay_nodes h.tail
    have hx : (dv x).canLay0 = true := by
      rcases h x List.mem_cons_self with ⟨i, rfl⟩ | rfl | rfl
      · rfl
      · decide +kernel
      · decide +kernel
    rw [List.map_cons, PyData.canLayAll0, hx, ih]
    rfl
theorem dp_nodes {K : PySem.W.Frag} {H : Hp} : ∀ {xs : List V}, Nds xs → DpAll K H xs (xs.map dv)
  | [], _ => .nil
  | x :: xs, h => by
    refine .cons ?_ (dp_nodes h.tail)
    rcases h x List.mem_cons_self with ⟨i, rfl⟩ | rfl | rfl
    · exact .int i
    · exact .str _
    · exact .str _
theorem depth_atom (x : V) : (dv x).depth ≤ 1 := by
  cases x <;> simp [dv, PyData.depth]
theorem depth_all : ∀ xs : List V, PyData.depthAll (xs.map dv) ≤ 1
  | [] => by simp [PyData.depthAll]
  | x :: xs => by
    have h1 := depth_atom x
    have h2 := depth_all xs
    simp only [List.map_cons, PyData.depthAll]
    omega
theorem depth_nodes {xs : List V} : (PyData.tuple (xs.map dv)).depth ≤ 2 := by
  have h := depth_all xs
  simp only [PyData.depth]
  omega
theorem shaped_nodes {xs : List V} (h : Nds xs) : SeqAt.shaped (.tuple (xs.map dv)) = true := by
  have h1 : (PyData.tuple (xs.map dv)).canLay0 = true := lay_nodes h
  have h2 := depth_nodes (xs := xs)
  unfold SeqAt.shaped
  rw [h1, Bool.true_and]
  exact decide_eq_true (by omega)
section
variable {K : PySem.W.Frag} {H : Hp} {Q : VK} {a b : Addr} {xs ys : List V}
theorem w_eqN (h : SqT K H a xs) (k : SqT K H b ys) (n : Nds xs) (m : Nds ys) (q : Q (.bl (decide (xs = ys))) H) : rEqD K (.ref a) (.ref b) H Q :=
  ⟨_, _, .tup h (dp_nodes n), .tup k (dp_nodes m), shaped_nodes n, shaped_nodes m, by rw [PyData.eqv, eqv_nodes n m]; exact q⟩
theorem w_neN (h : SqT K H a xs) (k : SqT K H b ys) (n : Nds xs) (m : Nds ys) (q : Q (.bl (!decide (xs = ys))) H) : rNeD K (.ref a) (.ref b) H Q :=
  ⟨_, _, .tup h (dp_nodes n), .tup k (dp_nodes m), shaped_nodes n, shaped_nodes m, by rw [PyData.eqv, eqv_nodes n m]; exact q⟩
theorem w_neNon (k : SqT K H b ys) (m : Nds ys) (q : Q (.bl true) H) : rNeD K .non (.ref b) H Q :=
  ⟨_, _, .non, .tup k (dp_nodes m), by decide, shaped_nodes m, q⟩
theorem w_eqNon (k : SqT K H b ys) (m : Nds ys) (q : Q (.bl false) H) : rEqD K .non (.ref b) H Q :=
  ⟨_, _, .non, .tup k (dp_nodes m), by decide, shaped_nodes m, q⟩
end
theorem ly_lt {n : Nat} (h : n < 15000000) : n < sizeLine := by
  rw [sizeLine_eq]
  omega
theorem ly_sz {n : Nat} (h : n ≤ 16000000) : n ≤ sizeLine := by
  rw [sizeLine_eq]
  omega
def Tm.lamN : Nat → Tm → Tm
  | 0, t => t
  | n + 1, t => .lam (Tm.lamN n t)
theorem Tm.enc_lamN (n : Nat) (t : Tm) : (Tm.lamN n t).enc = (List.replicate n [V.str "lam"]).flatten ++ t.enc := by
  induction n with
  | zero => rfl
  | succ n ih =>
    show V.str "lam" :: (Tm.lamN n t).enc = _
    rw [ih, List.replicate_succ]
    rfl
/-- the greatest variable is at most M -/
def Tm.vars (M : Nat) : Tm → Prop
  | .var n => n ≤ M
  | .lam b => b.vars M
  | .app f a => f.vars M ∧ a.vars M
theorem Tm.vars_lamN {M n : Nat} {t : Tm} (h : t.vars M) : (Tm.lamN n t).vars M := by
  induction n with
  | zero => exact h
  | succ n ih => exact ih
theorem Tm.vars_mono {M N : Nat} (hm : M ≤ N) : ∀ {t : Tm}, t.vars M → t.vars N
  | .var n, h => Nat.le_trans h hm
  | .lam b, h => Tm.vars_mono hm (t := b) h
  | .app f a, h => ⟨Tm.vars_mono hm (t := f) h.1, Tm.vars_mono hm (t := a) h.2⟩
theorem ok_vars : ∀ {t : Tm}, t.vars 1000000 → t.enc.all okV = true
  | .var n, h => by
    have h : n ≤ 1000000 := h
    simp [Tm.enc, okV]
    omega
  | .lam b, h => by
    have := ok_vars (t := b) h
    simp only [Tm.enc, List.all_cons, this]
    rfl
  | .app f a, h => by
    have h1 := ok_vars (t := f) h.1
    have h2 := ok_vars (t := a) h.2
    simp only [Tm.enc, List.all_cons, List.all_append, h1, h2]
    rfl
def Tm.deps : Nat → Tm → List Nat
  | d, .var _ => [d]
  | d, .lam b => d :: b.deps (d + 1)
  | d, .app f a => d :: (f.deps d ++ a.deps d)
theorem Tm.deps_len : ∀ (t : Tm) (d : Nat), (t.deps d).length = t.enc.length
  | .var _, _ => rfl
  | .lam b, d => by simp [Tm.deps, Tm.enc, Tm.deps_len b]
  | .app f a, d => by simp [Tm.deps, Tm.enc, Tm.deps_len f, Tm.deps_len a]
theorem Tm.enc_ne : ∀ t : Tm, t.enc ≠ []
  | .var _ => by simp [Tm.enc]
  | .lam _ => by simp [Tm.enc]
  | .app _ _ => by simp [Tm.enc]
def depss : List Tm → List Nat → List Nat
  | t :: ts, d :: ds => t.deps d ++ depss ts ds
  | _, _ => []
theorem encs_cons (t : Tm) (ts : List Tm) : encs (t :: ts) = t.enc ++ encs ts := by simp [encs]
theorem encs_nil {ts : List Tm} (h : encs ts = []) : ts = [] := by
  cases ts with
  | nil => rfl
  | cons t r =>
    rw [encs_cons] at h
    exact absurd (List.append_eq_nil_iff.mp h).1 t.enc_ne
/-- in the midst of a walk over a term's nodes: what is left are the terms ts, whose depths wait (the last one first) -/
def DInv (t : Tm) (i : Nat) (found ds : List Nat) : Prop := ∃ ts : List Tm, t.enc.drop i = encs ts ∧ ts.length = ds.length ∧ t.deps 0 = found ++ depss ts ds.reverse
theorem DInv.start (t : Tm) : DInv t 0 [] [0] := ⟨[t], by simp [encs], rfl, by simp [depss]⟩
theorem DInv.done {t : Tm} {found ds : List Nat} (h : DInv t t.enc.length found ds) : found = t.deps 0 := by
  obtain ⟨ts, h1, h2, h3⟩ := h
  rw [List.drop_length] at h1
  have e := encs_nil h1.symm
  subst e
  rw [h3]
  simp [depss]
theorem DInv.step {t : Tm} {i : Nat} {found ds : List Nat} {v : V} (h : DInv t i found ds) (hv : t.enc[i]? = some v) : ∃ r d, ds = r ++ [d] ∧
    ((∃ n : Nat, v = .int n ∧ DInv t (i + 1) (found ++ [d]) r) ∨ (v = .str "lam" ∧ DInv t (i + 1) (found ++ [d]) (r ++ [d + 1])) ∨ (v = .str "app" ∧ DInv t (i + 1) (found ++ [d]) (r ++ [d] ++ [d]))) := by
  obtain ⟨ts, h1, h2, h3⟩ := h
  rw [drop_at hv] at h1
  match ts, h1, h2, h3 with
  | [], h1, _, _ => cases h1
  | t1 :: r1, h1, h2, h3 =>
    have hne : ds ≠ [] := fun e => by
      rw [e] at h2
      cases h2
    refine ⟨ds.dropLast, ds.getLast hne, (List.dropLast_concat_getLast hne).symm, ?_⟩
    generalize hr : ds.dropLast = r at *
    generalize hd : ds.getLast hne = d at *
    have hds : ds = r ++ [d] := by rw [← hr, ← hd]; exact (List.dropLast_concat_getLast hne).symm
    subst hds
    rw [List.reverse_append] at h3
    have h3 : t.deps 0 = found ++ (t1.deps d ++ depss r1 r.reverse) := h3
    have hl : r1.length = r.length := by simpa using h2
    rw [encs_cons] at h1
    cases t1 with
    | var n =>
      have h1 : v :: t.enc.drop (i + 1) = V.int n :: encs r1 := h1
      injection h1 with e1 e2
      exact .inl ⟨n, e1, r1, e2, hl, by rw [h3]; simp [Tm.deps]⟩
    | lam b =>
      have h1 : v :: t.enc.drop (i + 1) = V.str "lam" :: (b.enc ++ encs r1) := h1
      injection h1 with e1 e2
      exact .inr (.inl ⟨e1, b :: r1, by rw [e2, encs_cons], by simp [hl], by rw [h3, List.reverse_append]; simp [Tm.deps, depss]⟩)
    | app f a =>
      have h1 : v :: t.enc.drop (i + 1) = V.str "app" :: (f.enc ++ a.enc ++ encs r1) := h1
      injection h1 with e1 e2
      exact .inr (.inr ⟨e1, f :: a :: r1, by rw [e2, encs_cons, encs_cons, List.append_assoc], by simp [hl], by rw [h3, List.reverse_append, List.reverse_append]; simp [Tm.deps, depss]⟩)
def Tm.vmap (g : Nat → Nat → Nat) : Nat → Tm → Tm
  | d, .var n => .var (g d n)
  | d, .lam b => .lam (b.vmap g (d + 1))
  | d, .app f a => .app (f.vmap g d) (a.vmap g d)
section
variable {K : PySem.W.Frag} {H : Hp} {Q : VK} {a b : Addr} {xs ys : List V}
theorem shapedL_nodes {xs : List V} (h : Nds xs) : SeqAt.shaped (.list (xs.map dv)) = true := by
  have h1 : (PyData.list (xs.map dv)).canLay0 = true := lay_nodes h
  have h2 : (PyData.list (xs.map dv)).depth ≤ 2 := by
    have h := depth_all xs
    simp only [PyData.depth]
    omega
  unfold SeqAt.shaped
  rw [h1, Bool.true_and]
  exact decide_eq_true (by omega)
theorem w_eqL (h : SqL K H a xs) (k : SqL K H b ys) (n : Nds xs) (m : Nds ys) (q : Q (.bl (decide (xs = ys))) H) : rEqD K (.ref a) (.ref b) H Q :=
  ⟨_, _, .lst h (dp_nodes n), .lst k (dp_nodes m), shapedL_nodes n, shapedL_nodes m, by rw [PyData.eqv, eqv_nodes n m]; exact q⟩
theorem w_neL (h : SqL K H a xs) (k : SqL K H b ys) (n : Nds xs) (m : Nds ys) (q : Q (.bl (!decide (xs = ys))) H) : rNeD K (.ref a) (.ref b) H Q :=
  ⟨_, _, .lst h (dp_nodes n), .lst k (dp_nodes m), shapedL_nodes n, shapedL_nodes m, by rw [PyData.eqv, eqv_nodes n m]; exact q⟩
theorem Nds.ofInts (ns : List Int) : Nds (ns.map V.int) := fun x hx => by
  obtain ⟨i, _, e⟩ := List.mem_map.mp hx
  exact .inl ⟨i, e.symm⟩
theorem inV_ints (z : Int) : ∀ ms : List Int, inV (.int z) (ms.map V.int) = decide (z ∈ ms)
  | [] => by simp [inV]
  | m :: ms => by
    have ih := inV_ints z ms
    unfold inV at ih ⊢
    rw [List.map_cons, List.any_cons, ih]
    have e : eqV (.int m) (.int z) = (m == z) := rfl
    rw [e]
    by_cases h : m = z
    · subst h
      simp
    · have h2 : z ≠ m := fun e => h e.symm
      simp [h, h2]
theorem flat_ints : ∀ ms : List Int, (ms.map V.int).all flatV = true
  | [] => rfl
  | m :: ms => by
    rw [List.map_cons, List.all_cons, flat_ints ms]
    rfl
theorem w_nin {p : Addr} {ms : List Int} {z : Int} (h : SqL K H p (ms.map V.int)) (q : Q (.bl (!decide (z ∈ ms))) H) : rIn K true (.int z) (.ref p) H Q :=
  ⟨p, _, rfl, .inl h, rfl, flat_ints ms, by rw [inV_ints]; exact q⟩
theorem w_sorted {p : Addr} {ms : List Int} (h : SqL K H p (ms.map V.int)) (q : ∀ (ns : List Int) (l : Addr), ns.Perm ms → ns.Pairwise (· ≤ ·) → H l = none → Q (.ref l) (upd H l (.lst (ns.map V.int)))) : rSortedI K [.ref p] H Q := ⟨p, ms, rfl, h, q⟩
end
structure Stm where
  home : Addr
  cells : List Int
  cur : Int
  pos : Nat
  mix : Int
def Stm.take (m : Stm) : Stm := if m.cur = 0 ∧ m.pos < m.cells.length then { m with cur := (if m.cells.getD m.pos 0 < 0 then -(m.cells.getD m.pos 0) else m.cells.getD m.pos 0), pos := m.pos + 1 } else m
def Stm.turn (m : Stm) : Stm := { m with mix := (m.mix * 48271 + 11).fmod 2147483647 }
def Stm.next (m : Stm) (n : Int) : Stm := if m.take.cur = 0 then m.take.turn else { m.take with cur := m.take.cur.fdiv n }
def Stm.val (m : Stm) (n : Int) : Int := if m.take.cur = 0 then (m.take.turn.mix.fdiv 97).fmod n else m.take.cur.fmod n
theorem fmod_lt {a n : Int} (h : 0 < n) : 0 ≤ a.fmod n ∧ a.fmod n < n := ⟨Int.fmod_nonneg_of_pos a h, Int.fmod_lt_of_pos a h⟩
theorem Stm.val_lt (m : Stm) {n : Int} (h : 0 < n) : 0 ≤ m.val n ∧ m.val n < n := by
  unfold Stm.val
  split
  · exact fmod_lt h
  · exact fmod_lt h
def mixOf (ns : List Int) : Int := ns.foldl (fun m c => (m * 48271 + c.fmod 65521 + 1).fmod 2147483647) 17
theorem mixOf_take {ns : List Int} {i : Nat} {z : Int} (h : ns[i]? = some z) : mixOf (ns.take (i + 1)) = (mixOf (ns.take i) * 48271 + z.fmod 65521 + 1).fmod 2147483647 := by
  rw [List.take_add_one, h]
  unfold mixOf
  rw [List.foldl_append]
  rfl
theorem get_int {ns : List Int} {i : Nat} {x : V} (h : (ns.map V.int)[i]? = some x) : ∃ z, ns[i]? = some z ∧ x = .int z := by
  rw [List.getElem?_map] at h
  cases e : ns[i]? with
  | none => rw [e] at h; cases h
  | some z => rw [e] at h; exact ⟨z, rfl, (Option.some.inj h).symm⟩
theorem at_map {ns : List Int} {j : Nat} (h : j < ns.length) : atI (ns.map V.int) (j : Int) = some (.int (ns.getD j 0)) := by
  refine atI_nat ?_
  rw [List.getElem?_map, List.getElem?_eq_getElem h, List.getD_eq_getElem?_getD, List.getElem?_eq_getElem h]
  rfl
theorem Stm.take_cells (m : Stm) : m.take.cells = m.cells := by
  unfold Stm.take
  split <;> rfl
theorem Stm.take_home (m : Stm) : m.take.home = m.home := by
  unfold Stm.take
  split <;> rfl
/-- the stream goes on: the same list of numbers at the same place -/
def Fol (m m' : Stm) : Prop := m'.home = m.home ∧ m'.cells = m.cells
theorem Fol.refl (m : Stm) : Fol m m := ⟨rfl, rfl⟩
theorem Fol.trans {m m1 m2 : Stm} (h : Fol m m1) (k : Fol m1 m2) : Fol m m2 := ⟨k.1.trans h.1, k.2.trans h.2⟩
theorem Fol.next (m : Stm) (n : Int) : Fol m (m.next n) := by
  unfold Stm.next
  split
  · exact ⟨m.take_home, m.take_cells⟩
  · exact ⟨m.take_home, m.take_cells⟩
theorem Fol.step {m m1 : Stm} (h : Fol m m1) (n : Int) : Fol m (m1.next n) := h.trans (Fol.next m1 n)
def StAt (H : Hp) (s : Addr) (m : Stm) : Prop := m.home ≠ s ∧ H s = some (.lst [.ref m.home, .int m.cur, .int m.pos, .int m.mix]) ∧ H m.home = some (.lst (m.cells.map V.int))
theorem StAt.ex {H H' : Hp} {s : Addr} {m : Stm} (h : StAt H s m) (e : Ex H H') : StAt H' s m := ⟨h.1, e _ _ h.2.1, e _ _ h.2.2⟩
theorem StAt.is {H : Hp} {s : Addr} {m : Stm} (h : StAt H s m) : ∃ ys, H s = some (.lst ys) := ⟨_, h.2.1⟩
theorem StAt.put {H : Hp} {s r : Addr} {m : Stm} {o : HO} (h : StAt H s m) (hs : r ≠ s) (hl : r ≠ m.home) : StAt (upd H r o) s m :=
  ⟨h.1, by rw [upd_ne hs.symm]; exact h.2.1, by rw [upd_ne hl.symm]; exact h.2.2⟩
theorem StAt.new {H : Hp} {s r : Addr} {m : Stm} {o : HO} (h : StAt H s m) (hr : H r = none) : StAt (upd H r o) s m := h.ex (Ex.new hr)
theorem StAt.ne {H : Hp} {s r : Addr} {m : Stm} (h : StAt H s m) (hr : H r = none) : r ≠ s ∧ r ≠ m.home := ⟨(ne_of_none h.2.1 hr).symm, (ne_of_none h.2.2 hr).symm⟩
theorem Kp.st {H H' : Hp} {s : Addr} {m m' : Stm} (e : Fr s H H') (h : StAt H s m) (h' : StAt H' s m') : Kp H H' := by
  obtain ⟨ys, h⟩ := h.is
  obtain ⟨zs, h'⟩ := h'.is
  exact Kp.fr e h h'
end Ly
set_option Elab.async false
set_option linter.all false
set_option maxRecDepth 100000
set_option maxHeartbeats 4000000
namespace Ly
open PySem PySem.Spec PyProof.Rows L2 Evl
/-- what one source of a zip gives: C tells its items by the abstract heap -/
structure ZSrc (P : Program) (w : World) (K : PySem.W.Frag) (C : Hp → List V → Prop) (it : Addr) (fp : List Addr) (st : Nat → Heap → Prop) : Prop where
  obj : ∀ i h, st i h → ∃ o, h.get? it = some o ∧ ∀ v, o.data ≠ .cell v
  keep : ∀ i h h', st i h → (∀ o, h.get? it = some o → h'.get? it = some o) → st i h'
  inj : ∀ (X : Cx), X.prog = P → X.w = w → X.K = K → ∀ (pins : List (Addr × Obj)) (σ : L2.St) (H : Hp) (s : Shared) (xs ys : List V), Inv X pins σ H s → C H xs → C H ys → xs = ys
  draws : ∀ (X : Cx), X.prog = P → X.w = w → X.K = K → X.A.handled = none → ∀ (pins : List (Addr × Obj)) (σ : L2.St) (H : Hp) (s : Shared) (xs : List V), Inv X pins σ H s → C H xs →
    ∃ (Pr : Nat → Value → Prop) (CT : Heap → Prop), Draws P w X.A.in1 it fp xs.length Pr (fun i h => st i h ∧ CT h) ∧ CT s.heap ∧ ∀ i u, Pr i u → ∃ v, xs[i]? = some v ∧ RelV v u
def ItzC (C1 C2 : Hp → List V → Prop) : It :=
  ⟨fun i H => ∃ (xs ys : List V) (x y : V), C1 H xs ∧ C2 H ys ∧ xs[i]? = some x ∧ ys[i]? = some y,
    fun i H v H' => ∃ (T : Addr) (x y : V), v = .ref T ∧ H T = none ∧ H' = upd H T (.tup [x, y]) ∧ (∀ xs, C1 H xs → xs[i]? = some x) ∧ ∀ ys, C2 H ys → ys[i]? = some y,
    fun i H => ∃ xs ys : List V, C1 H xs ∧ C2 H ys ∧ i ≤ xs.length ∧ i ≤ ys.length ∧ (i = xs.length ∨ i = ys.length)⟩
def signs (z : Str) : List V := z.cps.toList.map fun c => V.str ⟨#[c]⟩
def iZipTL (K : PySem.W.Frag) (ta : TA) : TI := fun σ H R => ta σ H fun vs H1 => ∃ a b xs ys, vs = [.ref a, .ref b] ∧ SqT K H1 a xs ∧ SqL K H1 b ys ∧ R (ItzC (fun H xs => SqT K H a xs) (fun H ys => SqL K H b ys)) H1
def iZipSS (ta : TA) : TI := fun σ H R => ta σ H fun vs H1 => ∃ z u, vs = [.str z, .str u] ∧ R (ItzC (fun _ xs => xs = signs z) (fun _ ys => ys = signs u)) H1
section
variable {K : PySem.W.Frag} {σ : L2.St} {H : Hp} {tA : TA} {R : It → Hp → Prop}
theorem w_iZ (h : tA σ H fun vs H1 => ∃ a b xs ys, vs = [.ref a, .ref b] ∧ SqT K H1 a xs ∧ SqL K H1 b ys ∧ R (ItzC (fun H xs => SqT K H a xs) (fun H ys => SqL K H b ys)) H1) : iZipTL K tA σ H R := h
theorem w_iZ1 {a b : Addr} {xs ys : List V} {B : Addr → Addr → Prop} (h : SqT K H a xs) (h2 : SqL K H b ys) (q : B a b) : ∃ a' b' us vs, [V.ref a, V.ref b] = [.ref a', .ref b'] ∧ SqT K H a' us ∧ SqL K H b' vs ∧ B a' b' := ⟨a, b, xs, ys, rfl, h, h2, q⟩
theorem w_iS (h : tA σ H fun vs H1 => ∃ z u, vs = [.str z, .str u] ∧ R (ItzC (fun _ xs => xs = signs z) (fun _ ys => ys = signs u)) H1) : iZipSS tA σ H R := h
theorem w_iS1 {z u : Str} {B : Str → Str → Prop} (q : B z u) : ∃ a b, [V.str z, V.str u] = [.str a, .str b] ∧ B a b := ⟨z, u, rfl, q⟩
theorem w_gtup {t : TGs} {a : Addr} {xs : List V} {n : Nat} {Rs : L2.St → Hp → Prop} (h : SqT K H a xs) (hn : xs.length = n) (q : t xs σ H Rs) : gTup K n t (.ref a) σ H Rs := ⟨a, xs, rfl, h, hn, q⟩
theorem w_gcons {t : TG} {u : TGs} {v : V} {r : List V} {Rs : L2.St → Hp → Prop} (q : t v σ H fun σ' H' => u r σ' H' Rs) : gCons t u (v :: r) σ H Rs := ⟨v, r, rfl, q⟩
theorem w_gnil {Rs : L2.St → Hp → Prop} (q : Rs σ H) : gNil [] σ H Rs := ⟨rfl, q⟩
end
end Ly
set_option Elab.async false
set_option linter.all false
set_option maxRecDepth 100000
set_option maxHeartbeats 2000000
namespace Ly
open PySem PySem.Spec PyProof.Rows L2 Evl
/-- the walker at it: what it walks over, the place that comes next -/
def RevAt (h : Heap) (it : Addr) (z : Str) (t : Tok) (i : Int) : Prop := ∃ o, h.get? it = some o ∧ o.cls = .type "reversed" ∧ o.data = .fields #[.str z t, rawInt i]
theorem RevAt.kind {s : Shared} {it : Addr} {z : Str} {t : Tok} {i : Int} (r : RevAt s.heap it z t i) : s.TypeIs (.ref it) "reversed" := by
  obtain ⟨o, e, c, _⟩ := r
  exact ⟨o, e, c⟩
section
variable {prog : Program} {w : World} {A : Around} {E : Value → Shared → Prop} {s : Shared} {z : Str} {t : Tok}
end
end Ly
set_option Elab.async false
set_option linter.all false
set_option maxRecDepth 100000
set_option maxHeartbeats 2000000
namespace Ly
open PySem PySem.Spec PyProof.Rows L2 Evl
abbrev nums (ds : List Nat) : List V := ds.map fun (d : Nat) => V.int d
def lif (c d n : Nat) : Nat := if d ≤ n then n + c else n
def Tm.put (u : Tm) : Nat → Tm → Tm
  | d, .var n => if n < d then .var n else if n = d then u.vmap (lif d) 0 else .var (n - 1)
  | d, .lam b => .lam (Tm.put u (d + 1) b)
  | d, .app f a => .app (Tm.put u d f) (Tm.put u d a)
theorem fits_of {t : Tm} (h : t.vars 1000000) (l : t.enc.length ≤ 1000) : fitsV t.enc = true := by
  unfold fitsV
  rw [ok_vars h, decide_eq_true l]
  rfl
def rAddZ : R2 := fun x y H Q => ∃ i j, x = .str i ∧ y = .str j ∧ i.length + j.length ≤ sizeLine ∧ Q (.str (i ++ j)) H
theorem op_addZ {X : Cx} : OpR X (binaryOp .Add) rAddZ := op_add_str
def rLenZ : List V → Hp → VK → Prop := fun xs H Q => ∃ z, xs = [.str z] ∧ z.length ≤ sizeLine ∧ Q (.int z.length) H
theorem call_lenZ {X : Cx} : CallR X (.builtin "len") rLenZ := call_len_str
def pl (p : List Nat) : Str := ⟨p.toArray⟩
theorem pl_len (p : List Nat) : (pl p).length = p.length := by simp [pl, Str.length]
theorem pl_app (p q : List Nat) : pl p ++ pl q = pl (p ++ q) := by
  show Str.mk (p.toArray ++ q.toArray) = ⟨(p ++ q).toArray⟩
  simp
theorem pl_b : ("b" : Str) = pl [98] := by decide +kernel
theorem pl_f : ("f" : Str) = pl [102] := by decide +kernel
theorem pl_a : ("a" : Str) = pl [97] := by decide +kernel
theorem pl_e : ("" : Str) = pl [] := by decide +kernel
theorem pl_inj {p q : List Nat} (h : pl p = pl q) : p = q := by
  have e := congrArg Str.cps h
  simpa [pl] using e
abbrev plcs (ps : List (List Nat)) : List V := ps.map fun p => V.str (pl p)
section
variable {H : Hp} {Q : VK}
theorem w_addZ {p q : List Nat} (z : p.length + q.length ≤ 16000000) (h : Q (.str (pl (p ++ q))) H) : rAddZ (.str (pl p)) (.str (pl q)) H Q :=
  ⟨pl p, pl q, rfl, rfl, by rw [pl_len, pl_len]; exact ly_sz z, by rw [pl_app]; exact h⟩
theorem w_addZb {p : List Nat} (z : p.length ≤ 15000000) (h : Q (.str (pl (p ++ [98]))) H) : rAddZ (.str (pl p)) (.str "b") H Q := by
  rw [pl_b]
  exact w_addZ (by simp; omega) h
theorem w_addZf {p : List Nat} (z : p.length ≤ 15000000) (h : Q (.str (pl (p ++ [102]))) H) : rAddZ (.str (pl p)) (.str "f") H Q := by
  rw [pl_f]
  exact w_addZ (by simp; omega) h
theorem w_addZa {p : List Nat} (z : p.length ≤ 15000000) (h : Q (.str (pl (p ++ [97]))) H) : rAddZ (.str (pl p)) (.str "a") H Q := by
  rw [pl_a]
  exact w_addZ (by simp; omega) h
theorem w_lenZ {p : List Nat} (z : p.length ≤ 16000000) (h : Q (.int p.length) H) : rLenZ [.str (pl p)] H Q :=
  ⟨pl p, rfl, by rw [pl_len]; exact ly_sz z, by rw [pl_len]; exact h⟩
end
/-- the letters' order: where they differ, the function comes first; else the shorter -/
def before : List Nat → List Nat → Bool
  | a :: x, b :: y => if a = b then before x y else decide (a = 102)
  | [], y => decide (0 < y.length)
  | _ :: _, [] => false
theorem before_app : ∀ (p x y : List Nat), before (p ++ x) (p ++ y) = before x y
  | [], _, _ => rfl
  | a :: p, x, y => by simp [before, before_app p x y]
def RB (x y : List Nat) : Prop := before x y = true ∧ before y x = false
theorem RB.app {p x y : List Nat} (h : RB x y) : RB (p ++ x) (p ++ y) := ⟨by rw [before_app]; exact h.1, by rw [before_app]; exact h.2⟩
theorem RB.fa {p s u : List Nat} : RB (p ++ 102 :: s) (p ++ 97 :: u) := RB.app ⟨rfl, rfl⟩
def Tm.pls : List Nat → Tm → List (List Nat)
  | p, .var _ => [p]
  | p, .lam b => p :: b.pls (p ++ [98])
  | p, .app f a => p :: (f.pls (p ++ [102]) ++ a.pls (p ++ [97]))
def plss : List Tm → List (List Nat) → List (List Nat)
  | t :: ts, d :: ds => t.pls d ++ plss ts ds
  | _, _ => []
/-- in the midst of a walk that finds the places: what is left are the terms ts, whose places wait (the last one first) -/
def PInv (t : Tm) (i : Nat) (found ds : List (List Nat)) : Prop := ∃ ts : List Tm, t.enc.drop i = encs ts ∧ ts.length = ds.length ∧ t.pls [] = found ++ plss ts ds.reverse
theorem PInv.start (t : Tm) : PInv t 0 [] [[]] := ⟨[t], by simp [encs], rfl, by simp [plss]⟩
theorem PInv.done {t : Tm} {found ds : List (List Nat)} (h : PInv t t.enc.length found ds) : found = t.pls [] := by
  obtain ⟨ts, h1, h2, h3⟩ := h
  rw [List.drop_length] at h1
  have e := encs_nil h1.symm
  subst e
  rw [h3]
  simp [plss]
theorem PInv.step {t : Tm} {i : Nat} {found ds : List (List Nat)} {v : V} (h : PInv t i found ds) (hv : t.enc[i]? = some v) : ∃ r d, ds = r ++ [d] ∧
    ((∃ n : Nat, v = .int n ∧ PInv t (i + 1) (found ++ [d]) r) ∨ (v = .str "lam" ∧ PInv t (i + 1) (found ++ [d]) (r ++ [d ++ [98]])) ∨ (v = .str "app" ∧ PInv t (i + 1) (found ++ [d]) (r ++ [d ++ [97]] ++ [d ++ [102]]))) := by
  obtain ⟨ts, h1, h2, h3⟩ := h
  rw [drop_at hv] at h1
  match ts, h1, h2, h3 with
  | [], h1, _, _ => cases h1
  | t1 :: r1, h1, h2, h3 =>
    have hne : ds ≠ [] := fun e => by
      rw [e] at h2
      cases h2
    refine ⟨ds.dropLast, ds.getLast hne, (List.dropLast_concat_getLast hne).symm, ?_⟩
    generalize hr : ds.dropLast = r at *
    generalize hd : ds.getLast hne = d at *
    have hds : ds = r ++ [d] := by rw [← hr, ← hd]; exact (List.dropLast_concat_getLast hne).symm
    subst hds
    rw [List.reverse_append] at h3
    have h3 : t.pls [] = found ++ (t1.pls d ++ plss r1 r.reverse) := h3
    have hl : r1.length = r.length := by simpa using h2
    rw [encs_cons] at h1
    cases t1 with
    | var n =>
      have h1 : v :: t.enc.drop (i + 1) = V.int n :: encs r1 := h1
      injection h1 with e1 e2
      exact .inl ⟨n, e1, r1, e2, hl, by rw [h3]; simp [Tm.pls]⟩
    | lam b =>
      have h1 : v :: t.enc.drop (i + 1) = V.str "lam" :: (b.enc ++ encs r1) := h1
      injection h1 with e1 e2
      exact .inr (.inl ⟨e1, b :: r1, by rw [e2, encs_cons], by simp [hl], by rw [h3, List.reverse_append]; simp [Tm.pls, plss]⟩)
    | app f a =>
      have h1 : v :: t.enc.drop (i + 1) = V.str "app" :: (f.enc ++ a.enc ++ encs r1) := h1
      injection h1 with e1 e2
      exact .inr (.inr ⟨e1, f :: a :: r1, by rw [e2, encs_cons, encs_cons, List.append_assoc], by simp [hl], by rw [h3, List.reverse_append, List.reverse_append]; simp [Tm.pls, plss]⟩)
theorem drop_get {xs r : List V} {i : Nat} {v : V} (h : xs.drop i = v :: r) : xs[i]? = some v ∧ xs.drop (i + 1) = r := by
  have e : (xs.drop i)[0]? = some v := by rw [h]; rfl
  rw [List.getElem?_drop, Nat.add_zero] at e
  refine ⟨e, ?_⟩
  have := drop_at e
  rw [h] at this
  injection this with _ e2
  exact e2.symm
def Tm.sub : Tm → List Nat → Option (Nat × Tm)
  | t, [] => some (0, t)
  | .lam b, c :: p => if c = 98 then (b.sub p).map (fun r => (r.1 + 1, r.2)) else none
  | .app f a, c :: p => if c = 102 then (f.sub p).map (fun r => (r.1 + 1, r.2)) else if c = 97 then (a.sub p).map (fun r => (r.1 + (1 + f.enc.length), r.2)) else none
  | .var _, _ :: _ => none
theorem w_it {te : TE} {σ : L2.St} {H : Hp} {R : It → Hp → Prop} (h : te σ H fun v H1 => ∃ x, v = .str x ∧ R (Its x) H1) : iStr te σ H R := h
theorem w_it1 {z : Str} {B : Str → Prop} (q : B z) : ∃ x, V.str z = .str x ∧ B x := ⟨z, rfl, q⟩
/-- in the midst of a walk to a part's end: the terms that are missing -/
def EInv (xs : List V) (fin e : Nat) (ts : List Tm) : Prop := ∃ post, xs.drop e = encs ts ++ post ∧ e + (encs ts).length = fin
theorem EInv.start {xs post : List V} {s : Nat} {u : Tm} (h : xs.drop s = u.enc ++ post) : EInv xs (s + u.enc.length) s [u] := ⟨post, by simpa [encs] using h, by simp [encs]⟩
theorem EInv.step {xs : List V} {fin e : Nat} {t : Tm} {ts : List Tm} (h : EInv xs fin e (t :: ts)) : e < fin ∧ ∃ v ts', xs[e]? = some v ∧ EInv xs fin (e + 1) ts' ∧
    ((∃ n : Nat, v = .int n ∧ ts'.length = ts.length) ∨ (v = .str "lam" ∧ ts'.length = ts.length + 1) ∨ (v = .str "app" ∧ ts'.length = ts.length + 2)) := by
  obtain ⟨post, h1, h2⟩ := h
  rw [encs_cons] at h1 h2
  have pos := List.length_pos_iff.mpr t.enc_ne
  rw [List.length_append] at h2
  refine ⟨by omega, ?_⟩
  cases t with
  | var n =>
    have g := drop_get (i := e) (v := .int n) (r := encs ts ++ post) (by rw [h1]; rfl)
    exact ⟨_, ts, g.1, ⟨post, g.2, by simp [Tm.enc] at h2; omega⟩, .inl ⟨n, rfl, rfl⟩⟩
  | lam b =>
    have g := drop_get (i := e) (v := .str "lam") (r := b.enc ++ encs ts ++ post) (by rw [h1]; simp [Tm.enc])
    exact ⟨_, b :: ts, g.1, ⟨post, by rw [g.2, encs_cons], by rw [encs_cons]; simp [Tm.enc] at h2 ⊢; omega⟩, .inr (.inl ⟨rfl, rfl⟩)⟩
  | app f a =>
    have g := drop_get (i := e) (v := .str "app") (r := f.enc ++ (a.enc ++ encs ts) ++ post) (by rw [h1]; simp [Tm.enc])
    exact ⟨_, f :: a :: ts, g.1, ⟨post, by rw [g.2, encs_cons, encs_cons], by rw [encs_cons, encs_cons]; simp [Tm.enc] at h2 ⊢; omega⟩, .inr (.inr ⟨rfl, rfl⟩)⟩
theorem w_sl {r : V → Option Int → Option Int → Hp → VK → Prop} {te : TE} {tl th : TO} {σ : L2.St} {H : Hp} {Q : VK} (h : te σ H fun x H1 => tl σ H1 fun l H2 => th σ H2 fun u H3 => r x l u H3 Q) : L2.tSl r te tl th σ H Q := h
theorem w_noP {σ : L2.St} {H : Hp} {Q : Option Int → Hp → Prop} (h : Q none H) : tNoPart σ H Q := h
theorem w_part {t : TE} {σ : L2.St} {H : Hp} {Q : Option Int → Hp → Prop} (h : t σ H fun x H1 => ∃ i, x = .int i ∧ Q (some i) H1) : tPart t σ H Q := h
theorem w_part1 {j : Int} {B : Int → Prop} (h : B j) : ∃ i, V.int j = .int i ∧ B i := ⟨j, rfl, h⟩
def Small (qs : List (List Nat)) : Prop := ∀ q ∈ qs, ∀ c ∈ q, c < 200
theorem inV_pl (p : List Nat) : ∀ qs : List (List Nat), inV (.str (pl p)) (plcs qs) = decide (p ∈ qs)
  | [] => by simp [inV]
  | q :: qs => by
    have ih := inV_pl p qs
    unfold inV at ih ⊢
    have e : eqV (.str (pl q)) (.str (pl p)) = decide (p = q) := by
      show (pl q == pl p) = _
      by_cases h : p = q
      · subst h; simp
      · rw [decide_eq_false h]
        exact beq_eq_false_iff_ne.mpr fun e => h (pl_inj e).symm
    show (eqV (.str (pl q)) (.str (pl p)) || (plcs qs).any fun y => eqV y (.str (pl p))) = _
    rw [ih, e]
    simp
theorem flat_pl (qs : List (List Nat)) : (plcs qs).all flatV = true := by
  simp [flatV]
theorem w_inS {K : PySem.W.Frag} {H : Hp} {Q : VK} {p : Addr} {r : List Nat} {qs : List (List Nat)} (h : H p = some (.lst (plcs qs))) (q : Q (.bl (decide (r ∈ qs))) H) : rIn K false (.str (pl r)) (.ref p) H Q :=
  ⟨p, _, rfl, .inl (SqL.of h), rfl, flat_pl qs, by rw [inV_pl]; exact q⟩
theorem cutS_hi (p : List Nat) (i : Nat) : cutS (pl p) (some (i : Int)) none = pl (p.drop i) := by
  unfold cutS
  rw [HT.sIx_nat, HT.sIx_none, pl_len]
  show pl ((p.drop (min i p.length)).take (p.length - min i p.length)) = pl (p.drop i)
  congr 1
  rw [List.take_of_length_le (by simp)]
  by_cases h : i ≤ p.length
  · rw [Nat.min_eq_left h]
  · rw [Nat.min_eq_right (by omega), List.drop_length, List.drop_of_length_le (by omega)]
theorem w_slS {p : List Nat} {lo hi : Option Int} {H : Hp} {Q : VK} (z : p.length ≤ 1000000) (q : Q (.str (cutS (pl p) lo hi)) H) : rSlS (.str (pl p)) lo hi H Q := ⟨pl p, rfl, by rw [pl_len]; exact ly_sz (by omega), q⟩
theorem w_slHi {p : List Nat} {i : Nat} {H : Hp} {Q : VK} (z : p.length ≤ 1000000) (q : Q (.str (pl (p.drop i))) H) : rSlS (.str (pl p)) (some (i : Int)) none H Q := w_slS z (by rw [cutS_hi]; exact q)
end Ly
set_option Elab.async false
set_option linter.all false
set_option maxRecDepth 100000
set_option maxHeartbeats 2000000
namespace Ly
open PySem PySem.Spec PyProof.Rows L2 Evl
/-- the term with v in place of the part at p -/
def Tm.rep (v : Tm) : Tm → List Nat → Tm
  | _, [] => v
  | .lam b, c :: p => if c = 98 then .lam (Tm.rep v b p) else .lam b
  | .app f a, c :: p => if c = 102 then .app (Tm.rep v f p) a else if c = 97 then .app f (Tm.rep v a p) else .app f a
  | .var n, _ :: _ => .var n
def Tm.isLam : Tm → Bool
  | .lam _ => true
  | _ => false
/-- the redexes, in order; p: the place of the term itself -/
def Tm.reds : List Nat → Tm → List (List Nat)
  | _, .var _ => []
  | p, .lam b => b.reds (p ++ [98])
  | p, .app f a => (if f.isLam then [p] else []) ++ (f.reds (p ++ [102]) ++ a.reds (p ++ [97]))
/-- the step at p (the term itself where p is no redex) -/
def Tm.step (t : Tm) (p : List Nat) : Tm := match t.sub p with
  | some (_, .app (.lam b) u) => Tm.rep (Tm.put u 0 b) t p
  | _ => t
theorem w_ixSt {H : Hp} {Q : VK} {p : List Nat} {i : Int} {c : Nat} (z : p.length ≤ 1000000) (h : atI p i = some c) (q : Q (.str (pl [c])) H) : rIxS (.str (pl p)) (.int i) H Q :=
  ⟨pl p, i, c, rfl, rfl, by rw [pl_len]; exact ly_sz (by omega), h, q⟩
end Ly
set_option Elab.async false
set_option linter.all false
set_option maxRecDepth 100000
set_option maxHeartbeats 2000000
namespace Ly
open PySem PySem.Spec PyProof.Rows L2 Evl
/-- what a road passes: the terms, or which error comes first -/
inductive Res where
  | ok (ts : List Tm)
  | none
  | large
def Res.cons (t : Tm) : Res → Res
  | .ok ts => .ok (t :: ts)
  | r => r
def Tm.isRed (t : Tm) (p : List Nat) : Bool := decide (p ∈ t.reds [])
def Tm.pass : Tm → List (List Nat) → Res
  | t, [] => .ok [t]
  | t, p :: r => if t.isRed p = false then .none else if fitsV (t.step p).enc = false then .large else Res.cons t (Tm.pass (t.step p) r)
/-- a road of redexes -/
inductive Road : Tm → List (List Nat) → Prop
  | nil {t : Tm} : Road t []
  | cons {t : Tm} {p : List Nat} {r : List (List Nat)} (h : t.isRed p = true) (hr : Road (t.step p) r) : Road t (p :: r)
/-- where a road leads (its places taken for redexes) -/
def Tm.along : Tm → List (List Nat) → Tm
  | t, [] => t
  | t, p :: r => (t.step p).along r
theorem Road.snoc {t : Tm} {r : List (List Nat)} {p : List Nat} (h : Road t r) (hp : (t.along r).isRed p = true) : Road t (r ++ [p]) := by
  induction h with
  | nil => exact .cons hp .nil
  | cons h _ ih => exact .cons h (ih hp)
inductive Pass (t : Tm) : List (List Nat) → List Tm → Tm → Prop
  | nil : Pass t [] [t] t
  | snoc {r : List (List Nat)} {ts : List Tm} {u : Tm} {p : List Nat} (h : Pass t r ts u) (hp : u.isRed p = true) (hf : fitsV (u.step p).enc = true) : Pass t (r ++ [p]) (ts ++ [u.step p]) (u.step p)
theorem pass_app {t u : Tm} {r : List (List Nat)} {ts : List Tm} (h : Pass t r ts u) : ∀ s, Tm.pass t (r ++ s) = match Tm.pass u s with
    | .ok us => .ok (ts.dropLast ++ us)
    | e => e := by
  induction h with
  | nil =>
    intro s
    show Tm.pass t s = _
    cases Tm.pass t s <;> rfl
  | @snoc r ts u p h hp hf ih =>
    intro s
    rw [List.append_assoc, List.singleton_append, ih]
    have e : Tm.pass u (p :: s) = Res.cons u (Tm.pass (u.step p) s) := by
      show (if u.isRed p = false then Res.none else if fitsV (u.step p).enc = false then Res.large else _) = _
      rw [if_neg (by rw [hp]; simp), if_neg (by rw [hf]; simp)]
    rw [e]
    have hl : ∃ ts0, ts = ts0 ++ [u] := by
      cases h with
      | nil => exact ⟨[], rfl⟩
      | snoc _ _ _ => exact ⟨_, rfl⟩
    obtain ⟨ts0, rfl⟩ := hl
    cases Tm.pass (u.step p) s <;> simp [Res.cons]
theorem Pass.done {t u : Tm} {r : List (List Nat)} {ts : List Tm} (h : Pass t r ts u) : Tm.pass t r = .ok ts := by
  have e := pass_app h []
  rw [List.append_nil] at e
  rw [e]
  have hl : ∃ ts0, ts = ts0 ++ [u] := by
    cases h with
    | nil => exact ⟨[], rfl⟩
    | snoc _ _ _ => exact ⟨_, rfl⟩
  obtain ⟨ts0, rfl⟩ := hl
  simp [Tm.pass]
theorem Pass.last {t u : Tm} {r : List (List Nat)} {ts : List Tm} (h : Pass t r ts u) : ∃ ts0, ts = ts0 ++ [u] := by
  cases h with
  | nil => exact ⟨[], rfl⟩
  | snoc _ _ _ => exact ⟨_, rfl⟩
theorem Pass.none {t u : Tm} {r s : List (List Nat)} {ts : List Tm} {p : List Nat} (h : Pass t r ts u) (hp : u.isRed p = false) : Tm.pass t (r ++ p :: s) = .none := by
  rw [pass_app h]
  have e : Tm.pass u (p :: s) = Res.none := if_pos hp
  rw [e]
theorem Pass.large {t u : Tm} {r s : List (List Nat)} {ts : List Tm} {p : List Nat} (h : Pass t r ts u) (hp : u.isRed p = true) (hf : fitsV (u.step p).enc = false) : Tm.pass t (r ++ p :: s) = .large := by
  rw [pass_app h]
  have e : Tm.pass u (p :: s) = Res.large := by
    show (if u.isRed p = false then Res.none else if fitsV (u.step p).enc = false then Res.large else _) = _
    rw [if_neg (by rw [hp]; simp), if_pos hf]
  rw [e]
theorem Pass.len {t u : Tm} {r : List (List Nat)} {ts : List Tm} (h : Pass t r ts u) : ts.length = r.length + 1 := by
  induction h with
  | nil => rfl
  | snoc _ _ _ ih => simp [ih]
inductive Ts (K : PySem.W.Frag) (H : Hp) : List Addr → List Tm → Prop
  | nil : Ts K H [] []
  | cons {a : Addr} {as : List Addr} {t : Tm} {ts : List Tm} (h : SqT K H a t.enc) (r : Ts K H as ts) : Ts K H (a :: as) (t :: ts)
section
variable {K : PySem.W.Frag} {H H' : Hp} {Q : VK}
theorem Ts.mono {as : List Addr} {ts : List Tm} (h : Ts K H as ts) (e : ∀ a xs, SqT K H a xs → SqT K H' a xs) : Ts K H' as ts := by
  induction h with
  | nil => exact .nil
  | cons h _ ih => exact .cons (e _ _ h) ih
theorem Ts.ex {as : List Addr} {ts : List Tm} (h : Ts K H as ts) (e : Ex H H') : Ts K H' as ts := h.mono fun a xs z => ex_t e z
theorem Ts.snoc {as : List Addr} {ts : List Tm} {a : Addr} {t : Tm} (h : Ts K H as ts) (ha : SqT K H a t.enc) : Ts K H (as ++ [a]) (ts ++ [t]) := by
  induction h with
  | nil => exact .cons ha .nil
  | cons h _ ih => exact .cons h ih
theorem Ts.len {as : List Addr} {ts : List Tm} (h : Ts K H as ts) : as.length = ts.length := by
  induction h with
  | nil => rfl
  | cons _ _ ih => simp [ih]
theorem Ts.at {as : List Addr} {ts : List Tm} (h : Ts K H as ts) {i : Nat} {a : Addr} (ha : as[i]? = some a) : ∃ t, ts[i]? = some t ∧ SqT K H a t.enc := by
  induction h generalizing i with
  | nil => simp at ha
  | cons h _ ih =>
    cases i with
    | zero =>
      simp at ha
      subst ha
      exact ⟨_, rfl, h⟩
    | succ i => exact ih (by simpa using ha)
abbrev refs (as : List Addr) : List V := as.map V.ref
def tmd (t : Tm) : PyData := .tuple (t.enc.map dv)
theorem Ts.dp {as : List Addr} {ts : List Tm} (h : Ts K H as ts) : DpAll K H (refs as) (ts.map tmd) := by
  induction h with
  | nil => exact .nil
  | cons h _ ih => exact .cons (.tup h (dp_nodes (Tm.nds _))) ih
end
theorem Small.app {qs rs : List (List Nat)} (h : Small qs) (k : Small rs) : Small (qs ++ rs) := fun q hq => (List.mem_append.mp hq).elim (h q) (k q)
theorem Small.take {qs : List (List Nat)} (h : Small qs) (i : Nat) : Small (qs.take i) := fun q hq => h q (List.mem_of_mem_take hq)
theorem Small.drop {qs : List (List Nat)} (h : Small qs) (i : Nat) : Small (qs.drop i) := fun q hq => h q (List.mem_of_mem_drop hq)
theorem w_ninS {K : PySem.W.Frag} {H : Hp} {Q : VK} {p : Addr} {r : List Nat} {qs : List (List Nat)} (h : H p = some (.lst (plcs qs))) (q : Q (.bl (!decide (r ∈ qs))) H) : rIn K true (.str (pl r)) (.ref p) H Q :=
  ⟨p, _, rfl, .inl (SqL.of h), rfl, flat_pl qs, by rw [inV_pl]; exact q⟩
end Ly
set_option Elab.async false
set_option linter.all false
set_option maxRecDepth 100000
set_option maxHeartbeats 2000000
namespace Ly
open PySem PySem.Spec PyProof.Rows L2 Evl
/-- what steps at the first redex come to -/
inductive Wk where
  | done (u : Tm)
  | out
  | large
def Tm.nf : Nat → Tm → List (List Nat) × Wk
  | 0, t => ([], match t.reds [] with | [] => .done t | _ => .out)
  | k + 1, t => match t.reds [] with
    | [] => ([], .done t)
    | p :: _ => if fitsV (t.step p).enc = false then ([p], .large) else (p :: (Tm.nf k (t.step p)).1, (Tm.nf k (t.step p)).2)
section
variable {K : PySem.W.Frag} {H : Hp} {Q : VK}
theorem w_nnI {i : Int} {A B : Prop} (h : A) : if (!decide (V.int i = V.non)) = true then A else B := iteT h
theorem w_max {i j : Int} {A : Int → Prop} (q : A (if j > i then j else i)) : ∃ a b, [V.int i, V.int j] = [V.int a, V.int b] ∧ A (if b > a then b else a) := ⟨i, j, rfl, q⟩
theorem w_iR2 {σ : L2.St} {R : It → Hp → Prop} {tA : TA} (h : tA σ H fun vs H1 => ∃ i j : Int, vs = [.int i, .int j] ∧ (-(2 ^ 62) ≤ i ∧ i < 2 ^ 62 ∧ -(2 ^ 62) ≤ j ∧ j < 2 ^ 62) ∧ R (Itr i (j - i).toNat) H1) : iRng2 tA σ H R := h
theorem w_iR21 {i j : Int} {B : Int → Int → Prop} (h1 : -(2 ^ 62) ≤ i) (h2 : i < 2 ^ 62) (h3 : -(2 ^ 62) ≤ j) (h4 : j < 2 ^ 62) (q : B i j) : ∃ a b : Int, [V.int i, V.int j] = [V.int a, V.int b] ∧ (-(2 ^ 62) ≤ a ∧ a < 2 ^ 62 ∧ -(2 ^ 62) ≤ b ∧ b < 2 ^ 62) ∧ B a b := ⟨i, j, rfl, ⟨h1, h2, h3, h4⟩, q⟩
theorem w_break {D : Ends} {σ : L2.St} (h : D.bk σ H) : tBreak D σ H := h
theorem w_cont {D : Ends} {σ : L2.St} (h : D.ct σ H) : tCont D σ H := h
end
end Ly
set_option Elab.async false
set_option linter.all false
set_option maxRecDepth 100000
set_option maxHeartbeats 2000000
namespace Ly
open PySem PySem.Spec PyProof.Rows L2 HotX L2H
section
variable {prog : Program} {w : World} {A : Around} {E : Value → Shared → Prop} {s : Shared}
end
section
variable {X : Cx}
end
section
variable {P : Program} {w : World} {K : PySem.W.Frag} {mg : Str → Option Value} {base : Heap}
def DefH (P : Program) (w : World) (K : PySem.W.Frag) (mg : Str → Option Value) (base : Heap) (CX : CXT) (k : Nat) (x : Str) (ps : List Str) (sp : Sp) : Prop :=
  ∃ f fd, mg x = some (.ref f) ∧ PySem.W.keepIn K (.ref f) = true ∧ Binds K fd ps [] ∧ FnH P w K mg base CX k f fd ps sp
theorem DefH.of {CX : CXT} {k : Nat} {x : Str} {ps : List Str} {sp : Sp} {f : Addr} {fd : FuncData} (g : mg x = some (.ref f)) (kp : PySem.W.keepIn K (.ref f) = true) (b : Binds K fd ps []) (G : FnH P w K mg base CX k f fd ps sp) : DefH P w K mg base CX k x ps sp := ⟨f, fd, g, kp, b, G⟩
end
section
variable {X : Cx}
end
end Ly
set_option Elab.async false
set_option linter.all false
set_option maxRecDepth 100000
set_option maxHeartbeats 2000000
namespace Ly
open PySem PySem.Spec PyProof.Rows L2
/-- one clause: its class, the slot of its name if it has one, its suite -/
structure Cls1 where
  c : Value
  i : Option Nat
  ts : Addr → Value → Option Addr → TS
inductive HdsA (X : Cx) : List ExceptHandler → List Cls1 → Prop
  | nil : HdsA X [] []
  | bare {x : Str} {c : Value} {ts : Addr → Value → Option Addr → TS} {st : Stmt} {su : List Stmt} {np p2 : Pos} {hs : List ExceptHandler} {l : List Cls1} (hc : Names X x c)
      (hsu : ∀ (a : Addr) (oe : Obj) (cls : Value) (d : Option Addr) (pn : List (Addr × Obj)), Zc cls d oe → (∃ vs, oe.data = .fields vs) → PSs (X.suite a ((a, oe) :: pn)) (st :: su) (ts a cls d)) (r : HdsA X hs l) :
      HdsA X (.ExceptHandler (some (.Name x np)) none (st :: su) p2 :: hs) (⟨c, none, ts⟩ :: l)
  | named {x n : Str} {i : Nat} {c : Value} {ts : Addr → Value → Option Addr → TS} {st : Stmt} {su : List Stmt} {np p2 : Pos} {hs : List ExceptHandler} {l : List Cls1} (hi : X.N[i]? = some n) (hln : X.env.kindOf n = some .local) (hc : Names X x c)
      (hsu : ∀ (a : Addr) (oe : Obj) (cls : Value) (d : Option Addr) (pn : List (Addr × Obj)), Zc cls d oe → (∃ vs, oe.data = .fields vs) → PSs (X.suite a ((a, oe) :: pn)) (st :: su) (ts a cls d)) (r : HdsA X hs l) :
      HdsA X (.ExceptHandler (some (.Name x np)) (some n) (st :: su) p2 :: hs) (⟨c, some i, ts⟩ :: l)
section
variable {X : Cx}
end
end Ly
set_option Elab.async false
set_option linter.all false
set_option maxRecDepth 100000
set_option maxHeartbeats 2000000
namespace Ly
open PySem PySem.Spec PyProof.Rows L2
section
variable {X : Cx}
end
end Ly
set_option Elab.async false
set_option linter.all false
set_option maxRecDepth 100000
set_option maxHeartbeats 2000000
namespace Ly
open PySem PySem.Spec PyProof.Rows L2 Evl
section
variable {X : Cx}
def rExtT (K : PySem.W.Frag) : V → List V → Hp → VK → Prop := fun x vs H Q => ∃ l b xs zs, x = .ref l ∧ vs = [.ref b] ∧ H l = some (.lst xs) ∧ SqT K H b zs ∧ xs.length + zs.length ≤ sizeLine ∧ Q .non (upd H l (.lst (xs ++ zs)))
end
theorem w_extT {K : PySem.W.Frag} {H : Hp} {Q : VK} {l b : Addr} {xs zs : List V} (h : H l = some (.lst xs)) (h2 : SqT K H b zs) (z : xs.length + zs.length ≤ sizeLine) (q : Q .non (upd H l (.lst (xs ++ zs)))) : rExtT K (.ref l) [.ref b] H Q := ⟨l, b, xs, zs, rfl, rfl, h, h2, z, q⟩
end Ly
set_option Elab.async false
set_option linter.all false
set_option maxRecDepth 100000
set_option maxHeartbeats 2000000
namespace Ly
open PySem PySem.Spec PyProof.Rows L2 Evl
def EntsAre : List DictEntry → List (Str × V) → Prop
  | [], [] => True
  | e :: r, (k, v) :: s => (∃ t, e.key = .str k t) ∧ RelV v e.val ∧ EntsAre r s
  | _, _ => False
/-- at d: a dict of the module with these pairs -/
def KD (K : PySem.W.Frag) (w : World) (d : Addr) (kvs : List (Str × V)) : Prop :=
  ∃ es n, K.lookup d = some ⟨.type "dict", none, .dict es n, #[]⟩ ∧ PySem.W.KeysLit w.params es.toList ∧ (d == sysModules) = false ∧ EntsAre es.toList kvs
theorem KD.mk {K : PySem.W.Frag} {w : World} {d : Addr} {kvs : List (Str × V)} {es : Array DictEntry} {n : Nat} (l : K.lookup d = some ⟨.type "dict", none, .dict es n, #[]⟩) (k : PySem.W.KeysLit w.params es.toList) (s : (d == sysModules) = false) (e : EntsAre es.toList kvs) : KD K w d kvs := ⟨es, n, l, k, s, e⟩
def getS (kvs : List (Str × V)) (y : V) : Option V := match y with
  | .str k => (kvs.find? fun kv => decide (kv.1 = k)).map (·.2)
  | _ => none
def OptR : Option V → Option Value → Prop
  | some v, some u => RelV v u
  | none, none => True
  | _, _ => False
theorem OptR.getD {o : Option V} {r : Option Value} (h : OptR o r) {z : V} {u : Value} (hz : RelV z u) : RelV (o.getD z) (r.getD u) := by
  cases o with
  | none =>
    cases r with
    | none => exact hz
    | some u => exact h.elim
  | some v =>
    cases r with
    | none => exact h.elim
    | some u => exact h
theorem OptR.isSome {o : Option V} {r : Option Value} (h : OptR o r) : r.isSome = o.isSome := by
  cases o with
  | none =>
    cases r with
    | none => rfl
    | some u => exact h.elim
  | some v =>
    cases r with
    | none => exact h.elim
    | some u => rfl
/-- at a: a tuple of the module with these items -/
def KT (K : PySem.W.Frag) (a : Addr) (xs : List V) : Prop := ∃ (o : Obj) (its : Array Value) (n : Nat), K.lookup a = some o ∧ o.cls = .type "tuple" ∧ o.data = .seq its n ∧ its.size ≤ sizeLine ∧ Vals xs its.toList
theorem KT.mk {K : PySem.W.Frag} {a : Addr} {xs : List V} {o : Obj} {its : Array Value} {n : Nat} (l : K.lookup a = some o) (c : o.cls = .type "tuple") (d : o.data = .seq its n) (z : its.size ≤ sizeLine) (v : Vals xs its.toList) : KT K a xs := ⟨o, its, n, l, c, d, z, v⟩
theorem KT.sq {K : PySem.W.Frag} {a : Addr} {xs : List V} (h : KT K a xs) (H : Hp) : SqT K H a xs := .inr h
def tKGet2 (K : PySem.W.Frag) (w : World) (td ty tx : TE) : TE := fun σ H Q => td σ H fun x H1 => ∃ a kvs, x = .ref a ∧ KD K w a kvs ∧ ty σ H1 fun y H2 => tx σ H2 fun z H3 => (∃ k, y = kV k) ∧ Q ((getS kvs y).getD z) H3
section
variable {X : Cx} {o e f : Expr} {apos cpos : Pos} {td ty tx : TE}
end
section
variable {K : PySem.W.Frag} {w : World} {σ : L2.St} {H : Hp} {Q : VK} {td ty tx : TE}
theorem w_kget2 (h : td σ H fun x H1 => ∃ a kvs, x = .ref a ∧ KD K w a kvs ∧ ty σ H1 fun y H2 => tx σ H2 fun z H3 => (∃ k, y = kV k) ∧ Q ((getS kvs y).getD z) H3) : tKGet2 K w td ty tx σ H Q := h
theorem w_kg {a : Addr} {kvs : List (Str × V)} {B : List (Str × V) → Prop} (D : KD K w a kvs) (q : B kvs) : ∃ a' kvs', V.ref a = .ref a' ∧ KD K w a' kvs' ∧ B kvs' := ⟨a, kvs, rfl, D, q⟩
end
theorem w_isRN {a : Addr} {A B : Prop} (h : B) : if decide (V.ref a = V.non) = true then A else B := iteF h
theorem w_isNN {A B : Prop} (h : A) : if decide (V.non = V.non) = true then A else B := iteT h
theorem w_isIN {i : Int} {A B : Prop} (h : B) : if decide (V.int i = V.non) = true then A else B := iteF h
end Ly
set_option Elab.async false
set_option linter.all false
set_option maxRecDepth 100000
namespace Ly
open PySem PySem.Spec PyProof.Rows L2 Evl
end Ly
set_option Elab.async false
set_option linter.all false
set_option maxRecDepth 100000
set_option maxHeartbeats 2000000
namespace Ly
open PySem PySem.Spec PyProof.Rows L2 Evl
/-- a class that is made by calling it -/
def DefC (P : Program) (w : World) (K : PySem.W.Frag) (mg : Str → Option Value) (base : Heap) (CX : CXT) (k : Nat) (C : Addr) (ps : List Str) (sp : Sp) : Prop :=
  ∃ (f : Addr) (fd : FuncData), Mk K C f ∧ Binds K fd ps [] ∧ FnOk P w K mg base CX k f fd ps sp
theorem DefC.of {P : Program} {w : World} {K : PySem.W.Frag} {mg : Str → Option Value} {base : Heap} {CX : CXT} {k : Nat} {C : Addr} {ps : List Str} {sp : Sp} {f : Addr} {fd : FuncData} (M : Mk K C f) (b : Binds K fd ps []) (G : FnOk P w K mg base CX k f fd ps sp) : DefC P w K mg base CX k C ps sp := ⟨f, fd, M, b, G⟩
section
variable {K : PySem.W.Frag} {σ : L2.St} {H : Hp} {Q : VK} {D : Ends} {ta tb : TE} {tA : TA} {g : TG} {s1 : TS} {R : It → Hp → Prop}
theorem w_iE (h : tA σ H fun vs H1 => ∃ a xs, vs = [.ref a] ∧ SqL K H1 a xs ∧ R (Ite K a) H1) : iEnum K tA σ H R := h
theorem w_iE1 {a : Addr} {xs : List V} {B : Addr → Prop} (h : SqL K H a xs) (q : B a) : ∃ b ys, [V.ref a] = [V.ref b] ∧ SqL K H b ys ∧ B b := ⟨a, xs, rfl, h, q⟩
theorem for_enum {a : Addr} {xs : List V} (Pv : Nat → L2.St → Hp → Prop) (h0 : Pv 0 σ H) (hl : ∀ i σ H, Pv i σ H → SqL K H a xs)
    (hs : ∀ i x T σ H, xs[i]? = some x → H T = none → Pv i σ H → g (.ref T) σ (upd H T (.tup [.int (i : Nat), x])) fun σ2 H2 => s1 { D with nx := Pv (i + 1), ct := Pv (i + 1), bk := D.nx } σ2 H2) (hd : ∀ σ H, Pv xs.length σ H → D.nx σ H) : ForB (Ite K a) g s1 D σ H := by
  refine ⟨fun i m σ H => m = xs.length - i ∧ i ≤ xs.length ∧ Pv i σ H, ⟨_, rfl, Nat.zero_le _, h0⟩, ?_⟩
  rintro i m σ H ⟨rfl, hi, p⟩
  have sq := hl i σ H p
  by_cases hlt : i < xs.length
  · refine .inr ⟨⟨xs, xs[i], sq, List.getElem?_eq_getElem hlt⟩, Pv (i + 1), fun σ' H' p' => ⟨xs.length - (i + 1), by omega, rfl, hlt, p'⟩, fun x H' y => ?_⟩
    obtain ⟨T, z, rfl, hT, rfl, hz⟩ := y
    exact hs i z T σ H (hz xs sq) hT p
  · have e : i = xs.length := by omega
    subst e
    exact .inl ⟨⟨xs, sq, Nat.le_refl _⟩, hd σ H p⟩
theorem w_sfld {f : Str} {to tv : TE} (h : tv σ H fun y H1 => to σ H1 fun x H2 => ∃ a C dx fs, x = .ref a ∧ H2 a = some (.ins C dx fs) ∧ Cls K C ∧ NoAttr K C f ∧ fs.length < 1000 ∧ D.nx σ (upd H2 a (.ins C dx (putF f y fs)))) : sFld K to tv f D σ H := h
theorem w_tfld {f : Str} (h : ta σ H fun x H1 => ∃ a C dx fs v, x = .ref a ∧ H1 a = some (.ins C dx fs) ∧ Cls K C ∧ NoAttr K C f ∧ fs.lookup f = some v ∧ Q v H1) : tFld K ta f σ H Q := h
theorem w_make {C : Addr} {sp : Sp} {dvs : List V} {E : XK} (h : tA σ H fun vs H1 => ∀ x dx, H1 x = none → H1 dx = none → dx ≠ x → sp (.ref x :: (vs ++ dvs)) (upd (upd H1 dx (.own x)) x (.ins C dx [])) (fun v H2 => v = .non ∧ Q (.ref x) H2) E) : tMake C sp dvs E tA σ H Q := h
end
end Ly
set_option Elab.async false
set_option linter.all false
set_option maxRecDepth 100000
namespace Ly
open PySem PySem.Spec PyProof.Rows L2 Evl
def rDGet (x y : V) (H : Hp) (Q : VK) : Prop := ∃ a v, x = .ref a ∧ DGet H a y (some v) ∧ Q v H
def rDIn (x y : V) (H : Hp) (Q : VK) : Prop := ∃ a o, x = .ref a ∧ DGet H a y o ∧ Q (.bl o.isSome) H
def rDNotIn (x y : V) (H : Hp) (Q : VK) : Prop := ∃ a o, x = .ref a ∧ DGet H a y o ∧ Q (.bl (!o.isSome)) H
def rDPut (x y v : V) (H : Hp) (N : Hp → Prop) : Prop := ∃ a H4, x = .ref a ∧ DPut H a y v H4 ∧ N H4
section
variable {σ : L2.St} {H : Hp} {Q : VK} {D : Ends} {td ty tx tv : TE} {a : Addr} {kvs : List (L2.Key × V)} {i : Int} {v : V}
theorem w_tdget (h : td σ H fun x H1 => ty σ H1 fun y H2 => rDGet x y H2 Q) : tDGet td ty σ H Q := h
theorem w_tdin (h : ty σ H fun y H1 => td σ H1 fun x H2 => rDIn x y H2 Q) : tDIn ty td σ H Q := h
theorem w_tdnotin (h : ty σ H fun y H1 => td σ H1 fun x H2 => rDNotIn x y H2 Q) : tDNotIn ty td σ H Q := h
theorem w_sdput (h : tv σ H fun v H1 => td σ H1 fun x H2 => ty σ H2 fun y H3 => rDPut x y v H3 fun H4 => D.nx σ H4) : sDPut td ty tv D σ H := h
theorem w_dnew (h : ∀ p, H p = none → Q (.ref p) (upd H p (.dK []))) : tDNewK σ H Q := h
theorem w_tdsetd (h : td σ H fun x H1 => ∃ a, x = .ref a ∧ IsD H1 a ∧ ty σ H1 fun y H2 => tx σ H2 fun z H3 => ∃ (kvs : List (L2.Key × V)) (k : L2.Key), H3 a = some (.dK kvs) ∧ y = kV k ∧ kvs.length < sizeLine ∧
  (∀ v, valV kvs k = some v → Q v H3) ∧ (valV kvs k = none → Q z (upd H3 a (.dK (putK kvs k z))))) : tDSetd td ty tx σ H Q := h
theorem isD (e : H a = some (.dK kvs)) : IsD H a := .inl ⟨kvs, .inl e⟩
end
/-- the dict that numbers vs -/
def NumD (vs : List Nat) (kvs : List (L2.Key × V)) : Prop := kvs.length = vs.length ∧ ∀ n : Nat, valV kvs (.inl (n : Int)) = if n ∈ vs then some (.int (vs.idxOf n : Nat)) else none
theorem NumD.nil : NumD [] [] := ⟨rfl, fun n => rfl⟩
theorem NumD.put {vs : List Nat} {kvs : List (L2.Key × V)} {n : Nat} (h : NumD vs kvs) (hn : n ∉ vs) : NumD (vs ++ [n]) (putK kvs (.inl (n : Int)) (.int (vs.length : Nat))) := by
  have h0 : valV kvs (.inl (n : Int)) = none := by rw [h.2 n, if_neg hn]
  refine ⟨?_, fun m => ?_⟩
  · rw [putK_new _ h0, List.length_append, List.length_append, h.1]
    rfl
  · rw [valV_put, h.2 m]
    by_cases e : m = n
    · subst e
      rw [if_pos rfl, if_pos (by simp), List.idxOf_append, if_neg hn]
      simp
    · have e2 : ¬ ((.inl (m : Int) : L2.Key) = .inl (n : Int)) := fun z => e (by have := Sum.inl.inj z; omega)
      rw [if_neg e2]
      by_cases hm : m ∈ vs
      · rw [if_pos hm, if_pos (by simp [hm]), List.idxOf_append, if_pos hm]
      · rw [if_neg hm, if_neg (by simp [hm, e])]
end Ly
set_option linter.all false
namespace Ly
open PySem PySem.Spec PyProof.Rows L2 Evl
theorem ps_dead {X : Cx} {st : Stmt} : PS X st (fun _ _ _ => False) := ⟨fun _ _ _ _ _ _ h => h.elim⟩
end Ly
set_option Elab.async false
set_option linter.all false
set_option maxRecDepth 100000
namespace Ly
open PySem PySem.Spec PyProof.Rows L2 Evl
abbrev Fp := List (Addr × HO)
structure Own (H0 H : Hp) (F : Fp) : Prop where
  ex : Ex H0 H
  nd : (F.map (·.1)).Nodup
  on : ∀ p ∈ F, H p.1 = some p.2
  nw : ∀ p ∈ F, H0 p.1 = none
section
variable {H0 H H' : Hp} {F G F1 F2 : Fp} {a b : Addr} {o u : HO}
theorem Own.nil (e : Ex H0 H) : Own H0 H [] := ⟨e, List.nodup_nil, fun p h => (nomatch h), fun p h => (nomatch h)⟩
theorem Own.perm (h : Own H0 H F) (p : F.Perm G) : Own H0 H G :=
  ⟨h.ex, (p.map _).nodup_iff.mp h.nd, fun q m => h.on q (p.mem_iff.mpr m), fun q m => h.nw q (p.mem_iff.mpr m)⟩
theorem Own.sub (h : Own H0 H F) (s : G.Sublist F) : Own H0 H G :=
  ⟨h.ex, (s.map _).nodup h.nd, fun q m => h.on q (s.subset m), fun q m => h.nw q (s.subset m)⟩
theorem Own.at (h : Own H0 H F) (m : (a, o) ∈ F) : H a = some o := h.on _ m
theorem Own.mono (h : Own H0 H F) (e : Ex H H') : Own H0 H' F := ⟨h.ex.trans e, h.nd, fun p m => e _ _ (h.on p m), h.nw⟩
theorem Own.new (h : Own H0 H F) (hp : H a = none) : Own H0 (upd H a u) ((a, u) :: F) := by
  have h0 : H0 a = none := fresh_back h.ex hp
  have na : ∀ p ∈ F, p.1 ≠ a := fun p m z => by
    have := h.on p m
    rw [z, hp] at this
    cases this
  refine ⟨ex_new h.ex hp, ?_, fun p m => ?_, fun p m => ?_⟩
  · rw [List.map_cons, List.nodup_cons]
    refine ⟨fun m => ?_, h.nd⟩
    obtain ⟨p, mp, e⟩ := List.mem_map.mp m
    exact na p mp e
  · rcases List.mem_cons.mp m with rfl | m
    · exact upd_same
    · rw [upd_ne (na p m)]
      exact h.on p m
  · rcases List.mem_cons.mp m with rfl | m
    · exact h0
    · exact h.nw p m
theorem Own.mid (h : Own H0 H (F1 ++ (a, o) :: F2)) : Own H0 (upd H a u) (F1 ++ (a, u) :: F2) := by
  have nd := h.nd
  rw [List.map_append, List.map_cons] at nd
  have h0 : H0 a = none := h.nw (a, o) (by simp)
  have nd2 := (List.perm_middle.nodup_iff).mp nd
  rw [List.nodup_cons] at nd2
  have na : ∀ p, p ∈ F1 ∨ p ∈ F2 → p.1 ≠ a := fun p m z => nd2.1 (by
    rw [List.mem_append]
    rcases m with m | m
    · exact .inl (z ▸ List.mem_map.mpr ⟨p, m, rfl⟩)
    · exact .inr (z ▸ List.mem_map.mpr ⟨p, m, rfl⟩))
  refine ⟨ex_upd h.ex h0, by rw [List.map_append, List.map_cons]; exact nd, fun p m => ?_, fun p m => ?_⟩
  · rcases List.mem_append.mp m with m | m
    · rw [upd_ne (na p (.inl m))]
      exact h.on p (by simp [m])
    · rcases List.mem_cons.mp m with rfl | m
      · exact upd_same
      · rw [upd_ne (na p (.inr m))]
        exact h.on p (by simp [m])
  · rcases List.mem_append.mp m with m | m
    · exact h.nw p (by simp [m])
    · rcases List.mem_cons.mp m with rfl | m
      · exact h0
      · exact h.nw p (by simp [m])
theorem Own.put (h : Own H0 H ((a, o) :: F)) : Own H0 (upd H a u) ((a, u) :: F) := Own.mid (F1 := []) h
theorem Own.set (i : Nat) (h : Own H0 H F) (e : F[i]? = some (a, o)) : Own H0 (upd H a u) (F.set i (a, u)) := by
  obtain ⟨hi, e⟩ := List.getElem?_eq_some_iff.mp e
  have e1 : F = F.take i ++ (a, o) :: F.drop (i + 1) := by
    rw [← e, List.getElem_cons_drop, List.take_append_drop]
  have e2 : F.set i (a, u) = F.take i ++ (a, u) :: F.drop (i + 1) := List.set_eq_take_append_cons_drop .. |>.trans (if_pos hi)
  rw [e2]
  rw [e1] at h
  exact h.mid
theorem Own.keys (h : Own H0 H F) {i j : Nat} {p q : Addr × HO} (hi : F[i]? = some p) (hj : F[j]? = some q) (n : i ≠ j) : p.1 ≠ q.1 := fun z => by
  have nd := h.nd
  obtain ⟨li, ei⟩ := List.getElem?_eq_some_iff.mp hi
  obtain ⟨lj, ej⟩ := List.getElem?_eq_some_iff.mp hj
  have h1 : i < (F.map fun p => p.1).length := by simpa using li
  have h2 : j < (F.map fun p => p.1).length := by simpa using lj
  have e : (F.map fun p => p.1)[i] = (F.map fun p => p.1)[j] := by
    rw [List.getElem_map, List.getElem_map, ei, ej]
    exact z
  exact n ((List.getElem_inj nd).mp e)
theorem Own.pickN (h : Own H0 H F) : ∀ (I : List Nat) (G : Fp), I.Nodup → I.map (fun i => F[i]?) = G.map some → (G.map (·.1)).Nodup ∧ ∀ p ∈ G, ∃ i ∈ I, F[i]? = some p
  | [], G, _, e => by
    have : G = [] := by simpa using e.symm
    subst this
    exact ⟨List.nodup_nil, fun p m => (nomatch m)⟩
  | i :: I, [], _, e => by simp at e
  | i :: I, p :: G, n, e => by
    rw [List.map_cons, List.map_cons, List.cons.injEq] at e
    rw [List.nodup_cons] at n
    obtain ⟨h1, h2⟩ := Own.pickN h I G n.2 e.2
    refine ⟨?_, fun q m => ?_⟩
    · rw [List.map_cons, List.nodup_cons]
      refine ⟨fun m => ?_, h1⟩
      obtain ⟨q, mq, eq⟩ := List.mem_map.mp m
      obtain ⟨j, mj, ej⟩ := h2 q mq
      exact h.keys ej e.1 (fun z => n.1 (z ▸ mj)) eq
    · rcases List.mem_cons.mp m with rfl | m
      · exact ⟨i, List.mem_cons_self, e.1⟩
      · obtain ⟨j, mj, ej⟩ := h2 q m
        exact ⟨j, List.mem_cons_of_mem _ mj, ej⟩
/-- some of what one owns, in any order -/
theorem Own.pick (I : List Nat) (h : Own H0 H F) (n : I.Nodup) (e : I.map (fun i => F[i]?) = G.map some) : Own H0 H G := by
  obtain ⟨h1, h2⟩ := Own.pickN h I G n e
  refine ⟨h.ex, h1, fun p m => ?_, fun p m => ?_⟩
  · obtain ⟨i, _, ei⟩ := h2 p m
    exact h.on p (List.mem_of_getElem? ei)
  · obtain ⟨i, _, ei⟩ := h2 p m
    exact h.nw p (List.mem_of_getElem? ei)
theorem Own.ne (h : Own H0 H F) (m1 : (a, o) ∈ F) (m2 : (b, u) ∈ F) (n : o ≠ u) : a ≠ b := fun z => by
  have e1 := h.on _ m1
  have e2 := h.on _ m2
  rw [z] at e1
  exact n (Option.some.inj (e1.symm.trans e2))
end
end Ly
set_option Elab.async false
set_option linter.all false
set_option maxRecDepth 100000
namespace Ly
open PySem PySem.Spec PyProof.Rows L2 Evl
structure Lv where
  op : Str
  nm : Bool
  ns : List Str
  pt : Nat
  nd : List V
def Lv.new (o : Str) : Lv := ⟨o, decide (o = "\\"), [], 0, []⟩
def Lv.whole (l : Lv) : Bool := !l.nm && decide (0 < l.pt)
def Lv.add (l : Lv) (xs : List V) : Lv := { l with pt := l.pt + 1, nd := l.nd ++ xs }
def Lv.all (l : Lv) : List V := List.replicate l.ns.length (V.str "lam") ++ List.replicate (l.pt - 1) (V.str "app") ++ l.nd
def Lv.size (l : Lv) : Nat := l.ns.length + l.pt + l.nd.length
def scp : List Lv → List Str
  | [] => []
  | l :: r => scp r ++ l.ns
def sizes : List Lv → Nat
  | [] => 0
  | l :: r => l.size + sizes r
/-- the number that a name stands for -/
def numOf (fs sc : List Str) (n : Str) : Option Nat := if n ∈ sc then some (sc.reverse.idxOf n) else if n ∈ fs then some (sc.length + fs.idxOf n) else none
def closeAbs : Lv → List Lv → Lv × List Lv
  | l, [] => (l, [])
  | l, p :: r => if l.op = "\\" then closeAbs (p.add l.all) r else (l, p :: r)
def stepT (fs : List Str) (l : Lv) (r : List Lv) (tok : Str) : Option (Lv × List Lv) :=
  if tok = "(" ∨ tok = "\\" then (if l.nm = true ∨ 60 < r.length + 1 then none else some (Lv.new tok, l :: r))
  else if tok = "." then (if l.nm = false ∨ l.ns = [] then none else some ({ l with nm := false }, r))
  else if tok = ")" then (if l.whole = false then none else if (closeAbs l r).1.op = "(" then match (closeAbs l r).2 with
      | [] => none
      | p :: r2 => some (p.add (closeAbs l r).1.all, r2) else none)
  else if l.nm = true then some ({ l with ns := l.ns ++ [tok] }, r)
  else match numOf fs (scp (l :: r)) tok with
    | none => none
    | some k => some (l.add [V.int (k : Int)], r)
def finT (l : Lv) (r : List Lv) : Option (List V) := if l.whole = false then none else match (closeAbs l r).2 with
  | [] => some (closeAbs l r).1.all
  | _ :: _ => none
/-- the last level is the text's -/
def Bot : Lv → List Lv → Prop
  | l, [] => l.op = ""
  | _, p :: r => Bot p r
def isLow (c : Nat) : Bool := decide (97 ≤ c ∧ c ≤ 122)
def isDig (c : Nat) : Bool := decide (48 ≤ c ∧ c ≤ 57)
def isSgn (c : Nat) : Bool := c == 92 || c == 46 || c == 40 || c == 41
/-- the length of the token that begins here; or the index where it fails -/
def tokL : List Nat → Sum Nat Nat
  | [] => .inr 0
  | c :: r => if isLow c = true then (if 10 ≤ (r.takeWhile isDig).length then .inr 10 else .inl (1 + (r.takeWhile isDig).length))
    else if isSgn c = true then .inl 1 else .inr 0
def readT (fs : List Str) : Nat → Lv → List Lv → Nat → List Nat → Except Nat (Lv × List Lv)
  | 0, l, r, _, _ => .ok (l, r)
  | _ + 1, l, r, _, [] => .ok (l, r)
  | n + 1, l, r, i, c :: cs => if c = 32 then readT fs n l r (i + 1) cs else match tokL (c :: cs) with
    | .inr k => .error (i + k)
    | .inl k => match stepT fs l r (⟨((c :: cs).take k).toArray⟩) with
      | none => .error i
      | some (l', r') => readT fs n l' r' (i + k) ((c :: cs).drop k)
def parseT (fs : List Str) (cs : List Nat) : Except Nat (List V) := match readT fs cs.length (Lv.new "") [] 0 cs with
  | .error i => .error i
  | .ok (l, r) => match finT l r with
    | none => .error cs.length
    | some xs => .ok xs
def posL (n : Str) : Nat → List Str → List Nat
  | _, [] => []
  | i, m :: r => if m = n then i :: posL n (i + 1) r else posL n (i + 1) r
theorem posL_app (n : Str) : ∀ (a b : List Str) (i : Nat), posL n i (a ++ b) = posL n i a ++ posL n (i + a.length) b
  | [], b, i => rfl
  | m :: a, b, i => by
    have ih := posL_app n a b (i + 1)
    rw [show i + 1 + a.length = i + (m :: a).length by simp; omega] at ih
    simp only [List.cons_append, posL]
    rw [ih]
    split <;> simp
theorem posL_len (n : Str) : ∀ (a : List Str) (i : Nat), (posL n i a).length = a.count n
  | [], i => rfl
  | m :: a, i => by
    have ih := posL_len n a (i + 1)
    simp only [posL, List.count_cons]
    split
    · rename_i h
      simp [h, ih]
    · rename_i h
      simp [h, ih]
theorem posL_nil {n : Str} {a : List Str} {i : Nat} (h : n ∉ a) : posL n i a = [] := by
  have := posL_len n a i
  rw [List.count_eq_zero_of_not_mem h] at this
  exact List.length_eq_zero_iff.mp this
/-- the last position: counted from behind -/
theorem posL_last (n : Str) : ∀ (k : Nat) (a : List Str), a.length = k → n ∈ a → ∃ xs k, posL n 0 a = xs ++ [k] ∧ k + 1 + a.reverse.idxOf n = a.length
  | 0, a, hk, h => by
    rw [List.length_eq_zero_iff.mp hk] at h
    cases h
  | k + 1, a, hk, h => by
    rcases List.eq_nil_or_concat a with rfl | ⟨b, m, rfl⟩
    · cases h
    rw [List.concat_eq_append] at h ⊢
    rw [posL_app, List.reverse_append]
    by_cases e : m = n
    · subst e
      refine ⟨posL m 0 b, b.length, by simp [posL], ?_⟩
      simp
    · have hn : n ∈ b := by
        rcases List.mem_append.mp h with h | h
        · exact h
        · exact absurd (List.mem_singleton.mp h).symm e
      obtain ⟨xs, j, e1, e2⟩ := posL_last n k b (by simpa using hk) hn
      refine ⟨xs, j, by rw [e1]; simp [posL, e], ?_⟩
      have e3 : (m == n) = false := beq_eq_false_iff_ne.mpr e
      rw [show ([m].reverse ++ b.reverse) = m :: b.reverse from rfl, List.idxOf_cons, e3, List.length_append, List.length_singleton]
      show j + 1 + (b.reverse.idxOf n + 1) = _
      omega
end Ly
set_option Elab.async false
set_option linter.all false
set_option maxRecDepth 100000
namespace Ly
open PySem PySem.Spec PyProof.Rows L2 Evl
abbrev LA := Addr × Addr × Addr × Addr
def lvFs (l : Lv) (nl dl : Addr) : List (Str × V) := [("opener", .str l.op), ("naming", .bl l.nm), ("names", .ref nl), ("parts", .int (l.pt : Int)), ("nodes", .ref dl)]
def rdFs (dn db ll : Addr) (d : Nat) : List (Str × V) := [("numbers", .ref dn), ("bound", .ref db), ("depth", .int (d : Int)), ("levels", .ref ll)]
abbrev txts (ns : List Str) : List V := ns.map V.str
def lvFp (CL : Addr) (a : LA) (l : Lv) : Fp := [(a.1, .ins CL a.2.1 (lvFs l a.2.2.1 a.2.2.2)), (a.2.2.1, .lst (txts l.ns)), (a.2.2.2, .lst l.nd)]
def lvsFp (CL : Addr) : List LA → List Lv → Fp
  | a :: as, l :: ls => lvFp CL a l ++ lvsFp CL as ls
  | _, _ => []
def bdFp (g : Str → List V) (BA : List (Str × Addr)) : Fp := BA.map fun p => (p.2, .lst (g p.1))
abbrev pos0 (sc : List Str) (n : Str) : List V := nums (posL n 0 sc)
abbrev headFp (CR : Addr) (x dx dn db ll : Addr) (kn kb : List (L2.Key × V)) (d : Nat) (xs : List V) : Fp := [(x, .ins CR dx (rdFs dn db ll d)), (dn, .dK kn), (db, .dK kb), (ll, .lst xs)]
def NumS (fs : List Str) (kn : List (L2.Key × V)) : Prop := ∀ n, valV kn (.inr n) = if n ∈ fs then some (.int (fs.idxOf n : Nat)) else none
structure Bnd (BA : List (Str × Addr)) (kb : List (L2.Key × V)) (sc : List Str) (N : Nat) : Prop where
  nd : (BA.map (·.1)).Nodup
  val : ∀ n, valV kb (.inr n) = (BA.lookup n).map V.ref
  cov : ∀ n ∈ sc, (BA.lookup n).isSome = true
  len : kb.length ≤ N
def lls (as : List LA) : List V := (as.map fun a => V.ref a.1).reverse
theorem lls_cons (a : LA) (as : List LA) : lls (a :: as) = lls as ++ [V.ref a.1] := by simp [lls]
structure RdF (CR CL : Addr) (H0 H : Hp) (x dx dn db ll : Addr) (kn kb : List (L2.Key × V)) (BA : List (Str × Addr)) (a : LA) (as : List LA) (fs : List Str) (N : Nat) (l : Lv) (r : List Lv) : Prop where
  own : Own H0 H (headFp CR x dx dn db ll kn kb (scp (l :: r)).length (lls (a :: as)) ++ (lvFp CL a l ++ (lvsFp CL as r ++ bdFp (pos0 (scp (l :: r))) BA)))
  len : as.length = r.length
  num : NumS fs kn
  bd : Bnd BA kb (scp (l :: r)) N
  sz : sizes (l :: r) ≤ 2 * N
  bot : Bot l r
/-- the reader at x has read so far -/
def RdAt (CR CL : Addr) (H0 H : Hp) (x : Addr) (fs : List Str) (N : Nat) (l : Lv) (r : List Lv) : Prop := ∃ dx dn db ll kn kb BA a as, RdF CR CL H0 H x dx dn db ll kn kb BA a as fs N l r
section
variable {CR CL : Addr} {H0 H H' : Hp} {x : Addr} {fs : List Str} {N M : Nat} {l : Lv} {r : List Lv}
theorem RdAt.mono (h : RdAt CR CL H0 H x fs N l r) (e : Ex H H') : RdAt CR CL H0 H' x fs N l r := by
  obtain ⟨dx, dn, db, ll, kn, kb, BA, a, as, h⟩ := h
  exact ⟨dx, dn, db, ll, kn, kb, BA, a, as, h.own.mono e, h.len, h.num, h.bd, h.sz, h.bot⟩
theorem RdAt.more (h : RdAt CR CL H0 H x fs N l r) (e : N ≤ M) : RdAt CR CL H0 H x fs M l r := by
  obtain ⟨dx, dn, db, ll, kn, kb, BA, a, as, h⟩ := h
  exact ⟨dx, dn, db, ll, kn, kb, BA, a, as, h.own, h.len, h.num, ⟨h.bd.nd, h.bd.val, h.bd.cov, Nat.le_trans h.bd.len e⟩, by have := h.sz; omega, h.bot⟩
end
theorem RdAt.top {CR CL : Addr} {H0 H : Hp} {x : Addr} {fs : List Str} {N : Nat} {l : Lv} {r : List Lv} (h : RdAt CR CL H0 H x fs N l r) : ∃ (dx dn db ll ax adx nl dl : Addr) (d : Nat) (ys : List V), H x = some (.ins CR dx (rdFs dn db ll d)) ∧ H ll = some (.lst (ys ++ [V.ref ax])) ∧
    H ax = some (.ins CL adx (lvFs l nl dl)) ∧ H nl = some (.lst (txts l.ns)) ∧ H dl = some (.lst l.nd) ∧ ys.length = r.length := by
  obtain ⟨dx, dn, db, ll, kn, kb, BA, a, as, h⟩ := h
  have ow := h.own
  rw [lls_cons] at ow
  exact ⟨dx, dn, db, ll, a.1, a.2.1, a.2.2.1, a.2.2.2, (scp (l :: r)).length, lls as, ow.at (by simp), ow.at (by simp), ow.at (by simp [lvFp]), ow.at (by simp [lvFp]), ow.at (by simp [lvFp]), by simp [lls, h.len]⟩
theorem RdAt.ex {CR CL : Addr} {H0 H : Hp} {x : Addr} {fs : List Str} {N : Nat} {l : Lv} {r : List Lv} (h : RdAt CR CL H0 H x fs N l r) : Ex H0 H := by
  obtain ⟨_, _, _, _, _, _, _, _, _, h⟩ := h
  exact h.own.ex
theorem RdAt.bot {CR CL : Addr} {H0 H : Hp} {x : Addr} {fs : List Str} {N : Nat} {l : Lv} {r : List Lv} (h : RdAt CR CL H0 H x fs N l r) : Bot l r := by
  obtain ⟨_, _, _, _, _, _, _, _, _, h⟩ := h
  exact h.bot
theorem RdAt.size {CR CL : Addr} {H0 H : Hp} {x : Addr} {fs : List Str} {N : Nat} {l : Lv} {r : List Lv} (h : RdAt CR CL H0 H x fs N l r) : sizes (l :: r) ≤ 2 * N := by
  obtain ⟨_, _, _, _, _, _, _, _, _, h⟩ := h
  exact h.sz
theorem close_stop {l : Lv} {r : List Lv} (h : l.op ≠ "\\") : closeAbs l r = (l, r) := by
  cases r with
  | nil => rfl
  | cons p r => rw [closeAbs, if_neg h]
theorem close_go {l p : Lv} {r : List Lv} (h : l.op = "\\") : closeAbs l (p :: r) = closeAbs (p.add l.all) r := by rw [closeAbs, if_pos h]
theorem close_pt : ∀ (r : List Lv) (l : Lv), 0 < l.pt → 0 < (closeAbs l r).1.pt
  | [], l, h => h
  | p :: r, l, h => by
    rw [closeAbs]
    split
    · exact close_pt r _ (Nat.succ_pos _)
    · exact h
theorem lookup_split {n : Str} {b : Addr} : ∀ {BA : List (Str × Addr)}, BA.lookup n = some b → ∃ B1 B2, BA = B1 ++ (n, b) :: B2
  | (m, c) :: BA, h => by
    rw [List.lookup_cons] at h
    cases e : n == m with
    | true =>
      rw [e] at h
      cases h
      rw [beq_iff_eq] at e
      subst e
      exact ⟨[], BA, rfl⟩
    | false =>
      rw [e] at h
      obtain ⟨B1, B2, rfl⟩ := lookup_split h
      exact ⟨(m, c) :: B1, B2, rfl⟩
theorem bdFp_upd {g g' : Str → List V} {n : Str} {b : Addr} {B1 B2 : List (Str × Addr)} (nd : ((B1 ++ (n, b) :: B2).map (·.1)).Nodup) (h : ∀ m, m ≠ n → g' m = g m) :
    bdFp g' (B1 ++ (n, b) :: B2) = bdFp g B1 ++ (b, .lst (g' n)) :: bdFp g B2 := by
  rw [List.map_append, List.map_cons] at nd
  have nd2 := (List.perm_middle.nodup_iff).mp nd
  rw [List.nodup_cons] at nd2
  have same : ∀ B : List (Str × Addr), (∀ p ∈ B, p.1 ≠ n) → bdFp g' B = bdFp g B := fun B hB => List.map_congr_left fun p hp => by rw [h p.1 (hB p hp)]
  unfold bdFp
  rw [List.map_append, List.map_cons]
  have s1 := same B1 fun p hp z => nd2.1 (by rw [List.mem_append]; exact .inl (z ▸ List.mem_map.mpr ⟨p, hp, rfl⟩))
  have s2 := same B2 fun p hp z => nd2.1 (by rw [List.mem_append]; exact .inr (z ▸ List.mem_map.mpr ⟨p, hp, rfl⟩))
  unfold bdFp at s1 s2
  rw [s1, s2]
theorem bdFp_split {g : Str → List V} {n : Str} {b : Addr} {B1 B2 : List (Str × Addr)} : bdFp g (B1 ++ (n, b) :: B2) = bdFp g B1 ++ (b, .lst (g n)) :: bdFp g B2 := by
  unfold bdFp
  rw [List.map_append, List.map_cons]
theorem bdFp_congr {g g' : Str → List V} {BA : List (Str × Addr)} (h : ∀ m, g' m = g m) : bdFp g' BA = bdFp g BA := List.map_congr_left fun p hp => by rw [h p.1]
theorem scp_cons (l : Lv) (r : List Lv) : scp (l :: r) = scp r ++ l.ns := rfl
theorem scp_len : ∀ ls : List Lv, (scp ls).length ≤ sizes ls
  | [] => Nat.le_refl _
  | l :: r => by
    have ih := scp_len r
    show (scp r ++ l.ns).length ≤ l.size + sizes r
    rw [List.length_append]
    unfold Lv.size
    omega
theorem all_len {l : Lv} (h : 0 < l.pt) : l.all.length + 1 = l.size := by
  unfold Lv.all Lv.size
  simp
  omega
theorem size_add (l : Lv) (xs : List V) : (l.add xs).size = l.size + xs.length + 1 := by
  unfold Lv.add Lv.size
  simp
  omega
section
variable {σ : L2.St} {H : Hp} {Q : VK} {D : Ends} {td ty tx tv ta : TE} {a : Addr} {kvs : List (L2.Key × V)} {n : Str} {v : V} {K : PySem.W.Frag}
theorem w_tdget2 (h : td σ H fun x H1 => ∃ a, x = .ref a ∧ IsD H1 a ∧ ty σ H1 fun y H2 => tx σ H2 fun z H3 => ∃ o, DGet H3 a y o ∧ Q (o.getD z) H3) : tDGet2 td ty tx σ H Q := h
theorem w_dgetS (e : H a = some (.dK kvs)) (hv : valV kvs (.inr n) = some v) (q : Q v H) : rDGet (.ref a) (.str n) H Q :=
  ⟨a, v, rfl, by rw [← hv]; exact DGet.k (k := .inr n) e, q⟩
theorem w_dinS (e : H a = some (.dK kvs)) (q : Q (.bl (valV kvs (.inr n)).isSome) H) : rDIn (.ref a) (.str n) H Q :=
  ⟨a, _, rfl, DGet.k (k := .inr n) e, q⟩
theorem w_dnotinS (e : H a = some (.dK kvs)) (q : Q (.bl (!(valV kvs (.inr n)).isSome)) H) : rDNotIn (.ref a) (.str n) H Q :=
  ⟨a, _, rfl, DGet.k (k := .inr n) e, q⟩
theorem w_dputS {N : Hp → Prop} (e : H a = some (.dK kvs)) (z : kvs.length < sizeLine) (q : N (upd H a (.dK (putK kvs (.inr n) v)))) : rDPut (.ref a) (.str n) v H N :=
  ⟨a, _, rfl, DPut.k (k := .inr n) e z, q⟩
theorem w_sfa {f : Str} {rd : V → V → Hp → VK → Prop} (h : ta σ H fun x H1 => ∃ a C dx fs v, x = .ref a ∧ H1 a = some (.ins C dx fs) ∧ Cls K C ∧ NoAttr K C f ∧ fs.lookup f = some v ∧
  tv σ H1 fun y H2 => rd v y H2 fun z H3 => ∃ dx' fs', H3 a = some (.ins C dx' fs') ∧ fs'.length < 1000 ∧ D.nx σ (upd H3 a (.ins C dx' (putF f z fs')))) : sFldAug K ta tv rd f D σ H := h
theorem w_tmP {C : Addr} {m : Str} {sp : Sp} {dvs : List V} {E : XK} {t : TA} (h : ta σ H fun x H1 => ∃ a dx fs, x = .ref a ∧ H1 a = some (.ins C dx fs) ∧ List.lookup m fs = none ∧ t σ H1 fun vs H2 => sp (x :: (vs ++ dvs)) H2 Q E) : tMeth C m sp dvs E ta t σ H Q := h
theorem dgetS (e : H a = some (.dK kvs)) : DGet H a (.str n) (valV kvs (.inr n)) := DGet.k (k := .inr n) e
end
end Ly
set_option Elab.async false
set_option linter.all false
set_option maxRecDepth 100000
namespace Ly
open PySem PySem.Spec PyProof.Rows L2 Evl
structure IsNm (w : List Nat) : Prop where
  ex : ∃ c ds, w = c :: ds ∧ isLow c = true ∧ ds.all isDig = true ∧ ds.length ≤ 8
inductive Kd4 | part | row | abs | opn
def wrapW (ws : List (List Nat)) : List (List Nat) := [40] :: ws ++ [[41]]
def nmOf (fs sc : List (List Nat)) (w : List Nat) : Option Nat := numOf (fs.map pl) (sc.map pl) (pl w)
inductive Mk (fs : List (List Nat)) : List (List Nat) → Nat → List (List Nat) → Tm → Kd4 → Prop
  | name {sc D w k} : IsNm w → nmOf fs sc w = some k → Mk fs sc D [w] (.var k) .part
  | abs {sc D own ws t kd} : own ≠ [] → own.length ≤ 3 → (∀ w ∈ own, IsNm w) → Mk fs (sc ++ own) D ws t kd → Mk fs sc (D + 1) ([92] :: (own ++ [46] :: ws)) (Tm.lamN own.length t) .abs
  | app {sc D l r L R f a k1 k2 kd} : Mk fs sc D l f k1 → Mk fs sc D r a k2 → (L = wrapW l ∨ (L = l ∧ (k1 = .part ∨ k1 = .row))) → ((R = wrapW r ∧ kd = .row) ∨ (R = r ∧ k2 = .part ∧ kd = .row) ∨ (R = r ∧ k2 = .abs ∧ kd = .opn)) → Mk fs sc (D + 1) (L ++ R) (.app f a) kd
theorem Mk.mono {fs sc D ws t kd} (h : Mk fs sc D ws t kd) : ∀ {D'}, D ≤ D' → Mk fs sc D' ws t kd := by
  induction h with
  | name h1 h2 => exact fun _ => .name h1 h2
  | abs h1 h2 h3 h4 ih =>
    intro D' hD
    obtain ⟨D2, rfl⟩ : ∃ k, D' = k + 1 := ⟨D' - 1, by omega⟩
    exact .abs h1 h2 h3 (ih (by omega))
  | app h1 h2 hl hr ih1 ih2 =>
    intro D' hD
    obtain ⟨D2, rfl⟩ : ∃ k, D' = k + 1 := ⟨D' - 1, by omega⟩
    exact .app (ih1 (by omega)) (ih2 (by omega)) hl hr
def kdStr : Kd4 → Str
  | .part => "part"
  | .row => "row"
  | .abs => "open"
  | .opn => "open"
theorem Mk.head {fs sc D ws t kd} (h : Mk fs sc D ws t kd) : ∃ w r, ws = w :: r ∧ (kd ≠ .abs → w ≠ [92]) := by
  induction h with
  | name hn _ =>
    obtain ⟨c, ds, rfl, hc, _⟩ := hn.ex
    refine ⟨_, _, rfl, fun _ z => ?_⟩
    cases z
    exact absurd hc (by decide)
  | abs => exact ⟨_, _, rfl, fun z => absurd rfl z⟩
  | app h1 h2 hl hr ih1 ih2 =>
    obtain ⟨w, r, rfl, hw⟩ := ih1
    rcases hl with rfl | ⟨rfl, hk⟩
    · exact ⟨[40], _, rfl, fun _ z => by cases z⟩
    · refine ⟨w, _, rfl, fun _ => hw ?_⟩
      rcases hk with rfl | rfl <;> exact fun z => nomatch z
theorem Mk.size {fs sc D ws t kd} (h : Mk fs sc D ws t kd) : ws.length + 5 ≤ 6 * 2 ^ D ∧ t.enc.length + 3 ≤ 4 * 2 ^ D := by
  induction h with
  | @name sc D w k _ _ =>
    have := Nat.one_le_two_pow (n := D)
    simp only [Tm.enc, List.length_singleton]
    omega
  | abs h1 h2 h3 h4 ih =>
    rw [Nat.pow_succ]
    simp only [List.length_cons, List.length_append, Tm.enc_lamN, List.length_flatten, List.map_replicate, List.sum_replicate_nat]
    simp only [List.length_nil]
    omega
  | app h1 h2 hl hr ih1 ih2 =>
    have e1 : ∀ ws : List (List Nat), (wrapW ws).length = ws.length + 2 := fun ws => by simp [wrapW]
    rw [Nat.pow_succ]
    simp only [List.length_cons, List.length_append, Tm.enc]
    have l1 : ∀ {L l : List (List Nat)} {k1 : Kd4}, (L = wrapW l ∨ (L = l ∧ (k1 = .part ∨ k1 = .row))) → L.length ≤ l.length + 2 := by
      rintro L l k1 (rfl | ⟨rfl, _⟩)
      · exact Nat.le_of_eq (e1 l)
      · omega
    have l2 := l1 hl
    rcases hr with ⟨rfl, _⟩ | ⟨rfl, _⟩ | ⟨rfl, _⟩
    · rw [e1]
      omega
    · omega
    · omega
theorem numOf_lt {fs sc : List Str} {n : Str} {k : Nat} (h : numOf fs sc n = some k) : k < sc.length + fs.length := by
  unfold numOf at h
  split at h
  · rename_i hm
    cases h
    have := List.idxOf_lt_length_of_mem (List.mem_reverse.mpr hm)
    rw [List.length_reverse] at this
    omega
  · split at h
    · rename_i hm
      cases h
      have := List.idxOf_lt_length_of_mem hm
      omega
    · cases h
theorem Mk.vars {fs sc D ws t kd} (h : Mk fs sc D ws t kd) : ∀ M, sc.length + fs.length + 3 * D ≤ M → t.vars M := by
  induction h with
  | name _ hk =>
    intro M hM
    have := numOf_lt hk
    simp only [List.length_map] at this
    show _ ≤ M
    omega
  | abs h1 h2 h3 h4 ih =>
    intro M hM
    exact Tm.vars_lamN (ih M (by rw [List.length_append]; omega))
  | app h1 h2 hl hr ih1 ih2 =>
    intro M hM
    exact ⟨ih1 M (by omega), ih2 M (by omega)⟩
/-- words one after the other -/
def runW (fs : List Str) : Lv → List Lv → List (List Nat) → Option (Lv × List Lv)
  | l, r, [] => some (l, r)
  | l, r, w :: ws => match stepT fs l r (pl w) with
    | none => none
    | some x => runW fs x.1 x.2 ws
theorem runW_cons {fs : List Str} {l l' : Lv} {r r' : List Lv} {w : List Nat} {ws : List (List Nat)} (h : stepT fs l r (pl w) = some (l', r')) : runW fs l r (w :: ws) = runW fs l' r' ws := by
  rw [runW, h]
theorem runW_app {fs : List Str} : ∀ {a b : List (List Nat)} {l l' : Lv} {r r' : List Lv}, runW fs l r a = some (l', r') → runW fs l r (a ++ b) = runW fs l' r' b
  | [], b, l, l', r, r', h => by
    cases h
    rfl
  | w :: a, b, l, l', r, r', h => by
    rw [runW] at h
    rw [List.cons_append, runW]
    cases e : stepT fs l r (pl w) with
    | none => rw [e] at h; cases h
    | some x =>
      rw [e] at h
      exact runW_app h
theorem nm_ne {w : List Nat} (h : IsNm w) : pl w ≠ "(" ∧ pl w ≠ "\\" ∧ pl w ≠ "." ∧ pl w ≠ ")" := by
  obtain ⟨c, ds, rfl, hc, _⟩ := h.ex
  have e1 : ("(" : Str) = pl [40] := by decide +kernel
  have e2 : ("\\" : Str) = pl [92] := by decide +kernel
  have e3 : ("." : Str) = pl [46] := by decide +kernel
  have e4 : (")" : Str) = pl [41] := by decide +kernel
  have key : ∀ d, isLow d = false → pl (c :: ds) ≠ pl [d] := fun d hd z => by
    have := pl_inj z
    cases this
    rw [hc] at hd
    cases hd
  rw [e1, e2, e3, e4]
  exact ⟨key 40 (by decide), key 92 (by decide), key 46 (by decide), key 41 (by decide)⟩
theorem step_nm {fs : List Str} {l : Lv} {r : List Lv} {w : List Nat} (h : IsNm w) (hl : l.nm = true) : stepT fs l r (pl w) = some ({ l with ns := l.ns ++ [pl w] }, r) := by
  obtain ⟨a, b, c, d⟩ := nm_ne h
  unfold stepT
  rw [if_neg (by simp [a, b]), if_neg c, if_neg d, if_pos hl]
theorem step_use {fs : List Str} {l : Lv} {r : List Lv} {w : List Nat} {k : Nat} (h : IsNm w) (hl : l.nm = false) (hk : numOf fs (scp (l :: r)) (pl w) = some k) : stepT fs l r (pl w) = some (l.add [V.int (k : Int)], r) := by
  obtain ⟨a, b, c, d⟩ := nm_ne h
  unfold stepT
  rw [if_neg (by simp [a, b]), if_neg c, if_neg d, if_neg (by rw [hl]; exact Bool.false_ne_true), hk]
theorem pl_lp : pl [40] = ("(" : Str) := by decide +kernel
theorem pl_bs : pl [92] = ("\\" : Str) := by decide +kernel
theorem pl_pd : pl [46] = ("." : Str) := by decide +kernel
theorem pl_rp : pl [41] = (")" : Str) := by decide +kernel
theorem step_lp {fs : List Str} {l : Lv} {r : List Lv} (hl : l.nm = false) (hr : r.length + 1 ≤ 60) : stepT fs l r (pl [40]) = some (Lv.new "(", l :: r) := by
  rw [pl_lp]
  unfold stepT
  rw [if_pos (.inl rfl), if_neg (by rw [hl]; simp; omega)]
theorem step_bs {fs : List Str} {l : Lv} {r : List Lv} (hl : l.nm = false) (hr : r.length + 1 ≤ 60) : stepT fs l r (pl [92]) = some (Lv.new "\\", l :: r) := by
  rw [pl_bs]
  unfold stepT
  rw [if_pos (.inr rfl), if_neg (by rw [hl]; simp; omega)]
theorem step_pd {fs : List Str} {l : Lv} {r : List Lv} (hl : l.nm = true) (hn : l.ns ≠ []) : stepT fs l r (pl [46]) = some ({ l with nm := false }, r) := by
  rw [pl_pd]
  unfold stepT
  rw [if_neg (by decide +kernel), if_pos rfl, if_neg (by rw [hl]; simp [hn])]
theorem step_rp {fs : List Str} {l p : Lv} {r r2 : List Lv} {c : Lv} (hl : l.whole = true) (hc : closeAbs l r = (c, p :: r2)) (ho : c.op = "(") : stepT fs l r (pl [41]) = some (p.add c.all, r2) := by
  rw [pl_rp]
  unfold stepT
  rw [if_neg (by decide +kernel), if_neg (by decide +kernel), if_pos rfl, if_neg (by rw [hl]; simp), hc, if_pos ho]
theorem run_names {fs : List Str} : ∀ {own : List (List Nat)} {l : Lv} {r : List Lv}, (∀ w ∈ own, IsNm w) → l.nm = true → runW fs l r own = some ({ l with ns := l.ns ++ own.map pl }, r)
  | [], l, r, _, _ => by simp [runW]
  | w :: own, l, r, h, hl => by
    rw [runW_cons (step_nm (h w List.mem_cons_self) hl), run_names (fun v hv => h v (List.mem_cons_of_mem _ hv)) (by exact hl)]
    simp
/-- what stands on a level, read: the nodes xs of n parts -/
def Ful (n : Nat) (xs : List V) (t : Tm) : Prop := 1 ≤ n ∧ List.replicate (n - 1) (V.str "app") ++ xs = t.enc
def Fresh (fs : List Str) (l : Lv) (r : List Lv) (ws : List (List Nat)) (t : Tm) : Prop := ∃ l' r' n xs, runW fs l r ws = some (l', r') ∧ l'.whole = true ∧ closeAbs l' r' = closeAbs { l with pt := n, nd := xs } r ∧ Ful n xs t
def Left (fs : List Str) (l : Lv) (r : List Lv) (ws : List (List Nat)) (t : Tm) : Prop := ∃ n xs, runW fs l r ws = some ({ l with pt := n, nd := xs }, r) ∧ Ful n xs t
def Add (fs : List Str) (l : Lv) (r : List Lv) (ws : List (List Nat)) (t : Tm) : Prop := runW fs l r ws = some (l.add t.enc, r)
def AddO (fs : List Str) (l : Lv) (r : List Lv) (ws : List (List Nat)) (t : Tm) : Prop := ∃ l' r', runW fs l r ws = some (l', r') ∧ l'.whole = true ∧ closeAbs l' r' = closeAbs (l.add t.enc) r
theorem whole_of {l : Lv} {n : Nat} {xs : List V} (hl : l.nm = false) (hn : 1 ≤ n) : ({ l with pt := n, nd := xs } : Lv).whole = true := by
  unfold Lv.whole
  simp only [hl, Bool.not_false, Bool.true_and]
  exact decide_eq_true hn
theorem wrapped {fs : List Str} {l : Lv} {r : List Lv} {ws : List (List Nat)} {t : Tm} (hl : l.nm = false) (hr : r.length + 1 ≤ 60) (h : Fresh fs (Lv.new "(") (l :: r) ws t) : Add fs l r (wrapW ws) t := by
  obtain ⟨l', r', n, xs, h1, h2, h3, h4, h5⟩ := h
  unfold Add wrapW
  rw [List.cons_append, runW_cons (step_lp hl hr), runW_app h1]
  have e : closeAbs { Lv.new "(" with pt := n, nd := xs } (l :: r) = ({ Lv.new "(" with pt := n, nd := xs }, l :: r) := by
    rw [closeAbs]
    exact if_neg (show ¬ ("(" : Str) = "\\" by decide +kernel)
  rw [e] at h3
  rw [runW_cons (step_rp h2 h3 rfl), runW]
  have ea : ({ Lv.new "(" with pt := n, nd := xs } : Lv).all = t.enc := by
    show List.replicate 0 (V.str "lam") ++ List.replicate (n - 1) (V.str "app") ++ xs = _
    rw [← h5]
    rfl
  rw [ea]
theorem add_left {fs : List Str} {l : Lv} {r : List Lv} {ws : List (List Nat)} {t : Tm} (hp : l.pt = 0) (hn : l.nd = []) (h : Add fs l r ws t) : Left fs l r ws t := by
  refine ⟨1, t.enc, ?_, Nat.le_refl 1, rfl⟩
  rw [h]
  unfold Lv.add
  rw [hp, hn]
  rfl
theorem left_fresh {fs : List Str} {l : Lv} {r : List Lv} {ws : List (List Nat)} {t : Tm} (hl : l.nm = false) (h : Left fs l r ws t) : Fresh fs l r ws t := by
  obtain ⟨n, xs, h1, h2⟩ := h
  exact ⟨_, _, n, xs, h1, whole_of hl h2.1, rfl, h2⟩
theorem addo_fresh {fs : List Str} {l : Lv} {r : List Lv} {ws : List (List Nat)} {t : Tm} (hp : l.pt = 0) (hn : l.nd = []) (h : AddO fs l r ws t) : Fresh fs l r ws t := by
  obtain ⟨l', r', h1, h2, h3⟩ := h
  refine ⟨l', r', 1, t.enc, h1, h2, ?_, Nat.le_refl 1, rfl⟩
  rw [h3]
  unfold Lv.add
  rw [hp, hn]
  rfl
theorem ful_app {n : Nat} {xs : List V} {f a : Tm} (h : Ful n xs f) : Ful (n + 1) (xs ++ a.enc) (.app f a) := by
  obtain ⟨h1, h2⟩ := h
  refine ⟨by omega, ?_⟩
  rw [Tm.enc, ← h2, show n + 1 - 1 = (n - 1) + 1 by omega, List.replicate_succ]
  simp
theorem Mk.read {fs sc D ws t kd} (h : Mk fs sc D ws t kd) : ∀ (l : Lv) (r : List Lv), l.nm = false → scp (l :: r) = sc.map pl → r.length + 1 + 2 * D ≤ 59 →
    (kd = .part → Add (fs.map pl) l r ws t) ∧ (kd = .abs → AddO (fs.map pl) l r ws t) ∧ (l.pt = 0 → l.nd = [] → (kd = .part ∨ kd = .row → Left (fs.map pl) l r ws t) ∧ Fresh (fs.map pl) l r ws t) := by
  induction h with
  | @name sc D w k hw hk =>
    intro l r hl hs hr
    have hA : Add (fs.map pl) l r [w] (.var k) := by
      unfold Add
      rw [runW_cons (step_use hw hl (by rw [hs]; exact hk)), runW]
      rfl
    refine ⟨fun _ => hA, (fun z => nomatch z), fun hp hn => ⟨fun _ => add_left hp hn hA, left_fresh hl (add_left hp hn hA)⟩⟩
  | @abs sc D own ws t kd h1 h2 h3 h4 ih =>
    intro l r hl hs hr
    have hO : AddO (fs.map pl) l r ([92] :: (own ++ [46] :: ws)) (Tm.lamN own.length t) := by
      obtain ⟨_, _, hf⟩ := ih ⟨"\\", false, own.map pl, 0, []⟩ (l :: r) rfl (by
        show scp (l :: r) ++ own.map pl = _
        rw [hs, List.map_append]) (by simp only [List.length_cons]; omega)
      obtain ⟨_, l', r', n, xs, g1, g2, g3, g4, g5⟩ := hf rfl rfl
      refine ⟨l', r', ?_, g2, ?_⟩
      · rw [runW_cons (step_bs hl (by omega)), runW_app (run_names h3 (by show decide (("\\" : Str) = "\\") = true; exact decide_eq_true rfl)), runW_cons (step_pd (by show decide (("\\" : Str) = "\\") = true; exact decide_eq_true rfl) (by
          show [] ++ own.map pl ≠ []
          simpa using h1))]
        exact g1
      · rw [g3, closeAbs, if_pos rfl]
        have ea : ({ op := "\\", nm := false, ns := own.map pl, pt := n, nd := xs } : Lv).all = (Tm.lamN own.length t).enc := by
          show List.replicate (own.map pl).length (V.str "lam") ++ List.replicate (n - 1) (V.str "app") ++ xs = _
          rw [Tm.enc_lamN, ← g5, List.length_map, List.flatten_replicate_singleton, List.append_assoc]
        rw [ea]
    exact ⟨(fun z => nomatch z), fun _ => hO, fun hp hn => ⟨fun z => (by rcases z with z | z <;> cases z), addo_fresh hp hn hO⟩⟩
  | @app sc D l0 r0 L R f a k1 k2 kd h1 h2 hL hR ih1 ih2 =>
    intro l r hl hs hr
    have hlen : ∀ x : Lv, (x :: r).length + 1 + 2 * D ≤ 59 := fun x => by simp only [List.length_cons]; omega
    have hleft : l.pt = 0 → l.nd = [] → Left (fs.map pl) l r L f := by
      intro hp hn
      rcases hL with rfl | ⟨rfl, hk⟩
      · refine add_left hp hn (wrapped hl (by omega) ?_)
        have hs2 : scp (Lv.new "(" :: l :: r) = sc.map pl := by
          show scp (l :: r) ++ [] = _
          rw [List.append_nil, hs]
        exact ((ih1 (Lv.new "(") (l :: r) (by decide +kernel) hs2 (hlen l)).2.2 rfl rfl).2
      · exact ((ih1 l r hl hs (by omega)).2.2 hp hn).1 hk
    have hrest : ∀ n xs, (kd = .row → Add (fs.map pl) { l with pt := n, nd := xs } r R a) ∧ (kd = .opn → AddO (fs.map pl) { l with pt := n, nd := xs } r R a) := by
      intro n xs
      have hs3 : scp ({ l with pt := n, nd := xs } :: r) = sc.map pl := hs
      rcases hR with ⟨rfl, rfl⟩ | ⟨rfl, rfl, rfl⟩ | ⟨rfl, rfl, rfl⟩
      · refine ⟨fun _ => wrapped hl (by omega) ?_, (fun z => nomatch z)⟩
        have hs2 : scp (Lv.new "(" :: { l with pt := n, nd := xs } :: r) = sc.map pl := by
          show scp ({ l with pt := n, nd := xs } :: r) ++ [] = _
          rw [List.append_nil, hs3]
        exact ((ih2 (Lv.new "(") ({ l with pt := n, nd := xs } :: r) (by decide +kernel) hs2 (hlen _)).2.2 rfl rfl).2
      · exact ⟨fun _ => (ih2 { l with pt := n, nd := xs } r hl hs3 (by omega)).1 rfl, (fun z => nomatch z)⟩
      · exact ⟨(fun z => nomatch z), fun _ => (ih2 { l with pt := n, nd := xs } r hl hs3 (by omega)).2.1 rfl⟩
    have hkd : kd = .row ∨ kd = .opn := by
      rcases hR with ⟨_, rfl⟩ | ⟨_, _, rfl⟩ | ⟨_, _, rfl⟩
      · exact .inl rfl
      · exact .inl rfl
      · exact .inr rfl
    refine ⟨fun z => ?_, fun z => ?_, fun hp hn => ?_⟩
    · rcases hkd with e | e <;> rw [e] at z <;> cases z
    · rcases hkd with e | e <;> rw [e] at z <;> cases z
    · obtain ⟨n, xs, g1, g2⟩ := hleft hp hn
      obtain ⟨q1, q2⟩ := hrest n xs
      rcases hkd with rfl | rfl
      · have hq := q1 rfl
        have hLf : Left (fs.map pl) l r (L ++ R) (.app f a) := by
          refine ⟨n + 1, xs ++ a.enc, ?_, ful_app g2⟩
          rw [runW_app g1]
          exact hq
        exact ⟨fun _ => hLf, left_fresh hl hLf⟩
      · obtain ⟨l', r', p1, p2, p3⟩ := q2 rfl
        refine ⟨fun z => (by rcases z with z | z <;> cases z), l', r', n + 1, xs ++ a.enc, ?_, p2, p3, ful_app g2⟩
        rw [runW_app g1]
        exact p1
/-- the whole, with parentheses around it or without -/
theorem Mk.whole {fs D ws t kd} (h : Mk fs [] D ws t kd) (hD : D ≤ 20) : (∃ l r, runW (fs.map pl) (Lv.new "") [] ws = some (l, r) ∧ finT l r = some t.enc) ∧ (∃ l r, runW (fs.map pl) (Lv.new "") [] (wrapW ws) = some (l, r) ∧ finT l r = some t.enc) := by
  have e0 : (Lv.new "").nm = false := by decide +kernel
  constructor
  · obtain ⟨l', r', n, xs, g1, g2, g3, g4, g5⟩ := ((h.read (Lv.new "") [] e0 rfl (by simp only [List.length_nil]; omega)).2.2 rfl rfl).2
    refine ⟨l', r', g1, ?_⟩
    unfold finT
    rw [if_neg (by rw [g2]; simp), g3]
    show some ({ Lv.new "" with pt := n, nd := xs } : Lv).all = _
    have ea : ({ Lv.new "" with pt := n, nd := xs } : Lv).all = t.enc := by
      show List.replicate 0 (V.str "lam") ++ List.replicate (n - 1) (V.str "app") ++ xs = _
      rw [← g5]
      rfl
    rw [ea]
  · have hf := ((h.read (Lv.new "(") [Lv.new ""] (by decide +kernel) rfl (by simp only [List.length_cons, List.length_nil]; omega)).2.2 rfl rfl).2
    have ha := wrapped e0 (by simp) hf
    refine ⟨_, _, ha, ?_⟩
    unfold finT
    rw [if_neg (by
      show ¬ (({ Lv.new "" with pt := 1, nd := t.enc } : Lv).whole = false)
      rw [whole_of e0 (Nat.le_refl 1)]
      simp)]
    show some ((Lv.new "").add t.enc).all = _
    rfl
def IsTok (w : List Nat) : Prop := IsNm w ∨ w = [40] ∨ w = [41] ∨ w = [92] ∨ w = [46]
theorem tok_head {w : List Nat} (h : IsTok w) : ∃ c ds, w = c :: ds ∧ c ≠ 32 ∧ isDig c = false := by
  rcases h with h | rfl | rfl | rfl | rfl
  · obtain ⟨c, ds, rfl, hc, _⟩ := h.ex
    refine ⟨c, ds, rfl, fun z => ?_, ?_⟩
    · rw [z] at hc
      exact absurd hc (by decide)
    · have := of_decide_eq_true hc
      exact decide_eq_false (by omega)
  · exact ⟨_, _, rfl, by decide, by decide⟩
  · exact ⟨_, _, rfl, by decide, by decide⟩
  · exact ⟨_, _, rfl, by decide, by decide⟩
  · exact ⟨_, _, rfl, by decide, by decide⟩
def rend : List Nat → List (List Nat) → List Nat
  | g :: gs, w :: ws => List.replicate g 32 ++ w ++ rend gs ws
  | _, _ => []
theorem rend_snoc : ∀ {gs : List Nat} {ws : List (List Nat)} (g : Nat) (w : List Nat), gs.length = ws.length → rend (gs ++ [g]) (ws ++ [w]) = rend gs ws ++ List.replicate g 32 ++ w
  | [], [], g, w, _ => by simp [rend]
  | [], _ :: _, g, w, h => by cases h
  | _ :: _, [], g, w, h => by cases h
  | a :: gs, v :: ws, g, w, h => by
    have ih := rend_snoc (gs := gs) (ws := ws) g w (by simpa using h)
    simp only [List.cons_append, rend, ih, List.append_assoc]
theorem rend_nodig {b : Nat} : ∀ {gs : List Nat} {ws : List (List Nat)}, (∀ w ∈ ws, IsTok w) → (rend gs ws ++ List.replicate b 32).takeWhile isDig = [] := by
  have sp : ∀ (b : Nat) (xs : List Nat), xs.takeWhile isDig = [] → (List.replicate b 32 ++ xs).takeWhile isDig = [] := by
    intro b xs h
    cases b with
    | zero => exact h
    | succ b => rfl
  intro gs ws h
  match gs, ws, h with
  | g :: gs, w :: ws, h =>
    obtain ⟨c, ds, rfl, _, hc⟩ := tok_head (h w List.mem_cons_self)
    rw [rend, List.append_assoc, List.append_assoc]
    refine sp g _ ?_
    rw [List.cons_append, List.takeWhile_cons, hc]
    rfl
  | [], ws, _ =>
    rw [show rend [] ws = [] by cases ws <;> rfl, List.nil_append]
    have := sp b [] rfl
    rwa [List.append_nil] at this
  | g :: gs, [], _ =>
    rw [show rend (g :: gs) [] = [] from rfl, List.nil_append]
    have := sp b [] rfl
    rwa [List.append_nil] at this
theorem readT_sp {fs : List Str} {l : Lv} {r : List Lv} : ∀ (g n i : Nat) (cs : List Nat), g ≤ n → readT fs n l r i (List.replicate g 32 ++ cs) = readT fs (n - g) l r (i + g) cs
  | 0, n, i, cs, _ => rfl
  | g + 1, 0, i, cs, h => absurd h (by omega)
  | g + 1, n + 1, i, cs, h => by
    rw [List.replicate_succ, List.cons_append, readT, if_pos rfl, readT_sp g n (i + 1) cs (by omega), show n + 1 - (g + 1) = n - g by omega, show i + 1 + g = i + (g + 1) by omega]
theorem readT_nil2 (fs : List Str) (n : Nat) (l : Lv) (r : List Lv) (i : Nat) : readT fs n l r i [] = .ok (l, r) := by cases n <;> rfl
theorem readT_end {fs : List Str} {l : Lv} {r : List Lv} (b n i : Nat) (h : b ≤ n) : readT fs n l r i (List.replicate b 32) = .ok (l, r) := by
  have := readT_sp (fs := fs) (l := l) (r := r) b n i [] h
  rw [List.append_nil] at this
  rw [this, readT_nil2]
theorem tok_len {w rest : List Nat} (h : IsTok w) (hr : rest.takeWhile isDig = []) : tokL (w ++ rest) = .inl w.length := by
  rcases h with h | rfl | rfl | rfl | rfl
  · obtain ⟨c, ds, rfl, hc, hd, hl⟩ := h.ex
    have e : (ds ++ rest).takeWhile isDig = ds := by
      rw [List.takeWhile_append_of_pos (fun x hx => List.all_eq_true.mp hd x hx), hr, List.append_nil]
    show (if isLow c = true then (if 10 ≤ ((ds ++ rest).takeWhile isDig).length then Sum.inr 10 else .inl (1 + ((ds ++ rest).takeWhile isDig).length)) else _) = _
    rw [if_pos hc, e, if_neg (by omega), List.length_cons, Nat.add_comm]
  all_goals rfl
theorem readT_rend {fs : List Str} {b : Nat} : ∀ {ws : List (List Nat)} {gs : List Nat} {l l' : Lv} {r r' : List Lv} {i n : Nat}, (∀ w ∈ ws, IsTok w) → gs.length = ws.length → runW fs l r ws = some (l', r') → (rend gs ws ++ List.replicate b 32).length ≤ n →
    readT fs n l r i (rend gs ws ++ List.replicate b 32) = .ok (l', r')
  | [], [], l, l', r, r', i, n, _, _, h, hn => by
    cases h
    exact readT_end b n i (by simpa [rend] using hn)
  | [], _ :: _, _, _, _, _, _, _, _, h, _, _ => by cases h
  | _ :: _, [], _, _, _, _, _, _, _, h, _, _ => by cases h
  | w :: ws, g :: gs, l, l', r, r', i, n, ht, hg, h, hn => by
    obtain ⟨c, ds, hw, hc, _⟩ := tok_head (ht w List.mem_cons_self)
    have ht2 : ∀ v ∈ ws, IsTok v := fun v hv => ht v (List.mem_cons_of_mem _ hv)
    have hnd := rend_nodig (b := b) (gs := gs) ht2
    rw [runW] at h
    cases e : stepT fs l r (pl w) with
    | none => rw [e] at h; cases h
    | some x =>
      rw [e] at h
      rw [rend, List.append_assoc, List.append_assoc] at hn ⊢
      simp only [List.length_append, List.length_replicate] at hn
      rw [readT_sp g n i _ (by omega)]
      have htl := tok_len (ht w List.mem_cons_self) hnd
      have hwl : w.length = ds.length + 1 := by rw [hw]; rfl
      obtain ⟨m, hm⟩ : ∃ m, n - g = m + 1 := ⟨n - g - 1, by omega⟩
      have e1 : (w ++ (rend gs ws ++ List.replicate b 32)).take w.length = w := List.take_left ..
      have e2 : (w ++ (rend gs ws ++ List.replicate b 32)).drop w.length = rend gs ws ++ List.replicate b 32 := List.drop_left ..
      generalize hR : rend gs ws ++ List.replicate b 32 = R at *
      have e3 : w ++ R = c :: (ds ++ R) := by rw [hw]; rfl
      rw [e3] at htl e1 e2 ⊢
      rw [hm, readT, if_neg hc, htl]
      show (match stepT fs l r (pl ((c :: (ds ++ R)).take w.length)) with
        | none => Except.error (i + g)
        | some (l', r') => readT fs m l' r' (i + g + w.length) ((c :: (ds ++ R)).drop w.length)) = _
      rw [e1, e2, e]
      show readT fs m x.1 x.2 _ R = _
      rw [← hR]
      refine readT_rend ht2 (by simpa using hg) h ?_
      have hRl := congrArg List.length hR
      simp only [List.length_append, List.length_replicate] at hRl hn ⊢
      omega
theorem Mk.toks {fs sc D ws t kd} (h : Mk fs sc D ws t kd) : ∀ w ∈ ws, IsTok w := by
  have wr : ∀ {l : List (List Nat)}, (∀ w ∈ l, IsTok w) → ∀ w ∈ wrapW l, IsTok w := by
    intro l hl w hw
    simp only [wrapW, List.cons_append, List.mem_cons, List.mem_append, List.not_mem_nil, or_false] at hw
    rcases hw with rfl | hw | rfl
    · exact .inr (.inl rfl)
    · exact hl w hw
    · exact .inr (.inr (.inl rfl))
  induction h with
  | name hn _ =>
    intro w hw
    rw [List.mem_singleton.mp hw]
    exact .inl hn
  | abs h1 h2 h3 h4 ih =>
    intro w hw
    simp only [List.mem_cons, List.mem_append] at hw
    rcases hw with rfl | hw | rfl | hw
    · exact .inr (.inr (.inr (.inl rfl)))
    · exact .inl (h3 w hw)
    · exact .inr (.inr (.inr (.inr rfl)))
    · exact ih w hw
  | app h1 h2 hl hr ih1 ih2 =>
    intro w hw
    rcases List.mem_append.mp hw with hw | hw
    · rcases hl with rfl | ⟨rfl, _⟩
      · exact wr ih1 w hw
      · exact ih1 w hw
    · rcases hr with ⟨rfl, _⟩ | ⟨rfl, _⟩ | ⟨rfl, _⟩
      · exact wr ih2 w hw
      · exact ih2 w hw
      · exact ih2 w hw
theorem wrap_toks {l : List (List Nat)} (hl : ∀ w ∈ l, IsTok w) : ∀ w ∈ wrapW l, IsTok w := by
  intro w hw
  simp only [wrapW, List.cons_append, List.mem_cons, List.mem_append, List.not_mem_nil, or_false] at hw
  rcases hw with rfl | hw | rfl
  · exact .inr (.inl rfl)
  · exact hl w hw
  · exact .inr (.inr (.inl rfl))
/-- the whole text is read -/
theorem Mk.parse {fs D ws t kd} (h : Mk fs [] D ws t kd) (hD : D ≤ 20) {W : List (List Nat)} (hW : W = ws ∨ W = wrapW ws) {gs : List Nat} (hg : gs.length = W.length) (a b : Nat) :
    parseT (fs.map pl) (List.replicate a 32 ++ (rend gs W ++ List.replicate b 32)) = .ok t.enc := by
  have hw := h.whole hD
  have key : ∀ W : List (List Nat), (∀ w ∈ W, IsTok w) → gs.length = W.length → (∃ l r, runW (fs.map pl) (Lv.new "") [] W = some (l, r) ∧ finT l r = some t.enc) → parseT (fs.map pl) (List.replicate a 32 ++ (rend gs W ++ List.replicate b 32)) = .ok t.enc := by
    rintro W hT hg ⟨l, r, h1, h2⟩
    unfold parseT
    rw [readT_sp a _ 0 _ (by simp), readT_rend hT hg h1 (by simp)]
    show (match finT l r with | none => _ | some xs => Except.ok xs) = _
    rw [h2]
  rcases hW with rfl | rfl
  · exact key _ h.toks hg hw.1
  · exact key _ (wrap_toks h.toks) hg hw.2
end Ly
set_option Elab.async false
set_option linter.all false
set_option maxRecDepth 100000
namespace Ly
open PySem PySem.Spec PyProof.Rows L2 Evl
def Tm.apps : Tm → List Tm → Tm
  | h, [] => h
  | h, t :: ts => Tm.apps (.app h t) ts
theorem rep_snoc {α : Type} (n : Nat) (x : α) (r : List α) : List.replicate n x ++ x :: r = List.replicate (n + 1) x ++ r := by
  induction n with
  | zero => rfl
  | succ n ih =>
    rw [List.replicate_succ, List.cons_append, ih]
    simp [List.replicate_succ]
theorem Tm.apps_enc : ∀ (ts : List Tm) (h : Tm), (Tm.apps h ts).enc = List.replicate ts.length (V.str "app") ++ (h.enc ++ encs ts)
  | [], h => by simp [Tm.apps, encs]
  | t :: ts, h => by
    show (Tm.apps (.app h t) ts).enc = _
    rw [Tm.apps_enc ts, encs_cons]
    show List.replicate ts.length (V.str "app") ++ (V.str "app" :: (h.enc ++ t.enc) ++ encs ts) = _
    rw [List.cons_append, rep_snoc]
    simp
theorem rep_flat {x : V} : ∀ n : Nat, (List.replicate n [x]).flatten = List.replicate n x
  | 0 => rfl
  | n + 1 => by rw [List.replicate_succ, List.flatten_cons, rep_flat n, List.replicate_succ]; rfl
theorem Tm.lam_enc (n : Nat) (t : Tm) : (Tm.lamN n t).enc = List.replicate n (V.str "lam") ++ t.enc := by rw [Tm.enc_lamN, rep_flat]
section
variable {K : PySem.W.Frag} {H : Hp} {Q : VK} {l : Addr} {xs : List V}
end
end Ly
set_option Elab.async false
set_option linter.all false
set_option maxRecDepth 100000
namespace Ly
open PySem PySem.Spec PyProof.Rows L2 Evl
/-- n abstractions around the head h applied to the terms as -/
def SpineOf (t : Tm) (n : Nat) (h : Tm) (as : List Tm) : Prop := t = Tm.lamN n (Tm.apps h as) ∧ (∀ f a, h ≠ .app f a) ∧ (as = [] → ∀ b, h ≠ .lam b)
section
variable {t h : Tm} {n : Nat} {as : List Tm}
theorem SpineOf.enc (s : SpineOf t n h as) : t.enc = List.replicate n (V.str "lam") ++ (List.replicate as.length (V.str "app") ++ (h.enc ++ encs as)) := by
  rw [s.1, Tm.lam_enc, Tm.apps_enc]
theorem SpineOf.len (s : SpineOf t n h as) : t.enc.length = n + as.length + h.enc.length + (encs as).length := by
  rw [s.enc]
  simp
  omega
theorem SpineOf.drop (s : SpineOf t n h as) : t.enc.drop (n + as.length) = h.enc ++ encs as := by
  rw [s.enc, ← List.append_assoc]
  have e : n + as.length = (List.replicate n (V.str "lam") ++ List.replicate as.length (V.str "app")).length := by simp
  rw [e, List.drop_left]
end
section
variable {K : PySem.W.Frag} {H : Hp} {Q : VK} {p q l m : Addr} {n v : Int} {bs cs : List Addr} {as : List Tm}
end
end Ly
set_option Elab.async false
set_option linter.all false
set_option maxRecDepth 100000
set_option maxHeartbeats 2000000
namespace Ly
open PySem PySem.Spec PyProof.Rows L2 Evl
theorem fold_rep {α : Type} (c : α) : ∀ (k : Nat) (xs : List α), (List.replicate k #[c]).foldl (· ++ ·) xs.toArray = (xs ++ List.replicate k c).toArray
  | 0, xs => by simp
  | k + 1, xs => by
    rw [List.replicate_succ, List.foldl_cons]
    have e : xs.toArray ++ #[c] = (xs ++ [c]).toArray := by simp
    rw [e, fold_rep c k (xs ++ [c]), List.replicate_succ]
    simp
def rRepC : R2 := fun x y H Q => ∃ (c k : Nat), x = .str (pl [c]) ∧ y = .int (k : Int) ∧ k ≤ 3000000 ∧ Q (.str (pl (List.replicate k c))) H
theorem op_repC {X : Cx} : OpR X (binaryOp .Mult) rRepC := by
  intro pins s σ H x y v u Q I rx ry ⟨c, k, ex, ey, hk, q⟩
  subst ex ey
  obtain ⟨t1, e1⟩ := rx
  obtain ⟨t2, e2⟩ := ry
  subst e1 e2
  have sl := sizeLine_eq
  have hl1 : (pl [c]).length = 1 := by simp [pl, Str.length]
  refine PySem.P.mul_str (by simp; omega) (fun h1 _ => ?_) (fun h1 _ => ?_) ?_
  · rw [hl1]
    have h2 : (1 : Int) ≤ (2 ^ 63 - 1) / (k : Int) := (Int.le_ediv_iff_mul_le (by omega)).mpr (by omega)
    omega
  · rw [hl1]
    exact decide_eq_false (by omega)
  · by_cases h0 : (k : Int) < 1
    · rw [if_pos h0]
      have e : k = 0 := by omega
      subst e
      exact ⟨by simp [Str.empty, Str.length], .str (pl []), H, I.tok _, ⟨_, rfl⟩, q⟩
    · rw [if_neg h0]
      by_cases h1 : k = 1
      · subst h1
        rw [if_pos (by simp)]
        exact ⟨.str (pl [c]), H, I, ⟨_, rfl⟩, q⟩
      · rw [if_neg (by simp [pl, Str.length]; omega)]
        have e : (⟨(List.replicate (k : Int).toNat (pl [c]).cps).foldl (· ++ ·) #[]⟩ : Str) = pl (List.replicate k c) := by
          have := fold_rep c k []
          simp only [List.nil_append] at this
          unfold pl
          rw [Int.toNat_natCast]
          exact congrArg Str.mk this
        refine ⟨?_, .str (pl (List.replicate k c)), H, I.tok _, ⟨s.toks, ?_⟩, q⟩
        · rw [e, pl_len, List.length_replicate]
          omega
        · rw [e]
/-- the place of the head redex -/
def Tm.hd : Tm → Option (List Nat)
  | .var _ => none
  | .lam b => (Tm.hd b).map (98 :: ·)
  | .app f _ => if f.isLam = true then some [] else (Tm.hd f).map (102 :: ·)
section
variable {t h : Tm} {n : Nat} {as : List Tm}
end
/-- what steps at the head redex come to -/
def Tm.hf : Nat → Tm → Nat × Wk
  | 0, t => (0, match t.hd with | none => .done t | _ => .out)
  | k + 1, t => match t.hd with
    | none => (0, .done t)
    | some p => if fitsV (t.step p).enc = false then (1, .large) else ((Tm.hf k (t.step p)).1 + 1, (Tm.hf k (t.step p)).2)
end Ly
set_option Elab.async false
set_option linter.all false
namespace Ly
open PySem PySem.Spec PyProof.Rows L2 Evl
section
variable {X : Cx} {K : PySem.W.Frag}
end
end Ly
set_option Elab.async false
set_option linter.all false
set_option maxRecDepth 100000
set_option maxHeartbeats 2000000
namespace Ly
open PySem PySem.Spec PyProof.Rows L2 Evl
/-- a tuple that stands frozen: its object bears no dict -/
def SqX (H : Hp) (a : Addr) (xs : List V) : Prop := ∃ ob : Obj, H a = some (.frz ob (.tup xs)) ∧ ob.cls = .type "tuple" ∧ ob.dict = none
section
variable {K : PySem.W.Frag} {H H' : Hp} {a b s p : Addr} {xs ys : List V}
theorem SqX.t (h : SqX H a xs) : SqT K H a xs := by
  obtain ⟨ob, h, _⟩ := h
  exact .inl (.inr ⟨ob, h⟩)
theorem SqX.ex (h : SqX H a xs) (e : Ex H H') : SqX H' a xs := by
  obtain ⟨ob, h, c⟩ := h
  exact ⟨ob, e a _ h, c⟩
theorem SqX.fr (h : SqX H a xs) (e : Fr s H H') (hs : H s = some (.lst ys)) : SqX H' a xs := by
  obtain ⟨ob, h, c⟩ := h
  exact ⟨ob, e a _ (fun z => by rw [z, hs] at h; cases h) h, c⟩
theorem SqX.new {o : HO} (h : SqX H a xs) (hp : H p = none) : SqX (upd H p o) a xs := h.ex (Ex.new hp)
end
section
variable {X : Cx}
/-- t + u, the new tuple frozen -/
def rCatF (K : PySem.W.Frag) : R2 := fun x y H Q => ∃ a b xs ys, x = .ref a ∧ y = .ref b ∧ SqT K H a xs ∧ SqT K H b ys ∧ xs.length + ys.length ≤ sizeLine ∧
  (xs = [] → Q (.ref b) H) ∧ (xs ≠ [] → ys = [] → Q (.ref a) H) ∧ (xs ≠ [] → ys ≠ [] → ∀ p ob, H p = none → ob.cls = .type "tuple" → ob.dict = none → Q (.ref p) (upd H p (.frz ob (.tup (xs ++ ys)))))
theorem op_catF : OpR X (binaryOp .Add) (rCatF X.K) := by
  intro pins s σ H x y v u Q I rx ry h
  obtain ⟨a, b, xs, ys, rfl, rfl, ha, hb, hz, q0, q1, q2⟩ := h
  by_cases hx : xs = []
  · subst hx
    cases rx
    cases ry
    obtain ⟨its, r1, p1, _⟩ := I.tuple ha
    obtain ⟨its2, r2, p2, _⟩ := I.tuple hb
    cases r1
    exact cat_tup0 p1 p2 ⟨.ref b, H, I, rfl, q0 rfl⟩
  · cases rx
    cases ry
    obtain ⟨its, r1, p1, _⟩ := I.tuple ha
    obtain ⟨its2, r2, p2, _⟩ := I.tuple hb
    refine HT.cat_tup p1 p2 (fun z => hx (r1.nil_iff.mp z)) (fun z => ⟨.ref a, H, I, rfl, q1 hx (r2.nil_iff.mp z)⟩) (fun z => ?_) (by rw [← r1.length, ← r2.length]; exact hz)
    refine ⟨.ref s.heap.objs.size, _, I.laid (t' := s.toks) (o := .frz { cls := .type "tuple", data := .seq (its ++ its2).toArray } (.tup (xs ++ ys))) (fun b ob q => Heap.get?_push_of_some _ q) (Nat.le_refl _) ?_, rfl, q2 hx (fun w => z (r2.nil_iff.mpr w)) _ _ (I.hok.fresh (Nat.le_refl _)) rfl rfl⟩
    exact ⟨Heap.get?_push_at rfl rfl, by rw [List.length_append]; exact hz, _, r1.append r2, IsTup.new _ _⟩
/-- tuple(xs), frozen -/
def rTupF (K : PySem.W.Frag) : List V → Hp → VK → Prop := fun xs H Q => ∃ p ys, xs = [.ref p] ∧ SqL K H p ys ∧ ∀ l ob, H l = none → ob.cls = .type "tuple" → ob.dict = none → Q (.ref l) (upd H l (.frz ob (.tup ys)))
theorem call_tupleF : CallR X (.type "tuple") (rTupF X.K) := by
  intro pins s σ H xs us Q I r h
  obtain ⟨p, ys, rfl, hq, q⟩ := h
  obtain ⟨u, rfl, rx⟩ := vals1 r
  cases rx
  obtain ⟨its, r', pl, hz⟩ := I.list hq
  have hlen := r'.length
  refine call_tuple_list pl.isList (fun h' kp => ?_) (by simp only [List.size_toArray] <;> omega)
  have I1 : Inv X pins σ H { s with heap := h' } := I.kept (t' := s.toks) kp
  have I2 : Inv X pins σ (upd H h'.objs.size (.frz { cls := .type "tuple", data := .seq its.toArray } (.tup ys))) { s with heap := h'.push { cls := .type "tuple", data := .seq its.toArray } } :=
    I1.laid (t' := s.toks) (fun b o e => Heap.get?_push_of_some _ e) (Nat.le_refl _) ⟨Heap.get?_push_at rfl rfl, hz, its, r', IsTup.new _ _⟩
  exact ⟨.ref h'.objs.size, _, I2, rfl, q _ _ (I1.hok.fresh (Nat.le_refl _)) rfl rfl⟩
/-- t.count(k), a text, among numbers and texts -/
def rTCnt (K : PySem.W.Frag) : V → List V → Hp → VK → Prop := fun x xs H Q => ∃ (p : Addr) (ys : List V) (k : Str), x = .ref p ∧ xs = [.str k] ∧ SqT K H p ys ∧ (∀ y ∈ ys, (∃ i, y = .int i) ∨ ∃ z, y = .str z) ∧ Q (.int ((ys.countP (fun y => decide (y = .str k)) : Nat) : Int)) H
def eqS (k : Str) (v : Value) : Bool := match v with
  | .str n _ => n == k
  | _ => false
theorem eqS_count {k : Str} : ∀ {ys : List V} {us : List Value}, Vals ys us → (∀ y ∈ ys, (∃ i, y = .int i) ∨ ∃ z, y = .str z) → us.countP (eqS k) = ys.countP (fun y => decide (y = .str k))
  | _, _, .nil, _ => rfl
  | y :: ys, u :: us, .cons r t, h => by
    have ih := eqS_count (k := k) t fun y hy => h y (List.mem_cons_of_mem _ hy)
    rw [List.countP_cons, List.countP_cons, ih]
    rcases h y List.mem_cons_self with ⟨i, rfl⟩ | ⟨z, rfl⟩
    · obtain ⟨tk, rfl⟩ := r
      rfl
    · obtain ⟨tk, rfl⟩ := r
      by_cases e : z = k
      · subst e
        simp [eqS]
      · have e1 : (z == k) = false := beq_eq_false_iff_ne.mpr e
        simp [eqS, e]
theorem eqS_at {k : Str} {tk : Tok} {A : Around} {s : Shared} : ∀ {ys : List V} {us : List Value}, Vals ys us → (∀ y ∈ ys, (∃ i, y = .int i) ∨ ∃ z, y = .str z) → ∀ u ∈ us, SeqAt.EqAt A s u (.str k tk) (eqS k u)
  | _, _, .nil, _ => fun u hu => by cases hu
  | y :: ys, u :: us, .cons r t, h => fun v hv => by
    rcases List.mem_cons.mp hv with e | e
    · rw [e]
      rcases h y List.mem_cons_self with ⟨i, rfl⟩ | ⟨z, rfl⟩
      · obtain ⟨tk, rfl⟩ := r
        exact SeqAt.EqAt.int_str _ _ _ _
      · obtain ⟨tk, rfl⟩ := r
        exact SeqAt.EqAt.str_str _ _ _ _
    · exact eqS_at t (fun y hy => h y (List.mem_cons_of_mem _ hy)) v e
theorem mt_tcount : MtR X "tuple.count" (rTCnt X.K) := by
  intro pins s σ H x xs v us Q I rx rxs h
  obtain ⟨p, ys, k, rfl, rfl, hs, hn, q⟩ := h
  cases rx
  obtain ⟨u, rfl, ru⟩ := rxs.one
  obtain ⟨t, rfl⟩ := ru
  obtain ⟨its, rv, ⟨⟨cls, dd, data, sl⟩, ho, hc, n, hd⟩, hlen⟩ := I.tuple hs
  simp only at hc hd
  subst hc hd
  refine call_meets PySem.F.slot_tuple_count ⟨_, ho, rfl⟩ PySem.F.entry_tuple_count (PySem.F.args_tuple_count_2 _ _)
    (SeqAt.tuple_countAt p its.toArray n dd sl (.str k t) (eqS k)) ⟨ho, fun y hy => eqS_at rv hn y (by simpa using hy), ?_⟩
  have ec := eqS_count (k := k) rv hn
  refine ⟨.int ((ys.countP (fun y => decide (y = .str k)) : Nat) : Int), H, I.tok _, ⟨s.toks, ?_⟩, q⟩
  show Value.int ((its.toArray.toList.countP (eqS k) : Nat) : Int) s.toks = Value.int _ s.toks
  rw [show its.toArray.toList = its from rfl, ec]
/-- o.m(e ..), o a frozen tuple -/
def tBMX (r : V → List V → Hp → VK → Prop) (to : TE) (t : TA) : TE := fun σ H Q => to σ H fun x H1 => (∃ p xs, x = .ref p ∧ SqX H1 p xs) ∧ t σ H1 fun xs H2 => r x xs H2 Q
variable {o e : Expr} {es : List Expr} {to : TE} {t : TA} {name : Str} {apos cpos : Pos} {id : String} {r : V → List V → Hp → VK → Prop}
theorem pe_bmX (pa : PlainAttrs "tuple") (slot : Slot "tuple" name id) (hty : typeOf (.builtin id) = pure (.type "method_descriptor")) (hm : MtR X id r) (ho : PE X o to) (ha : PA X (e :: es) t)
    (hbase : attributeBase o name X.env (eval o X.env) = eval o X.env := by rfl)
    (hfew : ((backTo cpos (starEach (e :: es) X.env)).all (fun x => !x.1) && (backToKw cpos (keywordEach [] X.env)).all (fun x => x.1.isSome)
      && decide ((e :: es).length + ([] : List Keyword).length + (if ([] : List Keyword).isEmpty then 0 else 1) < 30)) = true := by rfl)
    (hline : (apos.endLine == cpos.line) = true := by rfl) (hs : starEach (e :: es) X.env = (false, eval e X.env) :: starEach es X.env := by rfl) (hplain : (backTo cpos (starEach es X.env)).any (·.1) = false := by rfl) :
    PE X (.Call (.Attribute o name apos) (e :: es) [] cpos) (tBMX r to t) := by
  refine ⟨fun pins s σ H Q I h => ?_⟩
  refine wpAny_Call_method_late hbase hfew hline rfl (thn (ho.run pins s σ H _ I h) fun v s1 ⟨x, H1, I1, r1, ⟨p, xs, ex, ob, hp, hc, hd⟩, q1⟩ => ?_)
  subst ex
  obtain rfl : v = Value.ref p := r1
  have hob : s1.heap.get? p = some ob := (I1.hok p _ hp).1
  refine ⟨"tuple", id, pa, slot, hty, ⟨ob, hob, hc⟩, fun a e => ?_, ?_⟩
  · cases e
    exact ⟨ob, hob, hd⟩
  have hA := ha.run cpos pins s1 σ H1 _ I1 q1
  rw [hs] at hA ⊢
  refine Calls.callWith_builtin (by show (false || (backTo cpos (starEach es X.env)).any (·.1)) = false; rw [hplain] <;> rfl) (Calls.evalArgs_plain ?_)
  exact thn hA fun us s2 ⟨vs, H2, I2, r2, q2⟩ => hm pins s2 σ H2 (.ref p) vs (.ref p) us Q I2 rfl r2 q2
end
section
variable {K : PySem.W.Frag} {σ : L2.St} {H : Hp} {Q : VK} {to : TE} {tA : TA} {a b : Addr} {xs ys : List V}
theorem w_bmX {r : V → List V → Hp → VK → Prop} (h : to σ H fun x H1 => (∃ p xs, x = .ref p ∧ SqX H1 p xs) ∧ tA σ H1 fun xs H2 => r x xs H2 Q) : tBMX r to tA σ H Q := h
theorem w_bmX1 {B : Prop} (h : SqX H a xs) (q : B) : (∃ p ys, V.ref a = .ref p ∧ SqX H p ys) ∧ B := ⟨⟨a, xs, rfl, h⟩, q⟩
theorem w_tcnt {k : Str} (h : SqT K H a xs) (n : Nds xs) (q : Q (.int ((xs.countP (fun y => decide (y = .str k)) : Nat) : Int)) H) : rTCnt K (.ref a) [.str k] H Q :=
  ⟨a, xs, k, rfl, rfl, h, fun y hy => by
    rcases n y hy with h | h | h
    · exact .inl h
    · exact .inr ⟨_, h⟩
    · exact .inr ⟨_, h⟩, q⟩
theorem w_catF (h : SqT K H a xs) (h2 : SqT K H b ys) (nx : xs ≠ []) (ny : ys ≠ []) (z : xs.length + ys.length ≤ sizeLine) (q : ∀ p H', Ex H H' → SqX H' p (xs ++ ys) → Q (.ref p) H') : rCatF K (.ref a) (.ref b) H Q :=
  ⟨a, b, xs, ys, rfl, rfl, h, h2, z, fun e => (nx e).elim, fun _ e => (ny e).elim, fun _ _ p ob hp c d => q p _ (Ex.new hp) ⟨ob, upd_same, c, d⟩⟩
theorem w_tupF (h : SqL K H a xs) (q : ∀ p H', Ex H H' → H p = none → SqX H' p xs → Q (.ref p) H') : rTupF K [.ref a] H Q := ⟨a, xs, rfl, h, fun l ob hl c d => q l _ (Ex.new hl) hl ⟨ob, upd_same, c, d⟩⟩
end
end Ly
set_option Elab.async false
set_option linter.all false
set_option maxRecDepth 100000
set_option maxHeartbeats 2000000
namespace Ly
open PySem PySem.Spec PyProof.Rows L2 Evl
/-- what the element says of a sign c, while the module's names are as mg has them -/
def EltM (pr : Program) (w : World) (sc : Scope) (x : Str) (el : Expr) (mg : Str → Option Value) (pb : Nat → Bool) : Prop :=
  ∀ (e : Env) (A : Around) (X : Value → Shared → Prop) (c : Nat) (t : Tok) (z : Shared) (m : Str → Option Value), e.scope = sc → e.globals = mainGlobals →
    z.heap.Ns mainGlobals mg → z.heap.Ns e.locals m → m x = some (.str ⟨#[c]⟩ t) → wpAny (model pr w) A (eval el e) (fun y z' => y = .bool (pb c) ∧ Keeps z z') X z
theorem eltM_in {pr : Program} {w : World} {sc : Scope} {x nm : Str} {mg : Str → Option Value} {d : Str} {u : Tok} {q1 q2 q3 : Pos} (kd : sc.kind = .function) (lx : sc.names.lookup x = some .local)
    (ln : sc.names.lookup nm = some .globalImplicit) (hm : mg nm = some (.str d u)) (d1 : (x == ("__debug__" : Str)) = false := by decide) (d2 : (nm == ("__debug__" : Str)) = false := by decide) :
    EltM pr w sc x (.Compare (.Name x q1) [.In] [.Name nm q2] q3) mg (fun c => decide (c ∈ d.cps.toList)) := by
  intro e A X c t z m es eg hG hL hx
  apply wpAny_Compare1 (hm := by rfl)
  apply wpAny_Name _ d1
  apply wpAny_loadName_local (by rw [es]; exact kd) (show e.scope.names.lookup x = some .local by rw [es]; exact lx) hL hx
  apply Calls.Name_function_global (by rw [es]; exact kd) (show e.scope.names.lookup nm = _ by rw [es]; exact ln) _ d2
  apply Calls.loadGlobal_global (by rw [eg]; exact hG) hm
  apply PyProof.Rows.in_str
  exact ⟨congrArg Value.bool (PySem.StrLaws.found_one d c), ⟨z.heap, _, rfl, fun _ _ h => h⟩⟩
section
open GxR
variable {X : Cx} {pins : List (Addr × Obj)} {σ : L2.St} {H : Hp} {s : Shared}
/-- behind the walk: the def's table may have grown -/
def GoneBy (X : Cx) (pins : List (Addr × Obj)) (σ : L2.St) (H1 : Hp) (P : Addr) (a : Str) (pb : Nat → Bool) (g : Addr) (z : Shared) : Prop := Ready X pins σ H1 P a pb g z
theorem gen_textM {c P : Addr} {el it : Expr} {x : Str} {px gp : Pos} {sc : Scope} {pb : Nat → Bool} {te : TE} {k : Nat} {Fin : Value → Shared → Prop} {R : Str → Hp → Prop}
    (room : Room k X.A) (TB : TabB X.base X.mg c P) (hc : X.env.code = .ref c) (S : GenS X.env sc x) (hi : PE X it te) (hel : EltM X.prog X.w sc x el X.mg pb) (fold : ∀ v, genFold it X.env v = pure v)
    (I : Inv X pins σ H s) (walk : te σ H fun v H1 => ∃ a : Str, v = .str a ∧ TabG H1 P ∧ R a H1) (fin : ∀ a H1 g z, R a H1 → GoneBy X pins σ H1 P a pb g z → Fin (.ref g) z) :
    wpAny (model X.prog X.w) X.A (eval (.GeneratorExp el [⟨.Name x px, it, [], 0⟩] sc gp) X.env) Fin X.xe s := by
  have dp : X.A.depth < recursionLimit := by have := room.dp; omega
  apply wpAny_GeneratorExp_walksQ room.hd S.co (closure_ok S.free) S.cell S.dot S.loc S.kind dp _ fold
  refine thn (hi.run pins s σ H _ I walk) ?_
  rintro v zA ⟨_, HA, IA, rel, a, rfl, ⟨ps, tabH, trip⟩, hR⟩
  obtain ⟨tok, rfl⟩ : ∃ tok, v = Value.str a tok := rel
  apply wpAny_pyIter_str
  intro ob Sg walks start
  have tabA : zA.heap.get? P = some { cls := .none, data := .fields ps } := IA.hok P _ tabH
  have ltP : P < zA.heap.objs.size := Heap.lt_size tabA
  have keepB : ∀ {b : Addr} {u : Obj}, zA.heap.get? b = some u → (zA.heap.push ob).get? b = some u := fun e => Heap.get?_push_of_some _ e
  have szB : (zA.heap.push ob).objs.size = zA.heap.objs.size + 1 := Heap.size_push ..
  have head : PySem.W.CodeHd (zA.heap.push ob) c P := TB.code.keeps fun b u e => keepB (IA.bk b u e)
  have nol := IA.nolimit.push ob
  obtain ⟨mcs, nsS, _⟩ := IA.nolimit
  have csP : cStatics ≠ P := fun z => by
    obtain ⟨oS, eS, pS, atS, dS, _⟩ := nsS
    rw [z, tabA] at atS
    cases atS
    cases dS
  have csLt : cStatics < zA.heap.objs.size := nsS.lt
  have nsG : zA.heap.Ns mainGlobals X.mg := IA.mod.glob.keeps IA.bk
  have mgLt : mainGlobals < zA.heap.objs.size := nsG.lt
  obtain ⟨bm, bo, b1, b2, b3, b4, b5, b6, b7, b8⟩ := TB.bm
  -- whatever code object it gets: the table at P may grow, nothing else changes
  suffices rest : ∀ (code : Value) (hC : Heap) (tk : Nat) (qs : Array Value), Heap.ExtBut P (zA.heap.push ob) hC → (zA.heap.push ob).objs.size ≤ hC.objs.size →
      hC.get? P = some { cls := .none, data := .fields (ps ++ qs) } → TriplesOk (ps ++ qs).toList →
      wpAny (model X.prog X.w) X.A (builtinsFor X.env.globals X.env.builtins) _ X.xe { zA with heap := hC, toks := tk } by
    refine ⟨nol, ?_⟩
    have tabB := keepB tabA
    cases found : codeAmong gp ps.toList with
    | some cv =>
      apply wpAny_genexprCode_hit hc (head.code tabB trip) found
      have := rest cv (zA.heap.push ob) zA.toks #[] (Heap.ExtBut.refl _ _) (Nat.le_refl _) (by simpa using tabB) (by simpa using trip)
      exact this
    | none =>
      apply wpAny_genexprCodeX hc (head.code tabB trip) (head.tab tabB) found
      intro c9 hC tk ext ge lt co _ tab _
      obtain ⟨_, _, _, _, _, _, _, _, _, _, _, _, _, _, _, _, _, _, _, tr, _⟩ := co
      exact rest _ hC tk _ ext (Nat.le_trans ge (Nat.le_of_lt lt)) tab.2 tr
  intro code hC tk qs ext szC tabC tripC
  have keepC : ∀ {b : Addr} {u : Obj}, b ≠ P → zA.heap.get? b = some u → hC.get? b = some u := fun n e => ext _ _ n (keepB e)
  have nsC : hC.Ns mainGlobals X.mg := (nsG.push ob).extBut ext TB.gP
  apply wpAny_builtinsFor (m := X.mg) (by rw [IA.ok.glob]; exact nsC) b1 b2 (keepC b4 (IA.bk _ _ b5)) b6 b7 b8
  have only : ∀ {b : Addr}, b ∈ [zA.heap.objs.size] → b = zA.heap.objs.size := fun hb => List.mem_singleton.mp hb
  refine ⟨zA.heap.objs.size, [zA.heap.objs.size], [zA.heap.objs.size], a.cps.size, SignAt a, Sg, fun _ => true, fun j y => ∃ n, a.cps[j]? = some n ∧ y = .bool (pb n), rfl, walks, ?_, ?_, nol.extBut ext csP, fun hb => ?_, ?_, ?_⟩
  · apply (walks X.A room.hd).frame _ _ _ start
    intro b hb u e
    exact ext b u (by rw [only hb]; exact (Nat.ne_of_lt ltP).symm) e
  · intro b hb
    rw [only hb]
    show zA.heap.objs.size < hC.objs.size
    omega
  · rw [only hb] at csLt
    exact Nat.lt_irrefl _ csLt
  · intro hr keepR
    constructor
    · intro A' E' i v z m _ _ _ _ _
      rw [List.forIn_nil]
      exact wpAny_pure ⟨rfl, ⟨z.heap, z.toks, rfl, fun _ _ h => h⟩⟩
    · intro A' E' i v z m _ at_ _ hL hx same
      obtain ⟨n, u, hn, rfl⟩ := at_
      have nsZ : z.heap.Ns mainGlobals X.mg := by
        obtain ⟨og, es, ep, eg, dg, rg⟩ := nsC
        refine ⟨og, es, ep, same mainGlobals (List.mem_range.mpr (Nat.lt_of_lt_of_le (show mainGlobals < (zA.heap.push ob).objs.size by rw [szB]; exact Nat.lt_succ_of_lt mgLt) szC)) (fun hb => ?_) og (keepR _ _ eg), dg, rg⟩
        rw [only hb] at mgLt
        exact Nat.lt_irrefl _ mgLt
      refine wpAny_mono (hel _ A' E' n u z m rfl IA.ok.glob nsZ hL hx) ?_ fun _ _ e => e
      rintro y z' ⟨e1, e2⟩
      exact ⟨⟨n, hn, e1⟩, e2⟩
  · intro g h5 tk5 gs bare lt5 sz5 keep5 W5 at5
    rw [GxR.passing_true, List.length_range] at W5
    apply fin a HA g _ hR
    refine ⟨_, _, _, _, _, W5.in4_1, at5, ?_, ?_⟩
    · rintro j y zj Qj Ej ⟨i, hi, n, hn, rfl⟩ hQ
      obtain ⟨_, ei⟩ := List.getElem?_eq_some_iff.mp hi
      rw [List.getElem_range] at ei
      subst ei
      have hn' : a.cps.toList[j]? = some n := by rw [Array.getElem?_toList]; exact hn
      have hQ' : Qj (trF pb a.cps.toList j) zj := hQ
      rw [trF_some hn'] at hQ'
      exact wpAny_truthy_bool hQ'
    · intro z mv
      have out : ∀ {b : Addr} {u : Obj}, zA.heap.get? b = some u → b ∉ hC.objs.size :: [zA.heap.objs.size] := fun e hb => by
        have lb := Heap.lt_size e
        rcases List.mem_cons.mp hb with e1 | e1
        · rw [e1] at lb
          have : (hC.objs.size : Nat) < zA.heap.objs.size := lb
          omega
        · rw [only e1] at lb
          exact Nat.lt_irrefl _ lb
      have J := inv_tab (more := qs) (h' := z.heap) (g' := z.gens) (d' := z.drawn) (t' := z.toks) IA tabH
        (fun b u nb e => mv.heap b u (out e) (keep5 b u (keepC nb e))) (mv.heap P _ (out tabA) (keep5 P _ tabC)) (AllBare.movedS (IA.bare.push bare) mv)
      rw [sh_eta zA z mv.os] at J
      exact ⟨upd HA P (.tbl (ps ++ qs)), ⟨⟨ps ++ qs, upd_same, tripC⟩, fun b nb => upd_ne nb⟩, J⟩
theorem pe_allM {c P : Addr} {el it : Expr} {x : Str} {px p pos gp : Pos} {sc : Scope} {pb : Nat → Bool} {te : TE} {k : Nat}
    (room : Room k X.A) (hg : Gl X "all") (hm : X.mg "all" = none) (hb : bootBuiltins "all" = some (.builtin "all")) (TB : TabB X.base X.mg c P) (hc : X.env.code = .ref c) (S : GenS X.env sc x) (hi : PE X it te)
    (hel : EltM X.prog X.w sc x el X.mg pb) (fold : ∀ v, genFold it X.env v = pure v)
    (one : starEach [.GeneratorExp el [⟨.Name x px, it, [], 0⟩] sc gp] X.env = (false, eval (.GeneratorExp el [⟨.Name x px, it, [], 0⟩] sc gp) X.env) :: starEach [] X.env := by rfl) :
    PE X (.Call (.Name "all" p) [.GeneratorExp el [⟨.Name x px, it, [], 0⟩] sc gp] [] pos) (tAllS P pb te) := by
  constructor
  intro pins z σ H Q I h
  apply wpAny_Call_Name_kw
  apply ld_blt I hg hm hb
  apply PyProof.Rows.callWith_builtin1 _ one (by rfl)
  rw [one]
  change wpAny _ _ (spliced ((false, eval (.GeneratorExp el [⟨.Name x px, it, [], 0⟩] sc gp) X.env) :: backTo pos (starEach [] X.env))) _ _ z
  apply Calls.spliced_cons
  refine gen_textM (R := fun a H1 => ∀ H2, Tabbed P H1 H2 → Q (.bl (a.cps.toList.all pb)) H2) room TB hc S hi hel fold I h ?_
  rintro a H1 g s5 go ⟨fp, wr, G, F, St, W, st, tr, after⟩
  apply Calls.spliced_nil
  apply call_all_walkS
  apply W.self 0 _ _ _ st
  refine ⟨g, fp, wr, G, _, F, St, _, rfl, W, st, tr, fun s' mv => ?_⟩
  obtain ⟨H2, T2, J⟩ := after s' mv
  refine ⟨.bl _, H2, J, rfl, ?_⟩
  rw [all_signs a pb]
  exact go H2 T2
end
end Ly
namespace Ly
open PySem PySem.Spec PyProof.Rows L2 Evl
section
variable {P : Program} {w : World} {K : PySem.W.Frag} {mg : Str → Option Value} {base : Heap}
/-- a def whose code object is known to its body -/
theorem okC {x qual : Str} {st : Stmt} {f : Addr} {fd : FuncData} {N ps : List Str} {k : Nat} {sp : Sp} (F : Fun K x qual st f fd) (S : FnScope N ps (defScope st)) (len : ∀ vs H Q E, sp vs H Q E → vs.length = ps.length)
    (body : ∀ (cdv : Value) (A : Around) (outer : List Env) (s : Shared) (H : Hp) (vs : List V) (Q : VK) (E : XK), fd.code = cdv → Room k (A.deeper (envOfC qual (defScope st) s.heap.objs.size f cdv)) → sp vs H Q E →
      ∃ t, PSs (cxOf CX0 P w K mg base N qual (defScope st) f cdv A outer s H E).nox (defBody st) t ∧ t { nx := fun _ H' => Q .non H', rt := Q } (start N vs) H) : FnOk P w K mg base CX0 (k + 1) f fd ps sp := by
  obtain ⟨oc, od, kV, doc, pm, an, cdv, ct, osl, rfl, lk, hcd⟩ := F.ex
  apply fn_of lk hcd S len
  intro A outer s H vs Q E hr hsp
  obtain ⟨t, h, q⟩ := body cdv A outer s H vs Q E rfl hr hsp
  exact ⟨t, h.nox, q⟩
end
theorem gen_s {env : Env} {sc : Scope} {x : Str} (h1 : sc.kind = .function) (h2 : sc.isCoroutine = false) (h3 : ∀ y ∈ sc.names, y.2 ≠ .cell) (h4 : sc.names.lookup (".0" : Str) = some NameKind.local) (h5 : sc.names.lookup x = some .local)
    (h6 : ∀ y ∈ sc.names, y.2 ≠ .free) : GxR.GenS env sc x := ⟨h1, h2, h3, h4, h5, fun y hy e => absurd e (h6 y hy)⟩
/-- the table at P stands, what else is known is kept -/
def Tb (P : Addr) (H H' : Hp) : Prop := GxR.TabG H' P ∧ Fr P H H'
theorem Tb.refl {P : Addr} {H : Hp} (h : GxR.TabG H P) : Tb P H H := ⟨h, Fr.refl P H⟩
theorem Tb.trans {P : Addr} {H H1 H2 : Hp} (a : Tb P H H1) (b : Tb P H1 H2) : Tb P H H2 := ⟨b.1, a.2.trans b.2⟩
theorem Tb.of {P : Addr} {H H' : Hp} (h : GxR.Tabbed P H H') : Tb P H H' := ⟨h.1, fun a o n e => by rw [h.2 a n]; exact e⟩
theorem Tb.ex {P : Addr} {H H' : Hp} (h : GxR.TabG H P) (e : Ex H H') : Tb P H H' := by
  obtain ⟨ps, h1, h2⟩ := h
  exact ⟨⟨ps, e _ _ h1, h2⟩, Fr.ex e⟩
theorem Tb.mut {P p : Addr} {H H' : Hp} {o : HO} (t : GxR.TabG H P) (b : Tb P H H') (h : H p = none) : Tb P H (upd H' p o) := by
  obtain ⟨⟨ps, h1, h2⟩, fr⟩ := b
  have ne : P ≠ p := fun z => by
    obtain ⟨qs, e, _⟩ := t
    rw [z, h] at e
    cases e
  refine ⟨⟨ps, by rw [upd_ne ne]; exact h1, h2⟩, fun x u n e => ?_⟩
  have nx : x ≠ p := fun z => by rw [z, h] at e; cases e
  rw [upd_ne nx]
  exact fr x u n e
theorem Tb.free {P p : Addr} {H H' : Hp} (b : Tb P H H') (h : H' p = none) : H p = none := by
  cases e : H p with
  | none => rfl
  | some o =>
    by_cases ne : p = P
    · obtain ⟨ps, h1, _⟩ := b.1
      rw [ne, h1] at h
      cases h
    · rw [b.2 p o ne e] at h
      cases h
theorem Tb.own {P s : Addr} {H H1 H2 : Hp} {xs : List V} (b : Tb P H H1) (f : Fr s H1 H2) (hs : H s = none) (hl : H1 s = some (.lst xs)) : Tb P H H2 := by
  obtain ⟨⟨ps, h1, h2⟩, fr⟩ := b
  have ne : P ≠ s := fun z => by rw [z, hl] at h1; cases h1
  refine ⟨⟨ps, f P _ ne h1, h2⟩, fun a o n e => ?_⟩
  have na : a ≠ s := fun z => by rw [z, hs] at e; cases e
  exact f a o na (fr a o n e)
theorem tab_fr {P s : Addr} {H H' : Hp} {xs : List V} (t : GxR.TabG H P) (f : Fr s H H') (hl : H s = some (.lst xs)) : GxR.TabG H' P := by
  obtain ⟨ps, h1, h2⟩ := t
  have ne : P ≠ s := fun z => by rw [z, hl] at h1; cases h1
  exact ⟨ps, f P _ ne h1, h2⟩
theorem tab_ex {P : Addr} {H H' : Hp} (t : GxR.TabG H P) (e : Ex H H') : GxR.TabG H' P := (Tb.ex t e).1
theorem tab_ne {P a : Addr} {H : Hp} {o : HO} (h : GxR.TabG H P) (e : H a = some o) (n : ∀ q, o ≠ .tbl q) : a ≠ P := fun z => by
  obtain ⟨ps, h1, _⟩ := h
  rw [z, h1] at e
  exact n ps (Option.some.inj e).symm
theorem Tb.at {P a : Addr} {H H' : Hp} {o : HO} (b : Tb P H H') (t : GxR.TabG H P) (e : H a = some o) (n : ∀ q, o ≠ .tbl q) : H' a = some o := b.2 a o (tab_ne t e n) e
theorem Tb.lst {P a : Addr} {H H' : Hp} {xs : List V} (b : Tb P H H') (t : GxR.TabG H P) (e : H a = some (.lst xs)) : H' a = some (.lst xs) := b.at t e fun q z => nomatch z
theorem Tb.dk {P a : Addr} {H H' : Hp} {kvs : List (L2.Key × V)} (b : Tb P H H') (t : GxR.TabG H P) (e : H a = some (.dK kvs)) : H' a = some (.dK kvs) := b.at t e fun q z => nomatch z
theorem Tb.sq {K : PySem.W.Frag} {P a : Addr} {H H' : Hp} {xs : List V} (b : Tb P H H') (t : GxR.TabG H P) (h : SqT K H a xs) : SqT K H' a xs := by
  rcases h with (h | ⟨ob, h⟩) | h
  · exact .inl (.inl (b.at t h fun q z => nomatch z))
  · exact .inl (.inr ⟨ob, b.at t h fun q z => nomatch z⟩)
  · exact .inr h
theorem Tb.sl {K : PySem.W.Frag} {P a : Addr} {H H' : Hp} {xs : List V} (b : Tb P H H') (t : GxR.TabG H P) (h : SqL K H a xs) : SqL K H' a xs := by
  rcases h with (h | ⟨ob, h⟩) | h
  · exact .inl (.inl (b.at t h fun q z => nomatch z))
  · exact .inl (.inr ⟨ob, b.at t h fun q z => nomatch z⟩)
  · exact .inr h
theorem w_allS {P : Addr} {pb : Nat → Bool} {te : TE} {σ : L2.St} {H : Hp} {Q : VK} (h : te σ H fun v H1 => ∃ a : Str, v = .str a ∧ GxR.TabG H1 P ∧ ∀ H2, GxR.Tabbed P H1 H2 → Q (.bl (a.cps.toList.all pb)) H2) : GxR.tAllS P pb te σ H Q := h
/-- the end of a law in whose program a def holds a generator expression -/
theorem walk_tab {l : PySem.W.OpenLaw} {n k : Nat} {q : Program} {loose : List Str} {XP : (Str → Option Value) → Heap → Prop} {YP : World → Heap → Prop} {d : DefRec} {K : Params → PySem.W.Frag} {CX : World → CXT} {x : Str}
    (most : l.most = some n) (fits : n ≤ sizeLine) (nodef : d.params.defaults = []) (room : Room k callerA) (inK : ∀ (w : World) (h : Heap), YP w h → (K w.params).In h)
    (F : ∀ (w : World) (mg : Str → Option Value) (fa : Addr) (h : Heap), (K w.params).In h → h.Ns mainGlobals mg → mg d.name = some (.ref fa) →
      (∀ (y : Str) (c P : Addr) (r : DefRec), (recsOf q).find? (fun e => e.name == y) = some r → PySem.W.tabIn (K w.params) y = some (c, P) → PySem.W.CodeHd h c P ∧ h.get? P = some { cls := .none, data := .fields #[] }) →
      LamX.LawAtS l w (K w.params) (CX w) k n x mg fa h)
    (ends : ∀ (w : World) (H : Hp) (s : Shared) (e : Value) (s' : Shared), CX w [] H s (fun _ _ _ => False) e s' → False) :
    PySem.W.WalkO q loose XP YP l.row.toRowW d [] (fun f vs => PySem.call f vs) := by
  apply Att.attach_callB most nodef
  intro w s0 s1 mg mb fa o pm cd doc a vs ns G Y ho hd hcd hmg hobj hints hlen hbits hg
  have ik := inK w _ Y
  have at_ := F w mg fa _ ik G.T.g hmg fun y c P r e1 e2 => PySem.W.tab_of G.T ik e1 e2
  obtain ⟨fd, cs, sp, t1, t2, t3, bind, pre, run⟩ := at_
  apply LamX.law_callTs ik G.T.g G.T.b G.T.builtins G.T.nolimit hg t1 t2 t3 G.T.bmain hobj hints _ room run bind
  · intro H tH sH
    exact pre H a ns hlen hbits tH sH
  · intro H e s'
    exact ends w H s1 e s'
  · exact Nat.le_trans hlen fits
end Ly
set_option Elab.async false
set_option linter.all false
set_option maxRecDepth 100000
set_option maxHeartbeats 2000000
namespace PySem
open W
section
variable {prog : Program} {w : World} {A : Around} {E : Value → Shared → Prop} {s : Shared} {z TI TO i1 i2 : Addr} {fp1 fp2 : List Addr} {n1 n2 i : Nat} {P1 P2 : Nat → Value → Prop} {St1 St2 : Nat → Heap → Prop}
theorem zipD2_held_item {T : Addr} {f : Bool} {oT : Obj} {Q : Value → Shared → Prop} (S : ZipSep2 z TI TO i1 i2 fp1 fp2) (D1 : Draws prog w A i1 fp1 n1 P1 St1) (D2 : Draws prog w A i2 fp2 n2 P2 St2)
    (hz : IsZipHeld s.heap z TI TO T f) (hT : s.heap.get? T = some oT) (hTI : IsTupOf2 s.heap TI (.ref i1) (.ref i2)) (st1 : St1 i s.heap) (st2 : St2 i s.heap) (hlt1 : i < n1) (hlt2 : i < n2)
    (hQ : ∀ x1 x2 h' tk, P1 i x1 → P2 i x2 → IsZipHeld h' z TI TO T true → St1 (i + 1) h' → St2 (i + 1) h' → IsTupOf2 h' s.heap.objs.size x1 x2 → h'.objs.size = s.heap.objs.size + 1 →
      (∀ c o, c ≠ z → c ≠ i1 → c ≠ i2 → s.heap.get? c = some o → h'.get? c = some o) → Q (.ref s.heap.objs.size) { s with heap := h', toks := tk }) :
    wpAny (model prog w) A (Builtin.«zip.__next__» ⟨[.ref z], []⟩) (fun fin s' => ∃ v, fin = .done (.ret v) ∧ Q v s') E s := by
  obtain ⟨hp, g, d, tk0, os⟩ := s
  show wpAny _ _ (field (.ref z) 2 >>= _) _ _ _
  refine wpAny_bind (wpAny_field hz rfl (x := .bool false) rfl ?_)
  show wpAny _ _ (field (.ref z) 3 >>= _) _ _ _
  refine wpAny_bind (wpAny_field hz rfl (x := .ref TI) rfl ?_)
  refine wpAny_bind (wpAny_seqItems hTI rfl ?_)
  show wpAny _ _ (Builtin.SmallTypes.ownedTupleIsFree (.ref z) >>= _) _ _ _
  refine wpAny_bind (wpAny_tupleHeld_zip hz hT fun g0 hz0 hs0 => ?_)
  replace hs0 : Heap.SameBut z hp g0 := hs0
  simp only [Bool.false_eq_true, if_false]
  refine wpAny_bind ?_
  rw [← Array.forIn_toList]
  simp only [List.forIn_cons, List.forIn_nil]
  refine wpAny_bind (wpAny_bind (wpAny_holding ?_))
  show wpAny _ _ (Builtin.SmallTypes.nextOf (.ref i1) >>= _) _ _ ⟨g0, g, d, tk0, os⟩
  refine wpAny_bind (D1.item i _ _ _ hlt1 (D1.over st1 hs0 S.zf1) fun x1 p1 tk1 hx1 sn1 hp1 => wpAny_pure ?_)
  replace hp1 : Heap.SameBut i1 g0 p1 := hp1
  refine wpAny_pure ?_
  refine wpAny_bind (wpAny_bind (wpAny_holding ?_))
  show wpAny _ _ (Builtin.SmallTypes.nextOf (.ref i2) >>= _) _ _ ⟨p1, g, d, tk1, os⟩
  refine wpAny_bind (D2.item i _ _ _ hlt2 (D2.over (D2.over st2 hs0 S.zf2) hp1 S.sep1_2) fun x2 p2 tk2 hx2 sn2 hp2 => wpAny_pure ?_)
  replace hp2 : Heap.SameBut i2 p1 p2 := hp2
  refine wpAny_pure (wpAny_pure ?_)
  show wpAny _ _ (newTuple [x1, x2] >>= _) _ _ ⟨p2, g, d, tk2, os⟩
  refine wpAny_bind (wpAny_newTuple ?_)
  have hsz : p2.objs.size = hp.objs.size := by rw [hp2.1, hp1.1, hs0.1]
  have hz3 : IsZipHeld p2 z TI TO T true := hp2.extBut _ _ S.zi2 (hp1.extBut _ _ S.zi1 hz0)
  have hk : ∀ c o, c ≠ z → c ≠ i1 → c ≠ i2 → hp.get? c = some o → p2.get? c = some o := fun c o c1 c2 c3 e => hp2.extBut _ _ c3 (hp1.extBut _ _ c2 (hs0.extBut _ _ c1 e))
  have hj1 : St1 (i + 1) p2 := D1.over sn1 hp2 S.sep2_1
  refine wpAny_pure ⟨_, rfl, ?_⟩
  show Q (.ref p2.objs.size) _
  have hp3 : IsTupOf2 (p2.push { cls := .type "tuple", data := .seq #[x1, x2] }) p2.objs.size x1 x2 := Heap.get?_push_size _ rfl
  have hz4 : (p2.push { cls := .type "tuple", data := .seq #[x1, x2] }).objs.size = p2.objs.size + 1 := Heap.size_push ..
  rw [hsz] at hp3 hz4 ⊢
  exact hQ x1 x2 _ tk2 hx1 hx2 (Heap.get?_push_of_some _ hz3) (D1.frame _ _ _ hj1 fun b _ o e => Heap.get?_push_of_some _ e) (D2.frame _ _ _ sn2 fun b _ o e => Heap.get?_push_of_some _ e) hp3 hz4 fun c o c1 c2 c3 e => Heap.get?_push_of_some _ (hk c o c1 c2 c3 e)
theorem zipD2_held_end {T : Addr} {f : Bool} {oT : Obj} {Q : Fin → Shared → Prop} (S : ZipSep2 z TI TO i1 i2 fp1 fp2) (D1 : Draws prog w A i1 fp1 n1 P1 St1)
    (hz : IsZipHeld s.heap z TI TO T f) (hT : s.heap.get? T = some oT) (hTI : IsTupOf2 s.heap TI (.ref i1) (.ref i2)) (st1 : St1 n1 s.heap)
    (hE : ∀ h' e, (∀ c o, c ≠ z → c ≠ i1 → s.heap.get? c = some o → h'.get? c = some o) → (∃ o, h'.get? e = some o ∧ o.cls = .type "StopIteration") → E (.ref e) { s with heap := h' }) :
    wpAny (model prog w) A (Builtin.«zip.__next__» ⟨[.ref z], []⟩) Q E s := by
  obtain ⟨hp, g, d, tk0, os⟩ := s
  show wpAny _ _ (field (.ref z) 2 >>= _) _ _ _
  refine wpAny_bind (wpAny_field hz rfl (x := .bool false) rfl ?_)
  show wpAny _ _ (field (.ref z) 3 >>= _) _ _ _
  refine wpAny_bind (wpAny_field hz rfl (x := .ref TI) rfl ?_)
  refine wpAny_bind (wpAny_seqItems hTI rfl ?_)
  show wpAny _ _ (Builtin.SmallTypes.ownedTupleIsFree (.ref z) >>= _) _ _ _
  refine wpAny_bind (wpAny_tupleHeld_zip hz hT fun g0 hz0 hs0 => ?_)
  replace hs0 : Heap.SameBut z hp g0 := hs0
  simp only [Bool.false_eq_true, if_false]
  refine wpAny_bind ?_
  rw [← Array.forIn_toList]
  simp only [List.forIn_cons, List.forIn_nil]
  refine wpAny_bind (wpAny_bind (wpAny_holding ?_))
  show wpAny _ _ (Builtin.SmallTypes.nextOf (.ref i1) >>= _) _ _ ⟨g0, g, d, tk0, os⟩
  refine wpAny_bind (D1.done ⟨g0, g, d, tk0, os⟩ _ _ (D1.over st1 hs0 S.zf1) fun q e hq he => ?_)
  replace hq : Heap.ExtBut i1 g0 q := hq
  exact hE q e (fun c o cz c1 x => hq _ _ c1 (hs0.extBut _ _ cz x)) he
theorem pyNext_zipD2_held_item {T : Addr} {f : Bool} {oT : Obj} {Q : Option Value → Shared → Prop} (S : ZipSep2 z TI TO i1 i2 fp1 fp2) (D1 : Draws prog w A.in1 i1 fp1 n1 P1 St1) (D2 : Draws prog w A.in1 i2 fp2 n2 P2 St2)
    (hz : IsZipHeld s.heap z TI TO T f) (hT : s.heap.get? T = some oT) (hTI : IsTupOf2 s.heap TI (.ref i1) (.ref i2)) (st1 : St1 i s.heap) (st2 : St2 i s.heap) (hlt1 : i < n1) (hlt2 : i < n2)
    (hQ : ∀ x1 x2 h' tk, P1 i x1 → P2 i x2 → IsZipHeld h' z TI TO T true → St1 (i + 1) h' → St2 (i + 1) h' → IsTupOf2 h' s.heap.objs.size x1 x2 → h'.objs.size = s.heap.objs.size + 1 →
      (∀ c o, c ≠ z → c ≠ i1 → c ≠ i2 → s.heap.get? c = some o → h'.get? c = some o) → Q (some (.ref s.heap.objs.size)) { s with heap := h', toks := tk }) :
    wpAny (model prog w) A (pyNext (.ref z)) Q E s := by
  have hTy : s.TypeIs (.ref z) "zip" := ⟨_, hz, rfl⟩
  unfold pyNext
  exact wpAny_bind (wpAny_attempt (wpAny_callSpecial?_slot (name := Str.ofString "__next__") hTy F.slot_zip_next
    (wpAny_call_entry F.slot_zip_next hTy F.entry_zip_next
      (zipD2_held_item S D1 D2 hz hT hTI st1 st2 hlt1 hlt2 fun x1 x2 h' tk a1 a2 a3 a4 a5 a6 a7 a8 => wpAny_pure (hQ x1 x2 h' tk a1 a2 a3 a4 a5 a6 a7 a8)) (F.args_zip_next_1 _))))
theorem pyNext_zipD2_held_end {T : Addr} {f : Bool} {oT : Obj} {Q : Option Value → Shared → Prop} (S : ZipSep2 z TI TO i1 i2 fp1 fp2) (D1 : Draws prog w A.in1 i1 fp1 n1 P1 St1)
    (hz : IsZipHeld s.heap z TI TO T f) (hT : s.heap.get? T = some oT) (hTI : IsTupOf2 s.heap TI (.ref i1) (.ref i2)) (st1 : St1 n1 s.heap)
    (hQ : ∀ h', (∀ c o, c ≠ z → c ≠ i1 → s.heap.get? c = some o → h'.get? c = some o) → Q none { s with heap := h' }) :
    wpAny (model prog w) A (pyNext (.ref z)) Q E s := by
  have hTy : s.TypeIs (.ref z) "zip" := ⟨_, hz, rfl⟩
  unfold pyNext
  refine wpAny_bind (wpAny_attempt (wpAny_callSpecial?_slot (name := Str.ofString "__next__") hTy F.slot_zip_next
    (wpAny_call_entry F.slot_zip_next hTy F.entry_zip_next (zipD2_held_end S D1 hz hT hTI st1 fun h' e hk he => ?_) (F.args_zip_next_1 _))))
  obtain ⟨o, ho, hc⟩ := he
  refine wpAny_bind (wpAny_isInstance (T := "StopIteration") (b := true) ⟨o, ho, hc⟩ isSubtype_stop ?_)
  exact wpAny_pure (hQ _ hk)
end
/-- a zip over two iterators, i drawn, the tuples kept -/
def ZlSt (St1 St2 : Nat → Heap → Prop) (z TI TO i1 i2 S : Addr) (i : Nat) (h : Heap) : Prop :=
  IsTupOf2 h TI (.ref i1) (.ref i2) ∧ St1 i h ∧ St2 i h ∧ ((i = 0 ∧ IsZip h z TI TO .none ∧ ∃ a1 a2, IsTupOf2 h TO a1 a2) ∨ ∃ T f oT, IsZipHeld h z TI TO T f ∧ h.get? T = some oT ∧ S < T)
structure ZlG (P1 P2 : Nat → Value → Prop) (lo : Addr) (h : Heap) (as : List Addr) : Prop where
  rise : as.Pairwise (· < ·)
  above : ∀ a ∈ as, lo < a
  pairs : ∀ (j : Nat) (a : Addr), as[j]? = some a → ∃ x1 x2, P1 j x1 ∧ P2 j x2 ∧ IsTupOf2 h a x1 x2
theorem ZlG.there {P1 P2 : Nat → Value → Prop} {lo : Addr} {h : Heap} {as : List Addr} (g : ZlG P1 P2 lo h as) {a : Addr} (ha : a ∈ as) : a < h.objs.size := by
  obtain ⟨j, hj⟩ := List.mem_iff_getElem?.mp ha
  obtain ⟨_, _, _, _, e⟩ := g.pairs j a hj
  exact Heap.lt_size e
section
variable {prog : Program} {w : World} {A : Around} {E : Value → Shared → Prop} {s : Shared} {z TI TO i1 i2 : Addr} {fp1 fp2 : List Addr} {n : Nat} {P1 P2 : Nat → Value → Prop} {St1 St2 : Nat → Heap → Prop} {R : Result → Shared → Prop}
theorem zl_loop {L : Addr} (S : ZipSep2 z TI TO i1 i2 fp1 fp2) (D1 : Draws prog w A.in1.in1 i1 fp1 n P1 St1) (D2 : Draws prog w A.in1.in1 i2 fp2 n P2 St2) (lt : z < L ∧ TI < L ∧ TO < L ∧ (∀ b ∈ fp1, b < L) ∧ ∀ b ∈ fp2, b < L) (hn : n ≤ sizeLine) (res : Value) {h₁ : Heap}
    (hR : ∀ h' tk acc c as, (∀ b o, b ≠ L → b ≠ z → b ≠ TO → b ≠ i1 → b ≠ i2 → h₁.get? b = some o → h'.get? b = some o) → h'.get? L = some { cls := .type "list", dict := none, data := .seq acc c, slots := #[] } → as.length = n → ZlG P1 P2 L h' as →
      acc.toList = as.map Value.ref → R (.ok (.ret res)) { s with heap := h', toks := tk }) :
    ∀ (k i : Nat) (h : Heap) (tk c : Nat) (acc : Array Value) (as : List Addr), n - i = k → i ≤ n → ZlSt St1 St2 z TI TO i1 i2 L i h → (∀ b o, b ≠ L → b ≠ z → b ≠ TO → b ≠ i1 → b ≠ i2 → h₁.get? b = some o → h.get? b = some o) →
      h.get? L = some { cls := .type "list", dict := none, data := .seq acc c, slots := #[] } → acc.toList = as.map Value.ref → as.length = i → ZlG P1 P2 L h as →
      codeAny (model prog w) A (.builtin "list.extend.loop" ⟨[.ref L, .ref z, res], []⟩) R { s with heap := h, toks := tk } := by
  obtain ⟨lz, lTI, lTO, lf1, lf2⟩ := lt
  have l1 := lf1 _ S.mem1
  have l2 := lf2 _ S.mem2
  have nz : L ≠ z := Nat.ne_of_gt lz
  have nTO : L ≠ TO := Nat.ne_of_gt lTO
  have n1 : L ≠ i1 := Nat.ne_of_gt l1
  have n2 : L ≠ i2 := Nat.ne_of_gt l2
  intro k
  induction k with
  | zero =>
    intro i h tk c acc as hk hi hst hkeep hS hacc hal hG
    have hin : i = n := by omega
    subst hin
    obtain ⟨hTI, st1, st2, hz⟩ := hst
    refine codeAny_builtin PySem.F.entry_extend_loop ?_
    rw [Around.under_plainId PySem.F.plain_extend_loop _]
    show wpAny _ A.in1 (pyNext (.ref z) >>= _) _ _ _
    have fin : ∀ h' tk', (∀ c o, c ≠ z → c ≠ TO → c ≠ i1 → c ≠ i2 → h.get? c = some o → h'.get? c = some o) → R (.ok (.ret res)) { s with heap := h', toks := tk' } := fun h' tk' hk' => by
      refine hR h' tk' acc c as (fun b o h1 h2 h3 h4 h5 e => hk' b o h2 h3 h4 h5 (hkeep b o h1 h2 h3 h4 h5 e)) (hk' L _ nz nTO n1 n2 hS) hal ⟨hG.rise, hG.above, fun j a hj => ?_⟩ hacc
      obtain ⟨x1, x2, e1, e2, e3⟩ := hG.pairs j a hj
      have ha := hG.above a (List.mem_of_getElem? hj)
      exact ⟨x1, x2, e1, e2, hk' a _ (Nat.ne_of_gt (Nat.lt_trans lz ha)) (Nat.ne_of_gt (Nat.lt_trans lTO ha)) (Nat.ne_of_gt (Nat.lt_trans l1 ha)) (Nat.ne_of_gt (Nat.lt_trans l2 ha)) e3⟩
    rcases hz with ⟨h0, hz, a1, a2, hTO⟩ | ⟨T, f, oT, hz, hT, _⟩
    · exact wpAny_bind (wpAny_pyNext_zipD2_end (A := A.in1) (s := { s with heap := h, toks := tk }) S D1 D2 hz hTI hTO st1 st2 (Nat.le_refl _) (Nat.le_refl _) (.inl rfl) fun h' tk' hk' => wpAny_pure (fin h' tk' hk'))
    · exact wpAny_bind (pyNext_zipD2_held_end (A := A.in1) (s := { s with heap := h, toks := tk }) S D1 hz hT hTI st1 fun h' hk' => wpAny_pure (fin h' tk fun c o c1 c2 c3 c4 e => hk' c o c1 c3 e))
  | succ k ih =>
    intro i h tk c acc as hk hi hst hkeep hS hacc hal hG
    have hlt : i < n := by omega
    have hsz : acc.size = i := by rw [← Array.length_toList, hacc, List.length_map, hal]
    obtain ⟨hTI, st1, st2, hz⟩ := hst
    have hSl : L < h.objs.size := Heap.lt_size hS
    refine codeAny_builtin PySem.F.entry_extend_loop ?_
    rw [Around.under_plainId PySem.F.plain_extend_loop _]
    show wpAny _ A.in1 (pyNext (.ref z) >>= _) _ _ _
    have go : ∀ x1 x2 h' tk', P1 i x1 → P2 i x2 → St1 (i + 1) h' → St2 (i + 1) h' → IsTupOf2 h' h.objs.size x1 x2 → h'.objs.size = h.objs.size + 1 → (∃ T f oT, IsZipHeld h' z TI TO T f ∧ h'.get? T = some oT ∧ L < T) →
        (∀ c o, c ≠ z → c ≠ TO → c ≠ i1 → c ≠ i2 → h.get? c = some o → h'.get? c = some o) →
        wpAny (model prog w) A.in1 (updateSeq L (·.push (Value.ref h.objs.size)) >>= fun _ => again (.builtin "list.extend.loop" ⟨[.ref L, .ref z, res], []⟩))
          (fun fin s' => match fin with | .done f => R (.ok f) s' | .again c' => c'.quiet = true ∧ codeAny (model prog w) A c' R s') (fun e s' => R (.error e) s') { s with heap := h', toks := tk' } := by
      intro x1 x2 h' tk' p1 p2 sn1 sn2 ht hz' hheld hkp
      have hS' := hkp L _ nz nTO n1 n2 hS
      have up : ∀ b o, b ≠ L → h'.get? b = some o → (h'.update L (Obj.mapSeq (·.push (Value.ref h.objs.size)))).get? b = some o := fun b o hb e => (Heap.get?_update_other _ _ (Ne.symm hb)).trans e
      refine wpAny_bind ?_
      refine wpAny_updateSeq hS' rfl (wpAny_pure ⟨plainId_quiet PySem.F.plain_extend_loop _, ih (i + 1) _ tk' _ (acc.push (Value.ref h.objs.size)) (as ++ [h.objs.size]) (by omega) hlt ⟨?_, ?_, ?_, ?_⟩
        (fun b o h1 h2 h3 h4 h5 e => up b o h1 (hkp b o h2 h3 h4 h5 (hkeep b o h1 h2 h3 h4 h5 e))) (Heap.get?_update_self _ hS' rfl) (by rw [Array.toList_push, hacc, List.map_append]; rfl) (by rw [List.length_append, hal]; rfl) ⟨?_, ?_, ?_⟩⟩) (by rw [hsz]; omega) (by show (acc.push (Value.ref h.objs.size)).size ≤ sizeLine + 1; rw [Array.size_push, hsz]; omega)
      · exact up _ _ (Nat.ne_of_lt lTI) (hkp TI _ S.TIz S.TITO S.TIi1 S.TIi2 hTI)
      · exact D1.frame _ _ _ sn1 fun b hb o e => up b o (Nat.ne_of_lt (lf1 b hb)) e
      · exact D2.frame _ _ _ sn2 fun b hb o e => up b o (Nat.ne_of_lt (lf2 b hb)) e
      · obtain ⟨T, f, oT, h1, h2, h3⟩ := hheld
        exact .inr ⟨T, f, oT, up _ _ nz.symm h1, up _ _ (Nat.ne_of_gt h3) h2, h3⟩
      · refine List.pairwise_append.mpr ⟨hG.rise, List.pairwise_singleton _ _, fun a ha b hb => ?_⟩
        rw [List.mem_singleton.mp hb]
        exact hG.there ha
      · intro a ha
        rcases List.mem_append.mp ha with ha | ha
        · exact hG.above a ha
        · rw [List.mem_singleton.mp ha]; exact hSl
      · intro j b hj
        rcases Nat.lt_trichotomy j as.length with h1 | h1 | h1
        · rw [List.getElem?_append_left h1] at hj
          obtain ⟨y1, y2, e1, e2, e3⟩ := hG.pairs j b hj
          have hb := hG.above b (List.mem_of_getElem? hj)
          exact ⟨y1, y2, e1, e2, up b _ (Nat.ne_of_gt hb) (hkp b _ (Nat.ne_of_gt (Nat.lt_trans lz hb)) (Nat.ne_of_gt (Nat.lt_trans lTO hb)) (Nat.ne_of_gt (Nat.lt_trans l1 hb)) (Nat.ne_of_gt (Nat.lt_trans l2 hb)) e3)⟩
        · subst h1
          have hb : h.objs.size = b := by simpa using hj
          subst hb
          exact ⟨x1, x2, by rw [hal]; exact p1, by rw [hal]; exact p2, up _ _ (Nat.ne_of_gt hSl) ht⟩
        · have hnone : (as ++ [h.objs.size])[j]? = none := List.getElem?_eq_none (by rw [List.length_append, List.length_singleton]; omega)
          rw [hnone] at hj; cases hj
    rcases hz with ⟨h0, hz, a1, a2, hTO⟩ | ⟨T, f, oT, hz, hT, hLT⟩
    · exact wpAny_bind (wpAny_pyNext_zipD2_item (A := A.in1) (s := { s with heap := h, toks := tk }) S D1 D2 hz hTI hTO st1 st2 hlt hlt fun x1 x2 h' tk' p1 p2 b1 b2 sn1 sn2 b5 b6 hkp =>
        go x1 x2 h' tk' p1 p2 sn1 sn2 b5 b6 ⟨h.objs.size, false, _, b1, b5, hSl⟩ hkp)
    · exact wpAny_bind (pyNext_zipD2_held_item (A := A.in1) (s := { s with heap := h, toks := tk }) S D1 D2 hz hT hTI st1 st2 hlt hlt fun x1 x2 h' tk' p1 p2 b1 sn1 sn2 b5 b6 hkp =>
        go x1 x2 h' tk' p1 p2 sn1 sn2 b5 b6 ⟨T, true, oT, b1, hkp T oT (Nat.ne_of_gt (Nat.lt_trans lz hLT)) (Nat.ne_of_gt (Nat.lt_trans l1 hLT)) (Nat.ne_of_gt (Nat.lt_trans l2 hLT)) hT, hLT⟩ fun c o c1 c2 c3 c4 e => hkp c o c1 c3 c4 e)
end
theorem zip_no_len : typeLookup (.type "zip") "__len__" = pure none := am_miss_of_fast (by decide +kernel)
theorem zip_no_hint : typeLookup (.type "zip") "__length_hint__" = pure none := am_miss_of_fast (by decide +kernel)
section
variable {prog : Program} {w : World} {A : Around} {E : Value → Shared → Prop} {s : Shared} {z TI TO i1 i2 : Addr} {fp1 fp2 : List Addr} {n : Nat} {P1 P2 : Nat → Value → Prop} {St1 St2 : Nat → Heap → Prop}
theorem zl_call {a1 a2 : Value} {Q : Value → Shared → Prop} (hh : A.handled = none) (S : ZipSep2 z TI TO i1 i2 fp1 fp2) (D1 : ∀ A' : Around, A'.handled = none → Draws prog w A' i1 fp1 n P1 St1) (D2 : ∀ A' : Around, A'.handled = none → Draws prog w A' i2 fp2 n P2 St2)
    (hz : IsZip s.heap z TI TO .none) (hTI : IsTupOf2 s.heap TI (.ref i1) (.ref i2)) (hTO : IsTupOf2 s.heap TO a1 a2) (st1 : St1 0 s.heap) (st2 : St2 0 s.heap) (lf1 : ∀ b ∈ fp1, b < s.heap.objs.size) (lf2 : ∀ b ∈ fp2, b < s.heap.objs.size) (hn : n ≤ sizeLine)
    (hQ : ∀ h' tk acc c as, (∀ b o, b ≠ z → b ≠ TO → b ≠ i1 → b ≠ i2 → s.heap.get? b = some o → h'.get? b = some o) → h'.get? s.heap.objs.size = some { cls := .type "list", dict := none, data := .seq acc c, slots := #[] } → as.length = n → ZlG P1 P2 s.heap.objs.size h' as →
      acc.toList = as.map Value.ref → Q (.ref s.heap.objs.size) { s with heap := h', toks := tk }) :
    wpAny (model prog w) A (call (.type "list") [.ref z]) Q E s := by
  have lz : z < s.heap.objs.size := Heap.lt_size hz
  have hSz : s.heap.objs.size ≠ z := Nat.ne_of_gt lz
  refine callType_codes (Q₁ := fun obj s₁ => obj = .ref s.heap.objs.size ∧ s₁ = { s with heap := s.heap.push { cls := .type "list", data := .seq #[] } }) F.called_list (F.typeCall_list_1 _) F.entry_list_init
    (code_list_new _ ⟨rfl, rfl⟩) fun obj s₁ h₁ => ?_
  obtain ⟨rfl, rfl⟩ := h₁
  have hS : (s.heap.push { cls := .type "list", data := .seq #[] }).get? s.heap.objs.size = some { cls := .type "list", data := .seq #[] } := Heap.get?_push_size _ rfl
  refine ⟨⟨_, hS, rfl⟩, F.args_list_init_2 _ _, ?_⟩
  show wpAny _ A.in1.in1 (do let old ← Builtin.List.listItems (.ref s.heap.objs.size); Builtin.List.listUpdate (.ref s.heap.objs.size) (fun _ => #[]); letGo old.toList.reverse; Builtin.List.listExtendWith (.ref s.heap.objs.size) (.ref z) .none) _ _ _
  refine wpAny_bind ?_
  unfold Builtin.List.listItems
  refine wpAny_bind (wpAny_seqItems hS rfl (wpAny_pure ?_))
  show wpAny _ A.in1.in1 (updateSeq s.heap.objs.size (fun _ => #[]) >>= fun _ => letGo (#[] : Array Value).toList.reverse >>= fun _ => Builtin.List.listExtendWith (.ref s.heap.objs.size) (.ref z) .none) _ _ _
  refine wpAny_bind (wpAny_updateSeq hS rfl ?_)
  have hS2 := Heap.get?_update_self (Obj.mapSeq (fun _ => (#[] : Array Value))) hS rfl
  refine wpAny_bind (wpAny_letGo ?_)
  unfold Builtin.List.listExtendWith
  have up : ∀ (h : Heap) (f : Obj → Obj), (∀ b o, s.heap.get? b = some o → h.get? b = some o) → ∀ b o, s.heap.get? b = some o → (h.update s.heap.objs.size f).get? b = some o := fun h f q b o e =>
    (Heap.get?_update_other _ _ (Ne.symm (Nat.ne_of_lt (Heap.lt_size e)))).trans (q b o e)
  have k1 : ∀ b o, s.heap.get? b = some o → (s.heap.push { cls := .type "list", data := .seq #[] }).get? b = some o := fun b o e => Heap.get?_push_of_some _ e
  have k2 := up _ (Obj.mapSeq (fun _ => (#[] : Array Value))) k1
  have zty : ∀ {h : Heap}, (∀ b o, s.heap.get? b = some o → h.get? b = some o) → Shared.TypeIs { s with heap := h } (.ref z) "zip" := fun {h} q => ⟨_, q _ _ hz, rfl⟩
  refine wpAny_bind (wpAny_typeOf (zty k2) ?_)
  have h1 : Builtin.List.listSameRef (.ref s.heap.objs.size) (.ref z) = false := by simp [Builtin.List.listSameRef, hSz]
  have h2 : (Value.type "zip" == Value.type "list") = false := by decide
  have h3 : (Value.type "zip" == Value.type "tuple") = false := by decide
  simp only [h1, h2, h3, Bool.or_false, Bool.false_eq_true, if_false]
  refine wpAny_bind (wpAny_pyIter_zip (s := { s with heap := _ }) (k2 _ _ hz) ?_)
  refine wpAny_bind (wpAny_holding ?_)
  unfold Builtin.List.listLengthHint
  refine wpAny_bind (wpAny_specialOf (zty k2) zip_no_len ?_)
  show wpAny _ A.in1.in1 (specialOf (Value.ref z) (Str.ofString "__length_hint__") >>= _) _ _ _
  refine wpAny_bind (wpAny_specialOf (zty k2) zip_no_hint ?_)
  refine wpAny_pure ?_
  show wpAny _ A.in1.in1 (rule "list.extend.makes-room" >>= fun _ => Builtin.List.listTouch (.ref s.heap.objs.size) >>= fun _ =>
    again (.builtin "list.extend.loop" ⟨[.ref s.heap.objs.size, .ref z, .none], []⟩)) _ _ _
  refine wpAny_bind (wpAny_rule ?_)
  refine wpAny_bind ?_
  show wpAny _ A.in1.in1 (updateSeq s.heap.objs.size (·.push .none) >>= fun _ => updateSeq s.heap.objs.size (·.pop)) _ _ _
  refine wpAny_bind (wpAny_updateSeq hS2 rfl ?_)
  have hS3 := Heap.get?_update_self (Obj.mapSeq (·.push Value.none)) hS2 rfl
  refine wpAny_updateSeq (hz := by seq_fits) hS3 rfl ?_
  have hS4 := Heap.get?_update_self (Obj.mapSeq (·.pop)) hS3 rfl
  have k4 := up _ (Obj.mapSeq (·.pop)) (up _ (Obj.mapSeq (·.push Value.none)) k2)
  refine wpAny_pure ⟨plainId_quiet F.plain_extend_loop _, ?_⟩
  refine zl_loop (A := A.in1) (s := s) (h₁ := s.heap) S (D1 _ hh) (D2 _ hh) ⟨lz, Heap.lt_size hTI, Heap.lt_size hTO, lf1, lf2⟩ hn .none
    (fun h' tk acc c as q1 q2 q3 q4 q5 => ⟨rfl, hQ h' tk acc c as (fun b o c1 c2 c3 c4 e => q1 b o (Nat.ne_of_lt (Heap.lt_size e)) c1 c2 c3 c4 e) q2 q3 q4 q5⟩)
    n 0 _ s.toks _ #[] [] (Nat.sub_zero _) (Nat.zero_le _) ⟨k4 _ _ hTI, (D1 A hh).frame _ _ _ st1 fun b _ o e => k4 b o e, (D2 A hh).frame _ _ _ st2 fun b _ o e => k4 b o e, .inl ⟨rfl, k4 _ _ hz, a1, a2, k4 _ _ hTO⟩⟩
    (fun b o _ _ _ _ _ e => k4 b o e) hS4 rfl rfl ⟨List.Pairwise.nil, (fun _ ha => nomatch ha), fun j a hj => by simp at hj⟩
end
end PySem
namespace Ly
open PySem PySem.Spec PyProof.Rows L2 Evl
section
variable {X : Cx} {pins : List (Addr × Obj)} {σ : L2.St} {H H' : Hp} {s : Shared} {h' : Heap}
theorem _root_.PySem.L2.Inv.more {t' : Nat} (I : Inv X pins σ H s) (k : ∀ b u, s.heap.get? b = some u → h'.get? b = some u) (up : ∀ b u, H b = some u → H' b = some u)
    (new : ∀ b u, H' b = some u → H b = some u ∨ (s.heap.objs.size ≤ b ∧ ObjOk X.prog X.w H' h' b u)) : Inv X pins σ H' { s with heap := h', toks := t' } := by
  refine I.un ⟨fun b u q _ _ _ => k b u q, fun b u q _ _ _ => ⟨u.slots, k b u q⟩, fun b u q n _ => ?_, fun b u q _ => ⟨u, k b u q⟩, fun b xs q => up b _ q, fun b o u q => up b _ q, fun b ps q => ⟨#[], by rw [up b _ q]; simp⟩⟩ fun b u e => ?_
  · cases e : H' b with
    | none => rfl
    | some v =>
      rcases new b v e with z | ⟨z, _⟩
      · rw [n] at z; cases z
      · exact absurd (Nat.lt_of_lt_of_le (Heap.lt_size q) z) (Nat.lt_irrefl _)
  · rcases new b u e with z | ⟨_, z⟩
    · exact (I.hok b u z).stay (fun c v _ q => k c v q) (fun c q => up c _ q) fun c xs q => up c _ q
    · exact z
end
theorem lookup_zip {β : Type} : ∀ (as : List Addr) (ps : List β), as.Nodup → ∀ (j : Nat) (a : Addr) (p : β), as[j]? = some a → ps[j]? = some p → (as.zip ps).lookup a = some p
  | [], _, _, _, _, _, h, _ => by simp at h
  | _ :: _, [], _, _, _, _, _, h => by simp at h
  | b :: as, q :: ps, nd, 0, a, p, h1, h2 => by
    have h1 : b = a := by simpa using h1
    have h2 : q = p := by simpa using h2
    subst h1 h2
    simp [List.lookup]
  | b :: as, q :: ps, nd, j + 1, a, p, h1, h2 => by
    have h1 : as[j]? = some a := by simpa using h1
    have h2 : ps[j]? = some p := by simpa using h2
    have nd := List.nodup_cons.mp nd
    have ne : a ≠ b := fun z => nd.1 (z ▸ List.mem_of_getElem? h1)
    rw [List.zip_cons_cons, List.lookup_cons, beq_eq_false_iff_ne.mpr ne]
    exact lookup_zip as ps nd.2 j a p h1 h2
theorem lookup_got {β : Type} : ∀ (as : List Addr) (ps : List β) (a : Addr) (p : β), (as.zip ps).lookup a = some p → ∃ j : Nat, as[j]? = some a ∧ ps[j]? = some p
  | [], _, _, _, h => by simp [List.lookup] at h
  | _ :: _, [], _, _, h => by simp [List.lookup] at h
  | b :: as, q :: ps, a, p, h => by
    rw [List.zip_cons_cons, List.lookup_cons] at h
    by_cases e : a = b
    · subst e
      rw [beq_self_eq_true] at h
      exact ⟨0, rfl, h⟩
    · rw [beq_eq_false_iff_ne.mpr e] at h
      obtain ⟨j, h1, h2⟩ := lookup_got as ps a p h
      exact ⟨j + 1, h1, h2⟩
/-- the heap with the list of the pairs -/
def putZ (H : Hp) (L : Addr) (as : List Addr) (ps : List (V × V)) : Hp := fun b => if b = L then some (.lst (as.map V.ref)) else match (as.zip ps).lookup b with
  | some p => some (.tup [p.1, p.2])
  | none => H b
def Sq (K : PySem.W.Frag) (H : Hp) (a : Addr) (xs : List V) : Prop := SqL K H a xs ∨ SqT K H a xs
theorem sq_begins {X : Cx} {pins : List (Addr × Obj)} {σ : L2.St} {H : Hp} {s : Shared} {a : Addr} {xs : List V} (I : Inv X pins σ H s) (h : Sq X.K H a xs) :
    ∃ (its : List Value) (o : Obj) (C : Heap → Prop), Begins (.ref a) o C ∧ C s.heap ∧ Vals xs its ∧ xs.length ≤ sizeLine ∧ a < s.heap.objs.size ∧
      ∀ it, a ≠ it → ∃ St : Nat → Heap → Prop, (∀ A' : Around, A'.handled = none → Draws X.prog X.w A' it [it, a] its.length (fun i v => its[i]? = some v) St) ∧ ∀ h' : Heap, h'.get? it = some o → C h' → St 0 h' := by
  rcases h with h | h
  · obtain ⟨its, rv, p, z⟩ := I.list h
    refine ⟨its, _, _, begins_list a its.toArray, p.isList, rv, z, (let ⟨_, e, _⟩ := p.isList; Heap.lt_size e), fun it hne => ⟨fun i h => h.IsListIter it a i ∧ h.IsList a its.toArray, fun A' hA => ?_, fun h' e c => ⟨⟨_, e, rfl, rfl⟩, c⟩⟩⟩
    have D := Draws.list (prog := X.prog) (w := X.w) (A := A') hA it a hne its.toArray
    simpa using D
  · obtain ⟨its, rv, p, z⟩ := I.tuple h
    refine ⟨its, _, _, begins_tuple a its.toArray, p, rv, z, ?_, fun it hne => ⟨fun i h => h.IsTupleIter it a i ∧ h.IsTuple a its.toArray, fun A' hA => ?_, fun h' e c => ⟨⟨_, e, rfl, rfl⟩, c⟩⟩⟩
    · obtain ⟨_, e, _⟩ := id p
      exact Heap.lt_size e
    · have D := Draws.tuple (prog := X.prog) (w := X.w) (A := A') hA it a hne its.toArray
      simpa using D
/-- the list and the tuples of the pairs are there -/
structure Zipped (H H' : Hp) (p : Addr) (ts : List Addr) (xs ys : List V) : Prop where
  ex : Ex H H'
  new : H p = none
  lst : H' p = some (.lst (ts.map V.ref))
  len : ts.length = xs.length
  tup : ∀ (i : Nat) (t : Addr) (x y : V), ts[i]? = some t → xs[i]? = some x → ys[i]? = some y → H' t = some (.tup [x, y])
def tListZip (K : PySem.W.Frag) (ta : TA) : TE := fun σ H Q => ta σ H fun vs H1 => ∃ a b xs ys, vs = [.ref a, .ref b] ∧ Sq K H1 a xs ∧ Sq K H1 b ys ∧ xs.length = ys.length ∧ ∀ H2 p ts, Zipped H1 H2 p ts xs ys → Q (.ref p) H2
theorem pe_listZip {X : Cx} {e e2 : Expr} {ta : TA} {p pos p2 pos2 : Pos} (hc : X.calm = true) (hg : Gl X "list") (hm : X.mg "list" = none) (hg2 : Gl X "zip") (hm2 : X.mg "zip" = none) (ha : PA X [e, e2] ta)
    (hs : starEach [e, e2] X.env = (false, eval e X.env) :: starEach [e2] X.env := by rfl) (hpl : (backTo pos2 (starEach [e2] X.env)).any (·.1) = false := by rfl)
    (na : starEach [.Call (.Name "zip" p2) [e, e2] [] pos2] X.env = (false, eval (.Call (.Name "zip" p2) [e, e2] [] pos2) X.env) :: starEach [] X.env := by rfl) :
    PE X (.Call (.Name "list" p) [.Call (.Name "zip" p2) [e, e2] [] pos2] [] pos) (tListZip X.K ta) := by
  refine ⟨fun pins s σ H Q I h => ?_⟩
  refine Call_ (ld_blt I hg hm boot_list (PyProof.Rows.callWith_type1 (args_cons ?_ na) na))
  refine Call_ (ld_blt I hg2 hm2 PyProof.Rows.boot_zip (PyProof.Rows.callWith_type1 (thn (ha.run pos2 pins s σ H _ I h) fun us s1 ⟨vs, H1, J, rv, q⟩ => ?_) hs hpl))
  obtain ⟨a, b, xs, ys, ev, hx, hy, hl, q⟩ := q
  subst ev
  obtain ⟨u1, us1, e1, r1, rv1⟩ : ∃ u1 us1, us = u1 :: us1 ∧ RelV (.ref a) u1 ∧ Vals [.ref b] us1 := by
    cases rv with
    | cons r rr => exact ⟨_, _, rfl, r, rr⟩
  obtain ⟨u2, e2', r2⟩ := vals1 rv1
  subst e1 e2'
  cases r1
  cases r2
  obtain ⟨its1, o1, C1, B1, c1, v1, z1, l1, D1⟩ := sq_begins J hx
  obtain ⟨its2, o2, C2, B2, c2, v2, z2, l2, D2⟩ := sq_begins J hy
  have n1 := v1.length
  have n2 := v2.length
  refine zip_begins2 B1 B2 c1 c2 fun h' hz hI hO g1 g2 hsz hk => args_nil ?_
  obtain ⟨St1, D1, S1⟩ := D1 s1.heap.objs.size (Nat.ne_of_lt l1)
  obtain ⟨St2, D2, S2⟩ := D2 (s1.heap.objs.size + 1) (Nat.ne_of_lt (Nat.lt_succ_of_lt l2))
  have el : its2.length = its1.length := by omega
  rw [el] at D2
  have J' : Inv X pins σ H1 { s1 with heap := h', toks := s1.toks } := J.kept hk
  have f1 : ∀ c ∈ [a], c < s1.heap.objs.size := fun c hc => by rw [List.mem_singleton.mp hc]; exact l1
  have f2 : ∀ c ∈ [b], c < s1.heap.objs.size := fun c hc => by rw [List.mem_singleton.mp hc]; exact l2
  refine zl_call (s := { s1 with heap := h' }) (J.ok.hd hc) (zip_sep2 f1 f2) D1 D2 hz hI hO (S1 _ g1 (B1.keeps _ _ c1 hk)) (S2 _ g2 (B2.keeps _ _ c2 hk)) ?_ ?_ (by omega) fun h2 tk acc c as kp hL hal hG hacc => ?_
  · intro c hc
    show c < h'.objs.size
    rw [hsz]
    rcases List.mem_cons.mp hc with rfl | hc
    · first | exact Nat.lt_add_of_pos_right (by decide) | exact Nat.add_lt_add_left (by decide : 1 < 5) _
    · exact Nat.lt_of_lt_of_le (f1 c hc) (Nat.le_add_right _ _)
  · intro c hc
    show c < h'.objs.size
    rw [hsz]
    rcases List.mem_cons.mp hc with rfl | hc
    · first | exact Nat.lt_add_of_pos_right (by decide) | exact Nat.add_lt_add_left (by decide : 1 < 5) _
    · exact Nat.lt_of_lt_of_le (f2 c hc) (Nat.le_add_right _ _)
  have kp2 : ∀ b o, s1.heap.get? b = some o → h2.get? b = some o := fun b o e => by
    have lb := Heap.lt_size e
    have ne : ∀ k : Nat, b ≠ s1.heap.objs.size + k := fun k => Nat.ne_of_lt (Nat.lt_of_lt_of_le lb (Nat.le_add_right _ _))
    exact kp b o (ne 4) (ne 3) (ne 0) (ne 1) (hk b o e)
  have hLs : h'.objs.size = s1.heap.objs.size + 5 := hsz
  have nd : as.Nodup := hG.rise.imp fun h => Nat.ne_of_lt h
  have lps : as.length = (xs.zip ys).length := by rw [List.length_zip]; omega
  have gz : ∀ (j : Nat) (a : Addr) (p : V × V), as[j]? = some a → (xs.zip ys)[j]? = some p → ∃ u1 u2, RelV p.1 u1 ∧ RelV p.2 u2 ∧ IsTupOf2 h2 a u1 u2 := fun j a p ea ep => by
    obtain ⟨u1, u2, e1, e2, e3⟩ := hG.pairs j a ea
    have ep := List.getElem?_zip_eq_some.mp ep
    obtain ⟨w1, g1, r1⟩ := v1.get ep.1
    obtain ⟨w2, g2, r2⟩ := v2.get ep.2
    rw [e1] at g1
    rw [e2] at g2
    cases g1
    cases g2
    exact ⟨u1, u2, r1, r2, e3⟩
  have up : ∀ b u, H1 b = some u → putZ H1 h'.objs.size as (xs.zip ys) b = some u := fun b u e => by
    have lb : b < s1.heap.objs.size := J.hok.lt e
    have lbL : b < h'.objs.size := by rw [hLs]; exact Nat.lt_of_lt_of_le lb (Nat.le_add_right _ _)
    unfold putZ
    rw [if_neg (Nat.ne_of_lt lbL)]
    cases hlk : (as.zip (xs.zip ys)).lookup b with
    | none => exact e
    | some p =>
      obtain ⟨j, ea, _⟩ := lookup_got _ _ _ _ hlk
      have := hG.above b (List.mem_of_getElem? ea)
      exact absurd (Nat.lt_trans lbL this) (Nat.lt_irrefl _)
  have F : Zipped H1 (putZ H1 h'.objs.size as (xs.zip ys)) h'.objs.size as xs ys := by
    refine ⟨fun b u e => up b u e, J.hok.fresh (by rw [hLs]; exact Nat.le_add_right _ _), by unfold putZ; rw [if_pos rfl], by omega, fun i t x y e1 e2 e3 => ?_⟩
    unfold putZ
    have ht : h'.objs.size < t := hG.above t (List.mem_of_getElem? e1)
    rw [if_neg (Nat.ne_of_gt ht), lookup_zip as (xs.zip ys) nd i t (x, y) e1 (List.getElem?_zip_eq_some.mpr ⟨e2, e3⟩)]
  refine ⟨.ref h'.objs.size, putZ H1 h'.objs.size as (xs.zip ys), J.more kp2 up fun b u e => ?_, rfl, q _ _ _ F⟩
  unfold putZ at e
  by_cases hb : b = h'.objs.size
  · rw [if_pos hb] at e
    cases e
    subst hb
    refine .inr ⟨by rw [hLs]; exact Nat.le_add_right _ _, ?_, acc.toList, c, ?_, ?_⟩
    · rw [List.length_map]; omega
    · rw [hacc]
      clear hacc lps gz up F nd hal hG
      induction as with
      | nil => exact .nil
      | cons x r ih => exact .cons rfl ih
    · rw [Array.toArray_toList]; exact hL
  · rw [if_neg hb] at e
    cases hlk : (as.zip (xs.zip ys)).lookup b with
    | none => rw [hlk] at e; exact .inl e
    | some p =>
      rw [hlk] at e
      cases e
      obtain ⟨j, ea, ep⟩ := lookup_got _ _ _ _ hlk
      obtain ⟨u1, u2, r1, r2, e3⟩ := gz j b p ea ep
      have : h'.objs.size < b := hG.above b (List.mem_of_getElem? ea)
      exact .inr ⟨Nat.le_trans (by rw [hLs]; exact Nat.le_add_right _ _) (Nat.le_of_lt this), sz_of (Nat.le_of_ble_eq_true rfl), [u1, u2], .cons r1 (.cons r2 .nil), ⟨_, e3, rfl, _, rfl⟩⟩
theorem w_listZip {K : PySem.W.Frag} {ta : TA} {σ : L2.St} {H : Hp} {Q : VK} (h : ta σ H fun vs H1 => ∃ a b xs ys, vs = [.ref a, .ref b] ∧ Sq K H1 a xs ∧ Sq K H1 b ys ∧ xs.length = ys.length ∧ ∀ H2 p ts, Zipped H1 H2 p ts xs ys → Q (.ref p) H2) : tListZip K ta σ H Q := h
end Ly
set_option Elab.async false
set_option linter.all false
set_option maxRecDepth 100000
set_option maxHeartbeats 2000000
namespace Ly
open PySem PySem.Spec PyProof.Rows L2 Evl
def digz (d : Nat) : List Nat := if d < 10 then [48 + d] else [48 + d / 10, 48 + d % 10]
theorem digz_str : ∀ d : Nat, d < 100 → Str.ofString (toString (d : Int)) = pl (digz d) ∧ (d : Int).natAbs.log2 < 1920 := by decide +kernel
def nmN (k : Nat) : List Nat := if k / 26 = 0 then [97 + k % 26] else (97 + k % 26) :: digz (k / 26)
theorem digz_ok {d : Nat} (h : d < 100) : (digz d).all isDig = true ∧ (digz d).length ≤ 2 := by
  unfold digz
  split
  · exact ⟨by simp [isDig]; omega, by simp⟩
  · exact ⟨by simp [isDig]; omega, by simp⟩
theorem nm_ok {k : Nat} (h : k < 2600) : IsNm (nmN k) := by
  have h1 : k / 26 < 100 := by omega
  have h2 := digz_ok h1
  unfold nmN
  have h3 : isLow (97 + k % 26) = true := by simp [isLow]; omega
  split
  · exact ⟨_, [], rfl, h3, rfl, by simp⟩
  · exact ⟨_, _, rfl, h3, h2.1, by omega⟩
def unN : List Nat → Nat
  | [c] => c - 97
  | [c, a] => (a - 48) * 26 + (c - 97)
  | [c, a, b] => ((a - 48) * 10 + (b - 48)) * 26 + (c - 97)
  | _ => 0
theorem un_nm (k : Nat) : k < 2600 → unN (nmN k) = k := fun h => by
  unfold nmN digz
  split
  · show 97 + k % 26 - 97 = k
    omega
  · split
    · show (48 + k / 26 - 48) * 26 + (97 + k % 26 - 97) = k
      omega
    · show ((48 + k / 26 / 10 - 48) * 10 + (48 + k / 26 % 10 - 48)) * 26 + (97 + k % 26 - 97) = k
      omega
theorem nm_inj {i j : Nat} (hi : i < 2600) (hj : j < 2600) (h : nmN i = nmN j) : i = j := by rw [← un_nm i hi, ← un_nm j hj, h]
/-- the first n names of the list, without those of fs -/
def own (fs : List (List Nat)) : Nat → List (List Nat)
  | 0 => []
  | n + 1 => own fs n ++ if nmN n ∈ fs then [] else [nmN n]
theorem own_yes {fs : List (List Nat)} {n : Nat} (h : nmN n ∈ fs) : own fs (n + 1) = own fs n := by
  show own fs n ++ _ = _
  rw [if_pos h, List.append_nil]
theorem own_no {fs : List (List Nat)} {n : Nat} (h : nmN n ∉ fs) : own fs (n + 1) = own fs n ++ [nmN n] := by
  show own fs n ++ _ = _
  rw [if_neg h]
theorem own_le (fs : List (List Nat)) : ∀ n, (own fs n).length ≤ n
  | 0 => Nat.le_refl _
  | n + 1 => by
    have ih := own_le fs n
    by_cases h : nmN n ∈ fs
    · rw [own_yes h]; omega
    · rw [own_no h, List.length_append, List.length_singleton]; omega
/-- how many of the first n names stand in fs -/
def hits (fs : List (List Nat)) : Nat → List (List Nat)
  | 0 => []
  | n + 1 => hits fs n ++ if nmN n ∈ fs then [nmN n] else []
theorem own_hits (fs : List (List Nat)) : ∀ n, (own fs n).length + (hits fs n).length = n
  | 0 => rfl
  | n + 1 => by
    have ih := own_hits fs n
    by_cases h : nmN n ∈ fs
    · rw [own_yes h]
      show _ + (hits fs n ++ _).length = _
      rw [if_pos h, List.length_append, List.length_singleton]
      omega
    · rw [own_no h, List.length_append]
      show _ + (hits fs n ++ _).length = _
      rw [if_neg h, List.length_append, List.length_singleton, List.length_nil]
      omega
theorem hits_mem {fs : List (List Nat)} {w : List Nat} : ∀ {n : Nat}, w ∈ hits fs n → w ∈ fs ∧ ∃ k, k < n ∧ w = nmN k
  | 0, h => by cases h
  | n + 1, h => by
    rcases List.mem_append.mp (show w ∈ hits fs n ++ _ from h) with h | h
    · obtain ⟨h1, k, h2, h3⟩ := hits_mem h
      exact ⟨h1, k, by omega, h3⟩
    · split at h
      · rename_i hm
        rw [List.mem_singleton.mp h]
        exact ⟨hm, n, by omega, rfl⟩
      · cases h
theorem hits_nodup (fs : List (List Nat)) : ∀ {n : Nat}, n ≤ 2600 → (hits fs n).Nodup
  | 0, _ => List.nodup_nil
  | n + 1, h => by
    have ih := hits_nodup fs (n := n) (by omega)
    show (hits fs n ++ _).Nodup
    split
    · refine List.nodup_append.mpr ⟨ih, by simp, fun a ha b hb e => ?_⟩
      rw [List.mem_singleton.mp hb] at e
      obtain ⟨_, k, hk, e2⟩ := hits_mem ha
      have := nm_inj (by omega) (by omega) (e2.symm.trans e)
      omega
    · rw [List.append_nil]; exact ih
theorem nodup_le {α : Type} [DecidableEq α] : ∀ {xs ys : List α}, xs.Nodup → (∀ x ∈ xs, x ∈ ys) → xs.length ≤ ys.length
  | [], _, _, _ => Nat.zero_le _
  | x :: xs, ys, nd, h => by
    obtain ⟨n1, n2⟩ := List.nodup_cons.mp nd
    have hx := h x List.mem_cons_self
    have ih := nodup_le (xs := xs) (ys := ys.erase x) n2 fun y hy => (List.mem_erase_of_ne (fun e => n1 (by rw [← e]; exact hy))).mpr (h y (List.mem_cons_of_mem _ hy))
    have := List.length_erase_of_mem hx
    have := List.length_pos_of_mem hx
    rw [List.length_cons]
    omega
theorem own_len {fs : List (List Nat)} {n : Nat} (h : n ≤ 2600) : n ≤ (own fs n).length + fs.length := by
  have h1 := own_hits fs n
  have h2 := nodup_le (hits_nodup fs h) fun w hw => (hits_mem hw).1
  omega
theorem own_mem {fs : List (List Nat)} {w : List Nat} : ∀ {n : Nat}, w ∈ own fs n → w ∉ fs ∧ ∃ k, k < n ∧ w = nmN k
  | 0, h => by cases h
  | n + 1, h => by
    rcases List.mem_append.mp (show w ∈ own fs n ++ _ from h) with h | h
    · obtain ⟨h1, k, h2, h3⟩ := own_mem h
      exact ⟨h1, k, by omega, h3⟩
    · split at h
      · cases h
      · rename_i hm
        rw [List.mem_singleton.mp h]
        exact ⟨hm, n, by omega, rfl⟩
theorem own_nm {fs : List (List Nat)} {n : Nat} (h : n ≤ 2600) : ∀ w ∈ own fs n, IsNm w := fun w hw => by
  obtain ⟨_, k, hk, rfl⟩ := own_mem hw
  exact nm_ok (by omega)
theorem own_nodup (fs : List (List Nat)) : ∀ {n : Nat}, n ≤ 2600 → (own fs n).Nodup
  | 0, _ => List.nodup_nil
  | n + 1, h => by
    have ih := own_nodup fs (n := n) (by omega)
    show (own fs n ++ _).Nodup
    split
    · rw [List.append_nil]; exact ih
    · refine List.nodup_append.mpr ⟨ih, by simp, fun a ha b hb e => ?_⟩
      rw [List.mem_singleton.mp hb] at e
      obtain ⟨_, k, hk, e2⟩ := own_mem ha
      have := nm_inj (by omega) (by omega) (e2.symm.trans e)
      omega
theorem own_ext (fs : List (List Nat)) (m : Nat) : ∀ k, ∃ r, own fs (m + k) = own fs m ++ r
  | 0 => ⟨[], by simp⟩
  | k + 1 => by
    obtain ⟨r, e⟩ := own_ext fs m k
    exact ⟨r ++ if nmN (m + k) ∈ fs then [] else [nmN (m + k)], by rw [← List.append_assoc, ← e]; rfl⟩
theorem own_pre {fs : List (List Nat)} {m n : Nat} (h : m ≤ n) : ∃ r, own fs n = own fs m ++ r := by
  obtain ⟨r, e⟩ := own_ext fs m (n - m)
  exact ⟨r, by rw [← e, show m + (n - m) = n by omega]⟩
def Tm.isL : Tm → Bool
  | .lam _ => true
  | _ => false
def Tm.isV : Tm → Bool
  | .var _ => true
  | _ => false
def par (c : Bool) (w : List Nat) : List Nat := if c = true then 40 :: (w ++ [41]) else w
/-- an abstraction's text -/
def abT (c : Bool) (n b : List Nat) : List Nat := if c = true then 92 :: (n ++ 32 :: b.drop 1) else 92 :: (n ++ 46 :: 32 :: b)
def shw (bs fs : List (List Nat)) : Nat → Tm → List Nat
  | d, .var i => if i < d then bs.getD (d - 1 - i) [] else fs.getD (i - d) []
  | d, .lam b => abT b.isL (bs.getD d []) (shw bs fs (d + 1) b)
  | d, .app f a => par f.isL (shw bs fs d f) ++ 32 :: par (!a.isV) (shw bs fs d a)
/-- the variables have names -/
def okF (m : Nat) : Nat → Tm → Prop
  | d, .var i => i < d + m
  | d, .lam b => okF m (d + 1) b
  | d, .app f a => okF m d f ∧ okF m d a
def Tm.lams : Tm → Nat
  | .var _ => 0
  | .lam b => b.lams + 1
  | .app f a => f.lams + a.lams
theorem lams_count : ∀ t : Tm, t.enc.countP (fun y => decide (y = V.str "lam")) = t.lams
  | .var i => by
    show (List.countP _ [V.int (i : Int)]) = 0
    simp
  | .lam b => by
    have := lams_count b
    show (List.countP _ (V.str "lam" :: b.enc)) = b.lams + 1
    rw [List.countP_cons, this]
    simp
  | .app f a => by
    have h1 := lams_count f
    have h2 := lams_count a
    show (List.countP _ (V.str "app" :: (f.enc ++ a.enc))) = f.lams + a.lams
    rw [List.countP_cons, List.countP_append, h1, h2]
    have : ¬ (V.str "app" = V.str "lam") := by decide +kernel
    simp [this]
theorem lams_le : ∀ t : Tm, t.lams + 1 ≤ t.enc.length
  | .var _ => Nat.le_refl _
  | .lam b => by
    have := lams_le b
    simp only [Tm.lams, Tm.enc, List.length_cons]
    omega
  | .app f a => by
    have := lams_le f
    have := lams_le a
    simp only [Tm.lams, Tm.enc, List.length_cons, List.length_append]
    omega
/-- a name of point 7 -/
def nmB : List Nat → Bool
  | [] => false
  | c :: ds => isLow c && ds.all isDig && decide (ds.length ≤ 9)
theorem nmB_of {w : List Nat} (h : IsNm w) : nmB w = true := by
  obtain ⟨c, ds, rfl, hc, hd, hl⟩ := h.ex
  show (isLow c && ds.all isDig && decide (ds.length ≤ 9)) = true
  rw [hc, hd, decide_eq_true (by omega)]
  rfl
def Nms (ws : List (List Nat)) : Prop := ∀ w ∈ ws, nmB w = true
theorem Nms.get {ws : List (List Nat)} (h : Nms ws) {i : Nat} (hi : i < ws.length) : nmB (ws.getD i []) = true := by
  rw [List.getD_eq_getElem?_getD, List.getElem?_eq_getElem hi]
  exact h _ (List.getElem_mem hi)
theorem nm_head {w : List Nat} (h : nmB w = true) : ∃ c r, w = c :: r ∧ c ≠ 92 ∧ 32 ∉ w ∧ w.length ≤ 10 := by
  cases w with
  | nil => cases h
  | cons c ds => ?_
  have h : (isLow c && ds.all isDig && decide (ds.length ≤ 9)) = true := h
  rw [Bool.and_eq_true, Bool.and_eq_true] at h
  obtain ⟨⟨hc, hd⟩, hl⟩ := h
  have hl := of_decide_eq_true hl
  have hc := of_decide_eq_true hc
  refine ⟨c, ds, rfl, by omega, fun z => ?_, by simpa using hl⟩
  rcases List.mem_cons.mp z with e | z
  · omega
  · have := of_decide_eq_true (List.all_eq_true.mp hd _ z)
    omega
section
variable {bs fs : List (List Nat)} (hb : Nms bs) (hf : Nms fs)
include hb hf
theorem shw_var {d i : Nat} (hd : d ≤ bs.length) (h : i < d + fs.length) : nmB (shw bs fs d (.var i)) = true := by
  show nmB (if i < d then _ else _) = true
  split
  · exact hb.get (by omega)
  · exact hf.get (by omega)
theorem shw_head : ∀ (t : Tm) (d : Nat), d + t.lams ≤ bs.length → okF fs.length d t → ∃ c r, shw bs fs d t = c :: r ∧ (t.isL = true ↔ c = 92)
  | .var i, d, hd, h => by
    obtain ⟨c, r, e, hc, _⟩ := nm_head (shw_var hb hf (i := i) (by simpa [Tm.lams] using hd) h)
    exact ⟨c, r, e, by simp [Tm.isL, hc]⟩
  | .lam b, d, hd, h => by
    show ∃ c r, abT b.isL (bs.getD d []) (shw bs fs (d + 1) b) = c :: r ∧ _
    unfold abT
    split
    · exact ⟨92, _, rfl, by simp [Tm.isL]⟩
    · exact ⟨92, _, rfl, by simp [Tm.isL]⟩
  | .app f a, d, hd, h => by
    obtain ⟨c, r, e, hc⟩ := shw_head f d (by simp only [Tm.lams] at hd; omega) h.1
    show ∃ c r, par f.isL (shw bs fs d f) ++ _ = c :: r ∧ _
    unfold par
    split
    · exact ⟨40, _, rfl, by simp [Tm.isL]⟩
    · rename_i hl
      refine ⟨c, _, by rw [e]; rfl, ?_⟩
      have : c ≠ 92 := fun z => hl (hc.mpr z)
      simp [Tm.isL, this]
theorem shw_space : ∀ (t : Tm) (d : Nat), d + t.lams ≤ bs.length → okF fs.length d t → (32 ∈ shw bs fs d t ↔ t.isV = false)
  | .var i, d, hd, h => by
    obtain ⟨c, r, e, _, hc, _⟩ := nm_head (shw_var hb hf (i := i) (by simpa [Tm.lams] using hd) h)
    simp [Tm.isV, hc]
  | .lam b, d, hd, h => by
    refine ⟨fun _ => rfl, fun _ => ?_⟩
    show 32 ∈ abT _ _ _
    unfold abT
    split <;> simp
  | .app f a, d, hd, h => by
    refine ⟨fun _ => rfl, fun _ => ?_⟩
    show 32 ∈ par _ _ ++ 32 :: _
    simp
theorem shw_len : ∀ (t : Tm) (d : Nat), d + t.lams ≤ bs.length → okF fs.length d t → (shw bs fs d t).length ≤ 14 * t.enc.length
  | .var i, d, hd, h => by
    obtain ⟨c, r, e, _, hc, hl⟩ := nm_head (shw_var hb hf (i := i) (by simpa [Tm.lams] using hd) h)
    simp only [Tm.enc, List.length_singleton]
    omega
  | .lam b, d, hd, h => by
    simp only [Tm.lams] at hd
    have ih := shw_len b (d + 1) (by omega) h
    obtain ⟨_, _, _, _, _, hl⟩ := nm_head (hb.get (i := d) (by omega))
    show (abT _ _ _).length ≤ _
    unfold abT
    split <;> (simp only [List.length_cons, List.length_append, List.length_drop, Tm.enc]; omega)
  | .app f a, d, hd, h => by
    simp only [Tm.lams] at hd
    have i1 := shw_len f d (by omega) h.1
    have i2 := shw_len a d (by omega) h.2
    show (par _ _ ++ 32 :: par _ _).length ≤ _
    unfold par
    split <;> split <;> (simp only [List.length_cons, List.length_append, List.length_nil, Tm.enc]; omega)
end
theorem starts_pl (c : Nat) (r : List Nat) : Txt.startswith (pl (c :: r)) (pl [92]) = decide (c = 92) := by
  unfold Txt.startswith
  rw [pl_len, pl_len, StrLaws.subAt_eq, pl_len]
  by_cases h : c = 92 <;> simp [pl, h]
theorem lamN_ex : ∀ t : Tm, t.isL = true → ∃ n b, t = Tm.lamN (n + 1) b ∧ b.isL = false
  | .lam b, _ => by
    cases hb : b.isL with
    | false => exact ⟨0, b, rfl, hb⟩
    | true =>
      obtain ⟨n, c, e, hc⟩ := lamN_ex b hb
      exact ⟨n + 1, c, by rw [e]; rfl, hc⟩
theorem drop_getW {bs : List (List Nat)} {d : Nat} (h : d < bs.length) (n : Nat) : (bs.drop d).take (n + 1) = bs.getD d [] :: (bs.drop (d + 1)).take n := by
  rw [List.drop_eq_getElem_cons h, List.take_succ_cons, List.getD_eq_getElem?_getD, List.getElem?_eq_getElem h]
  rfl
def fo (t : Tm) : Nat → List (Tm × Nat)
  | 0 => [(t, 0)]
  | i + 1 => match fo t i with
    | [] => []
    | (.var _, _) :: r => r
    | (.lam b, d) :: r => (b, d + 1) :: r
    | (.app f a, d) :: r => (f, d) :: (a, d) :: r
def encP (ps : List (Tm × Nat)) : List V := (ps.map fun p => p.1.enc).flatten
def depP (ps : List (Tm × Nat)) : List Nat := (ps.map fun p => p.1.deps p.2).flatten
theorem encP_cons (t : Tm) (d : Nat) (r : List (Tm × Nat)) : encP ((t, d) :: r) = t.enc ++ encP r := by simp [encP]
theorem depP_cons (t : Tm) (d : Nat) (r : List (Tm × Nat)) : depP ((t, d) :: r) = t.deps d ++ depP r := by simp [depP]
theorem fo_drop (t : Tm) : ∀ i, i ≤ t.enc.length → t.enc.drop i = encP (fo t i) ∧ (t.deps 0).drop i = depP (fo t i)
  | 0, _ => by simp [fo, encP, depP]
  | i + 1, h => by
    obtain ⟨h1, h2⟩ := fo_drop t i (by omega)
    have e1 : t.enc.drop (i + 1) = (t.enc.drop i).drop 1 := by rw [List.drop_drop]
    have e2 : (t.deps 0).drop (i + 1) = ((t.deps 0).drop i).drop 1 := by rw [List.drop_drop]
    rw [e1, e2, h1, h2]
    cases hf : fo t i with
    | nil =>
      rw [hf] at h1
      have := congrArg List.length h1
      simp [encP] at this
      omega
    | cons p r =>
      obtain ⟨u, d⟩ := p
      rw [encP_cons, depP_cons]
      have e3 : fo t (i + 1) = (match (u, d) :: r with
        | [] => []
        | (.var _, _) :: r => r
        | (.lam b, d) :: r => (b, d + 1) :: r
        | (.app f a, d) :: r => (f, d) :: (a, d) :: r) := by rw [← hf]; rfl
      rw [e3]
      cases u with
      | var n => exact ⟨rfl, rfl⟩
      | lam b => exact ⟨by rw [encP_cons]; rfl, by rw [depP_cons]; rfl⟩
      | app f a => exact ⟨by rw [encP_cons, encP_cons, ← List.append_assoc]; rfl, by rw [depP_cons, depP_cons, ← List.append_assoc]; rfl⟩
theorem fo_end (t : Tm) : fo t t.enc.length = [] := by
  have h := (fo_drop t _ (Nat.le_refl _)).1
  rw [List.drop_length] at h
  cases hf : fo t t.enc.length with
  | nil => rfl
  | cons p r =>
    rw [hf] at h
    have h2 : p.1.enc ++ encP r = [] := by rw [h]; simp [encP]
    exact absurd (List.append_eq_nil_iff.mp h2).1 p.1.enc_ne
/-- what a node is, and the forests before and behind it -/
inductive FoAt (t : Tm) (i : Nat) (v : V) (d : Nat) : Prop
  | var (n : Nat) (r) : v = .int (n : Int) → fo t i = (.var n, d) :: r → fo t (i + 1) = r → FoAt t i v d
  | lam (b : Tm) (r) : v = .str "lam" → fo t i = (.lam b, d) :: r → fo t (i + 1) = (b, d + 1) :: r → FoAt t i v d
  | app (f a : Tm) (r) : v = .str "app" → fo t i = (.app f a, d) :: r → fo t (i + 1) = (f, d) :: (a, d) :: r → FoAt t i v d
theorem fo_at {t : Tm} {i : Nat} {v : V} {d : Nat} (hv : t.enc[i]? = some v) (hd : (t.deps 0)[i]? = some d) : FoAt t i v d := by
  have hi := (List.getElem?_eq_some_iff.mp hv).1
  obtain ⟨h1, h2⟩ := fo_drop t i (by omega)
  cases hf : fo t i with
  | nil =>
    rw [hf] at h1
    have := congrArg List.length h1
    simp [encP] at this
    omega
  | cons p r =>
    obtain ⟨u, d'⟩ := p
    have e3 : fo t (i + 1) = (match (u, d') :: r with
      | [] => []
      | (.var _, _) :: r => r
      | (.lam b, d) :: r => (b, d + 1) :: r
      | (.app f a, d) :: r => (f, d) :: (a, d) :: r) := by rw [← hf]; rfl
    rw [hf, encP_cons, drop_at hv] at h1
    rw [hf, depP_cons, drop_at hd] at h2
    cases u with
    | var n =>
      have a1 := (List.cons.inj (show v :: _ = V.int n :: _ from h1)).1
      have a2 := (List.cons.inj (show d :: _ = d' :: _ from h2)).1
      subst a2
      exact .var n r a1 hf e3
    | lam b =>
      have a1 := (List.cons.inj (show v :: _ = V.str "lam" :: _ from h1)).1
      have a2 := (List.cons.inj (show d :: _ = d' :: _ from h2)).1
      subst a2
      exact .lam b r a1 hf e3
    | app f a =>
      have a1 := (List.cons.inj (show v :: _ = V.str "app" :: _ from h1)).1
      have a2 := (List.cons.inj (show d :: _ = d' :: _ from h2)).1
      subst a2
      exact .app f a r a1 hf e3
theorem fo_lams (t : Tm) : ∀ i, ∀ p ∈ fo t i, p.2 + p.1.lams ≤ t.lams
  | 0, p, hp => by
    rw [show fo t 0 = [(t, 0)] from rfl] at hp
    rw [List.mem_singleton.mp hp]
    exact Nat.le_of_eq (Nat.zero_add _)
  | i + 1, p, hp => by
    have ih := fo_lams t i
    rw [show fo t (i + 1) = (match fo t i with
      | [] => []
      | (.var _, _) :: r => r
      | (.lam b, d) :: r => (b, d + 1) :: r
      | (.app f a, d) :: r => (f, d) :: (a, d) :: r) from rfl] at hp
    split at hp
    · cases hp
    · rename_i r e
      rw [e] at ih
      exact ih p (List.mem_cons_of_mem _ hp)
    · rename_i b d r e
      rw [e] at ih
      rcases List.mem_cons.mp hp with rfl | hp
      · have := ih _ List.mem_cons_self
        simp only [Tm.lams] at this
        show d + 1 + b.lams ≤ _
        omega
      · exact ih p (List.mem_cons_of_mem _ hp)
    · rename_i f a d r e
      rw [e] at ih
      have h0 := ih _ List.mem_cons_self
      simp only [Tm.lams] at h0
      rcases List.mem_cons.mp hp with rfl | hp
      · show d + f.lams ≤ _
        omega
      · rcases List.mem_cons.mp hp with rfl | hp
        · show d + a.lams ≤ _
          omega
        · exact ih p (List.mem_cons_of_mem _ hp)
theorem fo_ok {t : Tm} {m : Nat} (h : okF m 0 t) : ∀ i, ∀ p ∈ fo t i, okF m p.2 p.1
  | 0, p, hp => by
    rw [show fo t 0 = [(t, 0)] from rfl] at hp
    rw [List.mem_singleton.mp hp]
    exact h
  | i + 1, p, hp => by
    have ih := fo_ok h i
    rw [show fo t (i + 1) = (match fo t i with
      | [] => []
      | (.var _, _) :: r => r
      | (.lam b, d) :: r => (b, d + 1) :: r
      | (.app f a, d) :: r => (f, d) :: (a, d) :: r) from rfl] at hp
    split at hp
    · cases hp
    · rename_i r e
      rw [e] at ih
      exact ih p (List.mem_cons_of_mem _ hp)
    · rename_i b d r e
      rw [e] at ih
      rcases List.mem_cons.mp hp with rfl | hp
      · exact ih (.lam b, d) List.mem_cons_self
      · exact ih p (List.mem_cons_of_mem _ hp)
    · rename_i f a d r e
      rw [e] at ih
      have h0 := ih _ List.mem_cons_self
      rcases List.mem_cons.mp hp with rfl | hp
      · exact h0.1
      · rcases List.mem_cons.mp hp with rfl | hp
        · exact h0.2
        · exact ih p (List.mem_cons_of_mem _ hp)
theorem encP_le : ∀ ps : List (Tm × Nat), ps.length ≤ (encP ps).length ∧ ∀ p ∈ ps, p.1.enc.length ≤ (encP ps).length
  | [] => ⟨Nat.zero_le _, fun p hp => nomatch hp⟩
  | (u, d) :: r => by
    obtain ⟨h1, h2⟩ := encP_le r
    have := List.length_pos_iff.mpr u.enc_ne
    rw [encP_cons, List.length_append, List.length_cons]
    refine ⟨by omega, fun p hp => ?_⟩
    rcases List.mem_cons.mp hp with rfl | hp
    · show u.enc.length ≤ _
      omega
    · have := h2 p hp
      omega
theorem fo_le {t : Tm} {i : Nat} (h : i ≤ t.enc.length) : (fo t i).length ≤ t.enc.length ∧ ∀ p ∈ fo t i, p.1.enc.length ≤ t.enc.length := by
  have e := congrArg List.length (fo_drop t i h).1
  rw [List.length_drop] at e
  obtain ⟨h1, h2⟩ := encP_le (fo t i)
  refine ⟨by omega, fun p hp => ?_⟩
  have := h2 p hp
  omega
/-- the texts that are written when the nodes from i on are done -/
def stk (bs fs : List (List Nat)) (t : Tm) (i : Nat) : List (List Nat) := ((fo t i).map fun p => shw bs fs p.2 p.1).reverse
end Ly
set_option Elab.async false
set_option linter.all false
set_option maxRecDepth 100000
set_option maxHeartbeats 2000000
namespace Ly
open PySem PySem.Spec PyProof.Rows L2 Evl
def rLCnt (K : PySem.W.Frag) : V → List V → Hp → VK → Prop := fun x xs H Q => ∃ (p : Addr) (ys : List V) (k : Str), x = .ref p ∧ xs = [.str k] ∧ SqL K H p ys ∧ (∀ y ∈ ys, (∃ i, y = .int i) ∨ ∃ z, y = .str z) ∧ Q (.int ((ys.countP (fun y => decide (y = .str k)) : Nat) : Int)) H
/-- a display of a tuple, held with its object -/
def tTupF (t : TA) : TE := fun σ H Q => t σ H fun xs H1 => xs.length ≤ sizeLine ∧ ∀ p ob, H1 p = none → ob.cls = .type "tuple" → ob.dict = none → Q (.ref p) (upd H1 p (.frz ob (.tup xs)))
theorem pe_tupF {X : Cx} {es : List Expr} {x1} {pos : Pos} {t : TA} (h : PA X es t) : PE X (.Tuple es x1 pos) (tTupF t) := by
  refine ⟨fun pins s σ H Q I hq => ?_⟩
  refine wpAny_Tuple_spliced (thn (h.run pos pins s σ H _ I hq) fun us s1 ⟨xs, H1, I1, r, z, q⟩ => ⟨by rw [← r.length]; exact z, ?_⟩)
  have hf : H1 s1.heap.objs.size = none := I1.hok.fresh (Nat.le_refl _)
  refine ⟨.ref s1.heap.objs.size, upd H1 s1.heap.objs.size (.frz { cls := .type "tuple", data := .seq us.toArray } (.tup xs)), I1.laid (t' := s1.toks) (fun b u e => Heap.get?_push_of_some _ e) (Nat.le_refl _) ?_, rfl, q _ _ hf rfl rfl⟩
  exact ⟨Heap.get?_push_size _ rfl, z, us, r, ⟨_, Heap.get?_push_size _ rfl, rfl, _, rfl⟩⟩
theorem w_tupD {tA : TA} {σ : L2.St} {H : Hp} {Q : VK} (h : tA σ H fun xs H1 => xs.length ≤ sizeLine ∧ ∀ p ob, H1 p = none → ob.cls = .type "tuple" → ob.dict = none → Q (.ref p) (upd H1 p (.frz ob (.tup xs)))) : tTupF tA σ H Q := h
theorem ne_flat {α : Type} {own : List α} (h : own ≠ []) : (List.replicate own.length [V.str "lam"]).flatten ≠ [] := by
  cases own with
  | nil => exact absurd rfl h
  | cons a r => rw [List.length_cons, List.replicate_succ]; simp
theorem count_plcs (ws : List (List Nat)) (r : List Nat) : (plcs ws).countP (fun y => decide (y = V.str (pl r))) = ws.count r := by
  induction ws with
  | nil => rfl
  | cons w ws ih =>
    show (V.str (pl w) :: plcs ws).countP _ = _
    rw [List.countP_cons, List.count_cons, ih]
    by_cases e : w = r
    · subst e; simp
    · have : ¬ (V.str (pl w) = V.str (pl r)) := fun z => e (pl_inj (V.str.inj z))
      simp [this, e]
theorem pl_sp : (" " : Str) = pl [32] := by decide +kernel
theorem pl_dsp : (". " : Str) = pl [46, 32] := by decide +kernel
theorem getD_at {ws : List (List Nat)} {i : Nat} (h : i < ws.length) : ws[i]? = some (ws.getD i []) := by
  rw [List.getD_eq_getElem?_getD, List.getElem?_eq_getElem h]
  rfl
theorem plcs_at {ws : List (List Nat)} {i : Nat} (h : i < ws.length) : (plcs ws)[i]? = some (.str (pl (ws.getD i []))) := by
  rw [List.getElem?_map, getD_at h]
  rfl
theorem em_lp : Str.empty ++ ("(" : Str) = pl [40] := by decide +kernel
theorem lp_rp (w : List Nat) : pl w ++ (")" : Str) = pl (w ++ [41]) := by rw [← pl_rp, pl_app]
theorem sp_sp (w : List Nat) : pl w ++ (" " : Str) = pl (w ++ [32]) := by rw [pl_sp, pl_app]
theorem pl_abc : ("abcdefghijklmnopqrstuvwxyz" : Str) = pl (List.range' 97 26) := by decide +kernel
theorem get_abc {c : Nat} (h : c < 26) : (List.range' 97 26)[c]? = some (97 + c) := by
  rw [List.getElem?_range' h, Nat.one_mul]
theorem fmod26 (n : Nat) : (n : Int).fmod ((26 : Nat) : Int) = ((n % 26 : Nat) : Int) := by
  rw [Int.fmod_eq_emod_of_nonneg _ (by omega)]
  rfl
theorem fdiv26 (n : Nat) : (n : Int).fdiv ((26 : Nat) : Int) = ((n / 26 : Nat) : Int) := by
  rw [Int.fdiv_eq_ediv_of_nonneg _ (by omega)]
  rfl
theorem let_in (c : Nat) : decide (c ∈ ("abcdefghijklmnopqrstuvwxyz" : Str).cps.toList) = isLow c := by
  have e : ("abcdefghijklmnopqrstuvwxyz" : Str).cps.toList = List.range' 97 26 := by decide +kernel
  rw [e]
  unfold isLow
  rw [decide_eq_decide, List.mem_range'_1]
  omega
theorem dig_in (c : Nat) : decide (c ∈ ("0123456789" : Str).cps.toList) = isDig c := by
  have e : ("0123456789" : Str).cps.toList = List.range' 48 10 := by decide +kernel
  rw [e]
  unfold isDig
  rw [decide_eq_decide, List.mem_range'_1]
  omega
section
variable {K : PySem.W.Frag} {H : Hp} {Q : VK} {σ : L2.St} {to te : TE} {R : It → Hp → Prop}
theorem w_lcnt {p : Addr} {ws : List (List Nat)} {r : List Nat} (h : H p = some (.lst (plcs ws))) (q : Q (.int (ws.count r : Nat)) H) : rLCnt K (.ref p) [.str (pl r)] H Q :=
  ⟨p, _, _, rfl, rfl, SqL.of h, fun y hy => by obtain ⟨w, _, rfl⟩ := List.mem_map.mp hy; exact .inr ⟨_, rfl⟩, by rw [count_plcs]; exact q⟩
theorem w_m1 {r : V → List V → Hp → VK → Prop} (h : to σ H fun x H1 => (∃ a, x = .str a) ∧ te σ H1 fun y H2 => r x [y] H2 Q) : tM1 r to te σ H Q := h
theorem w_m11 {z : Str} {B : Prop} (q : B) : (∃ a, V.str z = .str a) ∧ B := ⟨⟨z, rfl⟩, q⟩
theorem w_st2 {z u : Str} {B : Str → Str → Prop} (q : B z u) : ∃ a b, V.str z = .str a ∧ [V.str u] = [.str b] ∧ B a b := ⟨z, u, rfl, rfl, q⟩
theorem w_sg {c : Nat} {z : Str} {B : Nat → Str → Prop} (q : B c z) : ∃ (c' : Nat) (z' : Str), V.str (pl [c]) = .str ⟨#[c']⟩ ∧ V.str z = .str z' ∧ B c' z' := ⟨c, z, rfl, rfl, q⟩
theorem w_sg2 {c : Nat} {z : Str} {B : Nat → Str → Prop} (q : B c z) : ∃ (c' : Nat) (z' : Str), V.str ⟨#[c]⟩ = .str ⟨#[c']⟩ ∧ V.str z = .str z' ∧ B c' z' := ⟨c, z, rfl, rfl, q⟩
theorem w_sgSp {z : Str} {B : Nat → Str → Prop} (q : B 32 z) : ∃ (c' : Nat) (z' : Str), V.str " " = .str ⟨#[c']⟩ ∧ V.str z = .str z' ∧ B c' z' := by
  have e : ((" " : Str)) = pl [32] := by decide +kernel
  exact ⟨32, z, by rw [e]; rfl, rfl, q⟩
theorem w_fmtS {w : List Nat} {A : Prop} {B : Str → Prop} (hl : w.length ≤ 1000000) (q : B (pl w)) : (∃ y : Str, V.str (pl w) = .str y ∧ y.length ≤ sizeLine ∧ B y) ∨ A := .inl ⟨_, rfl, by rw [pl_len]; exact ly_sz (by omega), q⟩
theorem w_js0 {w : List Nat} {A : Str → Prop} (hl : w.length ≤ 1000000) (q : A (pl w)) : ∃ y : Str, V.str (pl w) = .str y ∧ (Str.empty ++ y).length ≤ sizeLine ∧ A y :=
  ⟨_, rfl, by rw [show Str.empty = pl [] from rfl, pl_app, pl_len]; exact ly_sz (by simp; omega), q⟩
theorem w_js2 {a w : List Nat} {A : Str → Prop} (hl : a.length + w.length ≤ 1000000) (q : A (pl w)) : ∃ y : Str, V.str (pl w) = .str y ∧ (pl a ++ y).length ≤ sizeLine ∧ A y :=
  ⟨_, rfl, by rw [pl_app, pl_len]; exact ly_sz (by simp; omega), q⟩
theorem pl_em (w : List Nat) : Str.empty ++ pl w = pl w := by rw [show Str.empty = pl [] from rfl, pl_app]; rfl
end
end Ly
set_option Elab.async false
set_option linter.all false
set_option maxRecDepth 100000
set_option maxHeartbeats 2000000
namespace Ly
open PySem PySem.Spec PyProof.Rows L2 Evl
/-- how many openers stand open at once -/
def Tm.opn : Tm → Nat
  | .var _ => 0
  | .lam b => if b.isL = true then b.opn else b.opn + 1
  | .app f a => max (f.opn + if f.isL = true then 1 else 0) (a.opn + if a.isV = true then 0 else 1)
theorem opn_lamN {b : Tm} (hb : b.isL = false) : ∀ n, (Tm.lamN (n + 1) b).opn = b.opn + 1
  | 0 => by
    show (if b.isL = true then _ else _) = _
    rw [if_neg (by show ¬ b.isL = true; rw [hb]; exact Bool.false_ne_true)]
    rfl
  | n + 1 => by
    show (if (Tm.lamN (n + 1) b).isL = true then _ else _) = _
    have e : (Tm.lamN (n + 1) b).isL = true := rfl
    rw [if_pos e, opn_lamN hb n]
theorem opn_le : ∀ t : Tm, 3 * t.opn + (match t with | .app _ _ => 1 | _ => 0) ≤ 2 * t.enc.length
  | .var _ => by
    show 3 * 0 + 0 ≤ 2 * 1
    decide
  | .lam b => by
    have ih := opn_le b
    show 3 * (if b.isL = true then b.opn else b.opn + 1) + 0 ≤ 2 * (b.enc.length + 1)
    cases b with
    | var _ => show 3 * (0 + 1) + 0 ≤ 2 * (1 + 1); decide
    | lam c =>
      have e : (Tm.lam c).isL = true := rfl
      rw [if_pos e]
      have : 3 * (Tm.lam c).opn + 0 ≤ 2 * (Tm.lam c).enc.length := ih
      omega
    | app f a =>
      have e : (Tm.app f a).isL = false := rfl
      rw [if_neg (by rw [e]; exact Bool.false_ne_true)]
      have : 3 * (Tm.app f a).opn + 1 ≤ 2 * (Tm.app f a).enc.length := ih
      omega
  | .app f a => by
    have i1 := opn_le f
    have i2 := opn_le a
    have pf := List.length_pos_iff.mpr f.enc_ne
    have pa := List.length_pos_iff.mpr a.enc_ne
    have j1 : 3 * f.opn ≤ 2 * f.enc.length := Nat.le_trans (Nat.le_add_right _ _) i1
    have j2 : 3 * a.opn ≤ 2 * a.enc.length := Nat.le_trans (Nat.le_add_right _ _) i2
    show 3 * max (f.opn + if f.isL = true then 1 else 0) (a.opn + if a.isV = true then 0 else 1) + 1 ≤ 2 * (V.str "app" :: (f.enc ++ a.enc)).length
    rw [List.length_cons, List.length_append]
    split <;> split <;> omega
def parW (c : Bool) (ws : List (List Nat)) : List (List Nat) := if c = true then wrapW ws else ws
/-- the words of a text -/
def wsT (bs fs : List (List Nat)) : Nat → Tm → List (List Nat)
  | d, .var i => [if i < d then bs.getD (d - 1 - i) [] else fs.getD (i - d) []]
  | d, .lam b => if b.isL = true then [92] :: bs.getD d [] :: (wsT bs fs (d + 1) b).drop 1 else [92] :: bs.getD d [] :: [46] :: wsT bs fs (d + 1) b
  | d, .app f a => parW f.isL (wsT bs fs d f) ++ parW (!a.isV) (wsT bs fs d a)
theorem wsT_lamN {bs fs : List (List Nat)} {b : Tm} (hb : b.isL = false) : ∀ (n d : Nat), d + n + 1 ≤ bs.length → wsT bs fs d (Tm.lamN (n + 1) b) = [92] :: ((bs.drop d).take (n + 1) ++ [46] :: wsT bs fs (d + n + 1) b)
  | 0, d, h => by
    show (if b.isL = true then _ else _) = _
    rw [if_neg (by rw [hb]; exact Bool.false_ne_true), drop_getW (bs := bs) (d := d) (by omega) 0]
    rfl
  | n + 1, d, h => by
    have ih := wsT_lamN (bs := bs) (fs := fs) hb n (d + 1) (by omega)
    show (if (Tm.lamN (n + 1) b).isL = true then [92] :: bs.getD d [] :: (wsT bs fs (d + 1) (Tm.lamN (n + 1) b)).drop 1 else _) = _
    have e : (Tm.lamN (n + 1) b).isL = true := rfl
    rw [if_pos e, ih, drop_getW (bs := bs) (d := d) (by omega) (n + 1), show d + 1 + n + 1 = d + (n + 1) + 1 by omega]
    rfl
theorem rend_app : ∀ {g1 g2 : List Nat} {w1 w2 : List (List Nat)}, g1.length = w1.length → rend (g1 ++ g2) (w1 ++ w2) = rend g1 w1 ++ rend g2 w2
  | [], _, [], _, _ => rfl
  | [], _, _ :: _, _, h => by cases h
  | _ :: _, _, [], _, h => by cases h
  | g :: g1, g2, w :: w1, w2, h => by
    have ih := rend_app (g1 := g1) (g2 := g2) (w1 := w1) (w2 := w2) (by simpa using h)
    simp only [List.cons_append, rend, ih, List.append_assoc]
def Gp (ws : List (List Nat)) (s : List Nat) : Prop := ∃ gs w r, ws = w :: r ∧ gs.length = r.length ∧ s = rend (0 :: gs) ws
theorem Gp.wrap {ws : List (List Nat)} {s : List Nat} (h : Gp ws s) : Gp (wrapW ws) (40 :: (s ++ [41])) := by
  obtain ⟨gs, w, r, rfl, hl, rfl⟩ := h
  refine ⟨0 :: gs ++ [0], [40], (w :: r) ++ [[41]], rfl, by simp [hl], ?_⟩
  show _ = [40] ++ rend (0 :: gs ++ [0]) ((w :: r) ++ [[41]])
  rw [rend_snoc 0 [41] (by simp [hl])]
  simp
theorem Gp.par {ws : List (List Nat)} {s : List Nat} (c : Bool) (h : Gp ws s) : Gp (parW c ws) (par c s) := by
  unfold parW Ly.par
  split
  · exact h.wrap
  · exact h
theorem Gp.sp {w1 w2 : List (List Nat)} {s1 s2 : List Nat} (h1 : Gp w1 s1) (h2 : Gp w2 s2) : Gp (w1 ++ w2) (s1 ++ 32 :: s2) := by
  obtain ⟨g1, w, r, rfl, l1, rfl⟩ := h1
  obtain ⟨g2, v, q, rfl, l2, rfl⟩ := h2
  refine ⟨g1 ++ 1 :: g2, w, r ++ v :: q, rfl, by simp [l1, l2], ?_⟩
  have e := rend_app (g1 := 0 :: g1) (g2 := 1 :: g2) (w1 := w :: r) (w2 := v :: q) (by simp [l1])
  rw [List.cons_append, List.cons_append] at e
  show _ = rend (0 :: (g1 ++ 1 :: g2)) (w :: (r ++ v :: q))
  rw [e]
  rfl
/-- an abstraction's words: the opener, a name -/
def Gl (ws : List (List Nat)) (s : List Nat) : Prop := ∃ gs n r, ws = [92] :: n :: r ∧ gs.length = r.length ∧ s = rend (0 :: 0 :: gs) ws
theorem shw_gaps {bs fs : List (List Nat)} : ∀ (t : Tm) (d : Nat), Gp (wsT bs fs d t) (shw bs fs d t) ∧ (t.isL = true → Gl (wsT bs fs d t) (shw bs fs d t))
  | .var i, d => ⟨⟨[], _, [], rfl, rfl, by show (if i < d then _ else _) = [] ++ (if i < d then _ else _) ++ []; rw [List.append_nil, List.nil_append]⟩, fun h => nomatch h⟩
  | .lam b, d => by
    obtain ⟨i1, i2⟩ := shw_gaps (bs := bs) (fs := fs) b (d + 1)
    have key : Gl (wsT bs fs d (.lam b)) (shw bs fs d (.lam b)) := by
      show Gl (if b.isL = true then _ else _) (abT b.isL _ _)
      cases hb : b.isL with
      | true =>
        obtain ⟨gs, n, r, e1, hl, e2⟩ := i2 hb
        rw [if_pos rfl, e1, e2, e1]
        refine ⟨1 :: gs, bs.getD d [], n :: r, rfl, by simp [hl], ?_⟩
        simp [abT, rend]
      | false =>
        obtain ⟨gs, w, r, e1, hl, e2⟩ := i1
        rw [if_neg Bool.false_ne_true, e2, e1]
        refine ⟨0 :: 1 :: gs, bs.getD d [], [46] :: w :: r, rfl, by simp [hl], ?_⟩
        simp [abT, rend]
    obtain ⟨gs, n, r, e1, hl, e2⟩ := key
    exact ⟨⟨0 :: gs, [92], n :: r, e1, by simp [hl], e2⟩, fun _ => ⟨gs, n, r, e1, hl, e2⟩⟩
  | .app f a, d => ⟨((shw_gaps f d).1.par _).sp ((shw_gaps a d).1.par _), fun h => nomatch h⟩
structure Scp (bs fs : List (List Nat)) : Prop where
  nb : ∀ w ∈ bs, IsNm w
  nf : ∀ w ∈ fs, IsNm w
  db : bs.Nodup
  df : fs.Nodup
  off : ∀ w ∈ bs, w ∉ fs
theorem idx_nodup {xs : List (List Nat)} (h : xs.Nodup) {i : Nat} (hi : i < xs.length) : xs.idxOf (xs.getD i []) = i := by
  rw [List.getD_eq_getElem?_getD, List.getElem?_eq_getElem hi]
  exact h.idxOf_getElem i hi
theorem idx_pl (r : List Nat) : ∀ qs : List (List Nat), (qs.map pl).idxOf (pl r) = qs.idxOf r
  | [] => rfl
  | q :: qs => by
    have ih := idx_pl r qs
    rw [List.map_cons, List.idxOf_cons, List.idxOf_cons, ih]
    by_cases h : q = r
    · rw [h, beq_self_eq_true, beq_self_eq_true]
    · rw [beq_eq_false_iff_ne.mpr h, beq_eq_false_iff_ne.mpr (fun e => h (pl_inj e))]
theorem mem_pl {r : List Nat} {qs : List (List Nat)} : pl r ∈ qs.map pl ↔ r ∈ qs := by
  constructor
  · intro h
    obtain ⟨x, hx, e⟩ := List.mem_map.mp h
    rw [← pl_inj e]
    exact hx
  · exact fun h => List.mem_map_of_mem h
section
variable {bs fs : List (List Nat)} (S : Scp bs fs)
include S
theorem Scp.word {d i : Nat} (hd : d ≤ bs.length) (h : i < d + fs.length) : IsNm (if i < d then bs.getD (d - 1 - i) [] else fs.getD (i - d) []) := by
  split
  · rw [List.getD_eq_getElem?_getD, List.getElem?_eq_getElem (by omega)]
    exact S.nb _ (List.getElem_mem _)
  · rw [List.getD_eq_getElem?_getD, List.getElem?_eq_getElem (by omega)]
    exact S.nf _ (List.getElem_mem _)
theorem Scp.num {d i : Nat} (hd : d ≤ bs.length) (h : i < d + fs.length) : numOf (fs.map pl) ((bs.take d).map pl) (pl (if i < d then bs.getD (d - 1 - i) [] else fs.getD (i - d) [])) = some i := by
  unfold numOf
  rw [← List.map_reverse, idx_pl, idx_pl, List.length_map, List.length_take, Nat.min_eq_left hd]
  by_cases hi : i < d
  · rw [if_pos hi]
    have ht : (bs.take d).getD (d - 1 - i) [] = bs.getD (d - 1 - i) [] := by
      rw [List.getD_eq_getElem?_getD, List.getD_eq_getElem?_getD, List.getElem?_take_of_lt (by omega)]
    have hm : bs.getD (d - 1 - i) [] ∈ bs.take d := by
      rw [← ht, List.getD_eq_getElem?_getD, List.getElem?_eq_getElem (by rw [List.length_take]; omega)]
      exact List.getElem_mem _
    rw [if_pos (mem_pl.mpr hm)]
    have nd : (bs.take d).reverse.Nodup := List.pairwise_reverse.mpr ((S.db.sublist (List.take_sublist d bs)).imp fun h => h.symm)
    have hl : (bs.take d).reverse.length = d := by rw [List.length_reverse, List.length_take]; omega
    have hg : (bs.take d).reverse.getD i [] = bs.getD (d - 1 - i) [] := by
      rw [← ht, List.getD_eq_getElem?_getD, List.getD_eq_getElem?_getD, List.getElem?_reverse (by rw [List.length_take]; omega), List.length_take, Nat.min_eq_left hd]
    rw [← hg, idx_nodup nd (by omega)]
  · rw [if_neg hi]
    have hlt : i - d < fs.length := by omega
    have hmf : fs.getD (i - d) [] ∈ fs := by
      rw [List.getD_eq_getElem?_getD, List.getElem?_eq_getElem hlt]
      exact List.getElem_mem _
    rw [if_neg (fun z => S.off _ (List.mem_of_mem_take (mem_pl.mp z)) hmf), if_pos (mem_pl.mpr hmf), idx_nodup S.df hlt]
    congr 1
    omega
theorem Scp.toks : ∀ (t : Tm) (d : Nat), d + t.lams ≤ bs.length → okF fs.length d t → ∀ w ∈ wsT bs fs d t, IsTok w
  | .var i, d, hd, h => fun w hw => by
    rw [List.mem_singleton.mp hw]
    exact .inl (S.word (by simpa [Tm.lams] using hd) h)
  | .lam b, d, hd, h => fun w hw => by
    simp only [Tm.lams] at hd
    have ih := Scp.toks b (d + 1) (by omega) h
    have hn : IsNm (bs.getD d []) := by
      rw [List.getD_eq_getElem?_getD, List.getElem?_eq_getElem (by omega)]
      exact S.nb _ (List.getElem_mem _)
    have hw : w ∈ (if b.isL = true then [92] :: bs.getD d [] :: (wsT bs fs (d + 1) b).drop 1 else [92] :: bs.getD d [] :: [46] :: wsT bs fs (d + 1) b) := hw
    split at hw
    · rcases List.mem_cons.mp hw with rfl | hw
      · exact .inr (.inr (.inr (.inl rfl)))
      · rcases List.mem_cons.mp hw with rfl | hw
        · exact .inl hn
        · exact ih w (List.mem_of_mem_drop hw)
    · rcases List.mem_cons.mp hw with rfl | hw
      · exact .inr (.inr (.inr (.inl rfl)))
      · rcases List.mem_cons.mp hw with rfl | hw
        · exact .inl hn
        · rcases List.mem_cons.mp hw with rfl | hw
          · exact .inr (.inr (.inr (.inr rfl)))
          · exact ih w hw
  | .app f a, d, hd, h => fun w hw => by
    simp only [Tm.lams] at hd
    have i1 := Scp.toks f d (by omega) h.1
    have i2 := Scp.toks a d (by omega) h.2
    have pr : ∀ (c : Bool) {l : List (List Nat)}, (∀ w ∈ l, IsTok w) → ∀ w ∈ parW c l, IsTok w := fun c l hl => by
      unfold parW
      split
      · exact wrap_toks hl
      · exact hl
    rcases List.mem_append.mp (show w ∈ parW f.isL (wsT bs fs d f) ++ parW (!a.isV) (wsT bs fs d a) from hw) with hw | hw
    · exact pr _ i1 w hw
    · exact pr _ i2 w hw
theorem Scp.read : ∀ (n : Nat) (t : Tm), t.enc.length ≤ n → ∀ (d : Nat) (l : Lv) (r : List Lv), l.nm = false → scp (l :: r) = (bs.take d).map pl → d + t.lams ≤ bs.length → okF fs.length d t → r.length + 1 + t.opn ≤ 60 →
    (t.isV = true → Add (fs.map pl) l r (wsT bs fs d t) t) ∧ (t.isL = true → AddO (fs.map pl) l r (wsT bs fs d t) t) ∧ (l.pt = 0 → l.nd = [] → (t.isL = false → Left (fs.map pl) l r (wsT bs fs d t) t) ∧ Fresh (fs.map pl) l r (wsT bs fs d t) t)
  | 0, t, hn => absurd hn (by have := List.length_pos_iff.mpr t.enc_ne; omega)
  | n + 1, .var i, hn => by
    intro d l r hl hs hd hok hr
    simp only [Tm.lams] at hd
    have hA : Add (fs.map pl) l r (wsT bs fs d (.var i)) (.var i) := by
      unfold Add
      show runW _ _ _ [_] = _
      rw [runW_cons (step_use (S.word (by omega) hok) hl (by rw [hs]; exact S.num (by omega) hok)), runW]
      rfl
    exact ⟨fun _ => hA, (fun z => nomatch z), fun hp hq => ⟨fun _ => add_left hp hq hA, left_fresh hl (add_left hp hq hA)⟩⟩
  | n + 1, .lam u, hn => by
    intro d l r hl hs hd hok hr
    obtain ⟨m, b, e, hb⟩ := lamN_ex (.lam u) rfl
    rw [e] at hn hd hok hr ⊢
    have hlm : ∀ (k : Nat) (c : Tm), (Tm.lamN k c).lams = k + c.lams := fun k c => by
      induction k with
      | zero => exact (Nat.zero_add _).symm
      | succ k ih => show (Tm.lamN k c).lams + 1 = _; omega
    have hll : ∀ (k : Nat) (c : Tm), (Tm.lamN k c).enc.length = k + c.enc.length := fun k c => by
      induction k with
      | zero => exact (Nat.zero_add _).symm
      | succ k ih => show (Tm.lamN k c).enc.length + 1 = _; omega
    have hlo : ∀ (k d : Nat) (c : Tm), okF fs.length d (Tm.lamN k c) → okF fs.length (d + k) c := fun k => by
      induction k with
      | zero => exact fun d c h => h
      | succ k ih =>
        intro d c h
        rw [show d + (k + 1) = d + 1 + k by omega]
        exact ih (d + 1) c h
    rw [hlm] at hd
    rw [hll] at hn
    rw [opn_lamN hb] at hr
    have hok2 := hlo _ _ _ hok
    have hw := wsT_lamN (bs := bs) (fs := fs) hb m d (by omega)
    have hbs2 : (bs.drop d).take (m + 1) ≠ [] := by
      rw [drop_getW (bs := bs) (d := d) (by omega) m]
      simp
    have htk : bs.take d ++ (bs.drop d).take (m + 1) = bs.take (d + (m + 1)) := List.take_add.symm
    have hnm : ∀ w ∈ (bs.drop d).take (m + 1), IsNm w := fun w hw => S.nb w (List.mem_of_mem_drop (List.mem_of_mem_take hw))
    have hlen : ((bs.drop d).take (m + 1)).length = m + 1 := by rw [List.length_take, List.length_drop]; omega
    rw [hw]
    generalize (bs.drop d).take (m + 1) = own at *
    have hO : AddO (fs.map pl) l r ([92] :: (own ++ [46] :: wsT bs fs (d + m + 1) b)) (Tm.lamN (m + 1) b) := by
      obtain ⟨_, _, hf⟩ := Scp.read n b (by omega) (d + m + 1) ⟨"\\", false, own.map pl, 0, []⟩ (l :: r) rfl (by
        show scp (l :: r) ++ own.map pl = _
        rw [hs, ← List.map_append, htk, show d + (m + 1) = d + m + 1 by omega]) (by omega) (by rw [show d + m + 1 = d + (m + 1) by omega]; exact hok2) (by simp only [List.length_cons]; omega)
      obtain ⟨_, l', r', k, xs, g1, g2, g3, g4, g5⟩ := hf rfl rfl
      refine ⟨l', r', ?_, g2, ?_⟩
      · rw [runW_cons (step_bs hl (by omega)), runW_app (run_names hnm (by show decide (("\\" : Str) = "\\") = true; exact decide_eq_true rfl)), runW_cons (step_pd (by show decide (("\\" : Str) = "\\") = true; exact decide_eq_true rfl) (by
          show [] ++ own.map pl ≠ []
          simpa using hbs2))]
        exact g1
      · rw [g3, closeAbs, if_pos rfl]
        have ea : ({ op := "\\", nm := false, ns := own.map pl, pt := k, nd := xs } : Lv).all = (Tm.lamN (m + 1) b).enc := by
          show List.replicate (own.map pl).length (V.str "lam") ++ List.replicate (k - 1) (V.str "app") ++ xs = _
          rw [Tm.enc_lamN, ← g5, List.length_map, hlen, List.flatten_replicate_singleton, List.append_assoc]
        rw [ea]
    exact ⟨(fun z => nomatch z), fun _ => hO, fun hp hq => ⟨fun z => (nomatch z), addo_fresh hp hq hO⟩⟩
  | n + 1, .app f a, hn => by
    intro d l r hl hs hd hok hr
    simp only [Tm.lams] at hd
    have hn' : f.enc.length + a.enc.length ≤ n := by
      have : (V.str "app" :: (f.enc ++ a.enc)).length ≤ n + 1 := hn
      rw [List.length_cons, List.length_append] at this
      omega
    have hop : r.length + 1 + max (f.opn + if f.isL = true then 1 else 0) (a.opn + if a.isV = true then 0 else 1) ≤ 60 := hr
    have hleft : l.pt = 0 → l.nd = [] → Left (fs.map pl) l r (parW f.isL (wsT bs fs d f)) f := by
      intro hp hq
      unfold parW
      cases hfl : f.isL with
      | true =>
        rw [hfl] at hop
        rw [if_pos rfl] at hop ⊢
        refine add_left hp hq (wrapped hl (by omega) ?_)
        have hs2 : scp (Lv.new "(" :: l :: r) = (bs.take d).map pl := by
          show scp (l :: r) ++ [] = _
          rw [List.append_nil, hs]
        exact ((Scp.read n f (by omega) d (Lv.new "(") (l :: r) (by decide +kernel) hs2 (by omega) hok.1 (by simp only [List.length_cons]; omega)).2.2 rfl rfl).2
      | false =>
        rw [if_neg Bool.false_ne_true]
        exact ((Scp.read n f (by omega) d l r hl hs (by omega) hok.1 (by omega)).2.2 hp hq).1 hfl
    have hrest : ∀ k xs, Add (fs.map pl) { l with pt := k, nd := xs } r (parW (!a.isV) (wsT bs fs d a)) a := by
      intro k xs
      have hs3 : scp ({ l with pt := k, nd := xs } :: r) = (bs.take d).map pl := hs
      unfold parW
      cases hav : a.isV with
      | true =>
        rw [show (!true) = false from rfl, if_neg Bool.false_ne_true]
        exact (Scp.read n a (by omega) d { l with pt := k, nd := xs } r hl hs3 (by omega) hok.2 (by omega)).1 hav
      | false =>
        rw [hav] at hop
        rw [if_neg Bool.false_ne_true] at hop
        rw [show (!false) = true from rfl, if_pos rfl]
        refine wrapped hl (by omega) ?_
        have hs2 : scp (Lv.new "(" :: { l with pt := k, nd := xs } :: r) = (bs.take d).map pl := by
          show scp ({ l with pt := k, nd := xs } :: r) ++ [] = _
          rw [List.append_nil, hs3]
        exact ((Scp.read n a (by omega) d (Lv.new "(") ({ l with pt := k, nd := xs } :: r) (by decide +kernel) hs2 (by omega) hok.2 (by simp only [List.length_cons]; omega)).2.2 rfl rfl).2
    refine ⟨(fun z => nomatch z), (fun z => nomatch z), fun hp hq => ?_⟩
    obtain ⟨k, xs, g1, g2⟩ := hleft hp hq
    have hLf : Left (fs.map pl) l r (wsT bs fs d (.app f a)) (.app f a) := by
      refine ⟨k + 1, xs ++ a.enc, ?_, ful_app g2⟩
      show runW _ _ _ (parW _ _ ++ parW _ _) = _
      rw [runW_app g1]
      exact hrest k xs
    exact ⟨fun _ => hLf, left_fresh hl hLf⟩
/-- the text of a term is read as the term -/
theorem Scp.parse {t : Tm} (hd : t.lams ≤ bs.length) (hok : okF fs.length 0 t) (ho : t.opn ≤ 58) : parseT (fs.map pl) (shw bs fs 0 t) = .ok t.enc := by
  have e0 : (Lv.new "").nm = false := by decide +kernel
  obtain ⟨l', r', n, xs, g1, g2, g3, g4, g5⟩ := ((Scp.read S _ t (Nat.le_refl _) 0 (Lv.new "") [] e0 rfl (by omega) hok (by simp only [List.length_nil]; omega)).2.2 rfl rfl).2
  obtain ⟨gs, w, r, e1, hl, e2⟩ := (shw_gaps (bs := bs) (fs := fs) t 0).1
  have hT := Scp.toks S t 0 (by omega) hok
  unfold parseT
  have er := readT_rend (b := 0) (gs := 0 :: gs) (i := 0) (n := (shw bs fs 0 t).length) hT (by rw [e1]; simp [hl]) g1 (by rw [e2]; simp)
  rw [List.replicate_zero, List.append_nil, ← e2] at er
  rw [er]
  show (match finT l' r' with | none => _ | some xs => Except.ok xs) = _
  have ef : finT l' r' = some t.enc := by
    unfold finT
    rw [if_neg (by rw [g2]; simp), g3]
    show some ({ Lv.new "" with pt := n, nd := xs } : Lv).all = _
    have ea : ({ Lv.new "" with pt := n, nd := xs } : Lv).all = t.enc := by
      show List.replicate 0 (V.str "lam") ++ List.replicate (n - 1) (V.str "app") ++ xs = _
      rw [← g5]
      rfl
    rw [ea]
  rw [ef]
end
end Ly
set_option Elab.async false
set_option linter.all false
set_option maxRecDepth 100000
set_option maxHeartbeats 8000000
namespace Ly
open PySem PySem.Spec PyProof.Rows L2 Evl
local macro_rules | `(tactic| walk_at "ne") => `(tactic| first
  | assumption
  | ((refine' Ne.symm ?hq); (case hq => assumption))
  | ((refine' ne_of_none ?nh1 ?nh2); (case nh2 => assumption); (case nh1 => walk_at "hp"))
  | ((refine' Ne.symm (ne_of_none ?nh1 ?nh2)); (case nh2 => assumption); (case nh1 => walk_at "hp")))
local macro_rules | `(tactic| walk_at "hp") => `(tactic| first
  | assumption
  | exact upd_same
  | ((refine' SqL.of ?hq); (case hq => walk_at "hp"))
  | ((refine' SqT.of ?hq); (case hq => walk_at "hp"))
  | ((refine' (upd_ne ?hne).trans ?hrest); (case hne => walk_at "ne"); (case hrest => walk_at "hp"))
  | ((refine' ly_at ?hex ?hh); (case hex => assumption); (case hh => walk_at "hp"))
  | ((refine' ly_atF ?hex ?hnn ?hh); (case hex => assumption); (case hh => walk_at "hp"); (case hnn => walk_at "ne"))
  | ((refine' ex_t ?hex ?hh); (case hh => assumption); (case hex => walk_at "ex"))
  | ((refine' ex_l ?hex ?hh); (case hh => assumption); (case hex => walk_at "ex")))
local macro_rules | `(tactic| walk_at "ex") => `(tactic| first
  | assumption
  | exact Ex.refl _
  | ((refine' ex_new ?xa ?xb); (case xb => assumption); (case xa => walk_at "ex"))
  | ((refine' ex_upd ?xa ?xb); (case xb => walk_at "free"); (case xa => walk_at "ex"))
  | ((refine' Ex.trans ?xa ?xb); (case xb => assumption); (case xa => walk_at "ex")))
local macro_rules | `(tactic| walk_at "free") => `(tactic| first
  | assumption
  | ((refine' fresh_back ?xa ?xb); (case xb => assumption); (case xa => walk_at "ex")))
local macro_rules | `(tactic| walk_at "fr") => `(tactic| first
  | assumption
  | exact Fr.refl _ _
  | ((refine' Fr.own ?hq); (case hq => walk_at "fr"))
  | ((refine' Fr.new ?xa ?xb); (case xb => assumption); (case xa => walk_at "fr"))
  | ((refine' Fr.mut ?xa ?xb); (case xb => assumption); (case xa => walk_at "fr"))
  | ((refine' Fr.trans ?xa ?xb); (case xb => assumption); (case xa => walk_at "fr"))
  | ((refine' Fr.trans ?xa (Fr.ex ?xb)); (case xb => assumption); (case xa => walk_at "fr")))
local macro_rules | `(tactic| walk_at "go1") => `(tactic| first
  | (with_reducible refine' w_seq ?_)
  | (with_reducible refine' w_asg ?_)
  | (with_reducible refine' w_ret ?_)
  | (with_reducible refine' w_drop ?_)
  | (with_reducible refine' w_if ?_)
  | (with_reducible refine' w_next ?_)
  | (with_reducible refine' w_name ?_)
  | (with_reducible refine' w_sub ?_)
  | ((with_reducible refine' w_var ?hv ?_); (case hv => exact rfl))
  | (with_reducible refine' w_c ?_)
  | (with_reducible refine' w_op ?_)
  | (with_reducible refine' w_un ?_)
  | (with_reducible refine' w_ch ?_)
  | (with_reducible refine' w_I0 ?_)
  | ((with_reducible refine' w_I ?hc ?_); (case hc => first | (exact ly_mulL (by decide) (by decide)) | (exact ly_mulR (by decide) (by decide)) | (exact ly_mulL (by omega) (by omega)) | (show (_ : Int) ≠ 0; decide) | (show (_ : Int) ≠ 0; omega) | (exact ⟨by decide, by decide⟩) | (exact ⟨by omega, by omega⟩)))
  | (with_reducible refine' w_U ?_)
  | ((with_reducible refine' w_eq ?hs ?_); (case hs => exact rfl))
  | ((with_reducible refine' w_ne ?hs ?_); (case hs => exact rfl))
  | (with_reducible refine' w_isB ?_)
  | (with_reducible refine' w_notB ?_)
  | (with_reducible refine' w_nil ?_)
  | (with_reducible refine' w_cons ?_)
  | (with_reducible refine' w_tup ?_)
  | (with_reducible refine' w_lst ?_)
  | (with_reducible refine' w_cb ?_)
  | (with_reducible refine' w_call ?_)
  | (with_reducible refine' w_bm ?_)
  | (with_reducible refine' w_bm0 ?_)
  | ((with_reducible refine' w_app ?hh ?hz ?_); (case hh => walk_at "hp"); (case hz => first | exact ly_lt (by omega) | exact ly_lt (by simp only [List.length_append, List.length_map, List.length_cons, List.length_nil]; omega)))
  | ((with_reducible refine' w_popA ?hh ?_); (case hh => walk_at "hp"))
  | ((with_reducible refine' w_ext ?hh ?hh2 ?hz ?_); (case hh => walk_at "hp"); (case hh2 => walk_at "hp"))
  | ((with_reducible refine' w_ixL ?hh ?ha ?_); (case hh => walk_at "hp"); (case ha => first | exact rfl | exact at_map (by omega) | exact atI_last _ _ | ((refine' at_of ?ae ?ah); (case ah => assumption); (case ae => omega))))
  | ((with_reducible refine' w_ixT ?hh ?ha ?_); (case hh => walk_at "hp"); (case ha => first | exact rfl | exact at_map (by omega) | exact atI_last _ _ | ((refine' at_of ?ae ?ah); (case ah => assumption); (case ae => omega))))
  | ((with_reducible refine' w_cat ?hh ?hh2 ?hz ?_); (case hh => walk_at "hp"); (case hh2 => walk_at "hp"))
  | ((with_reducible refine' w_setL ?hh ?ha ?_); (case hh => walk_at "hp"); (case ha => exact rfl))
  | (with_reducible refine' w_test ?_)
  | (with_reducible refine' w_tB ?_)
  | (with_reducible refine' w_bl ?_)
  | (with_reducible refine' w_and ?_)
  | (with_reducible refine' w_or ?_)
  | (with_reducible refine' w_not ?_)
  | (with_reducible refine' w_andV ?_)
  | (with_reducible refine' w_orV ?_)
  | (with_reducible refine' w_notV ?_)
  | (with_reducible refine' w_ifE ?_)
  | (with_reducible refine' w_for ?_)
  | ((with_reducible refine' w_nin ?hh ?_); (case hh => walk_at "hp"))
  | ((with_reducible refine' w_sorted ?hh ?_); (case hh => walk_at "hp"))
  | (with_reducible refine' w_tsadd ?_)
  | ((with_reducible refine' w_tsadd1 ?hh ?_); (case hh => walk_at "hp"))
  | ((with_reducible refine' w_sadd ?hh ?hr ?_); (case hh => walk_at "hp"); (case hr => omega))
  | (with_reducible refine' w_iZ ?_)
  | ((with_reducible refine' w_iZ1 ?hh ?hh2 ?_); (case hh => walk_at "hp"); (case hh2 => walk_at "hp"))
  | (with_reducible refine' w_iS ?_)
  | (with_reducible refine' w_iS1 ?_)
  | ((with_reducible refine' w_gtup ?hh ?hn ?_); (case hh => walk_at "hp"); (case hn => exact rfl))
  | (with_reducible refine' w_gcons ?_)
  | (with_reducible refine' w_gnil ?_)
  | (with_reducible refine' w_js ?_)
  | (with_reducible refine' w_jsn ?_)
  | ((with_reducible refine' w_js1 ?hl ?_); (case hl => decide +kernel))
  | (with_reducible refine' w_fmt ?_)
  | ((with_reducible refine' w_fmt1 ?hl ?_); (case hl => decide +kernel))
  | (with_reducible refine' w_callS ?_)
  | ((with_reducible refine' w_truL ?hh ?_); (case hh => walk_at "hp"))
  | (with_reducible refine' w_lc ?_)
  | (with_reducible refine' w_yes ?_)
  | ((with_reducible refine' w_wipe ?he ?_); (case he => exact rfl))
  | (with_reducible refine' w_iL ?_)
  | (with_reducible refine' w_iT ?_)
  | (with_reducible refine' w_iR ?_)
  | ((with_reducible refine' w_iL1 ?hh ?_); (case hh => walk_at "hp"))
  | ((with_reducible refine' w_iT1 ?hh ?_); (case hh => walk_at "hp"))
  | ((with_reducible refine' w_iR1 ?h1 ?h2 ?_); (case h1 => omega); (case h2 => omega))
  | ((with_reducible refine' w_aug ?hv ?_); (case hv => exact rfl))
  | (with_reducible refine' w_ipI ?_)
  | ((with_reducible refine' w_isi ?hy ?hk ?_); (case hy => walk_at "ty"); (case hk => walk_at "kit"))
  | ((with_reducible refine' w_int ?_))
  | ((with_reducible refine' w_intB ?_))
  | ((with_reducible refine' w_abs ?_))
  | ((with_reducible refine' w_lenL ?hh ?_); (case hh => walk_at "hp"))
  | ((with_reducible refine' w_lenT ?hh ?_); (case hh => walk_at "hp"))
  | ((with_reducible refine' w_tupL ?hh ?_); (case hh => walk_at "hp"))
  | ((with_reducible refine' w_tupT ?hh ?_); (case hh => walk_at "hp"))
  | ((with_reducible refine' w_catA ?hh ?hh2 ?hz ?_); (case hh => walk_at "hp"); (case hh2 => walk_at "hp"); (case hz => walk_at "len"))
  | ((with_reducible refine' w_repB ?hh ?hne ?h2 ?h3 ?hz ?_); (case hh => walk_at "hp"); (case hne => simp); (case h2 => omega); (case h3 => omega); (case hz => exact Nat.le_of_ble_eq_true rfl))
  | ((with_reducible refine' w_eqN ?hh ?hh2 ?n1 ?n2 ?_); (case hh => walk_at "hp"); (case hh2 => walk_at "hp"); (case n1 => walk_at "nd"); (case n2 => walk_at "nd"))
  | ((with_reducible refine' w_neN ?hh ?hh2 ?n1 ?n2 ?_); (case hh => walk_at "hp"); (case hh2 => walk_at "hp"); (case n1 => walk_at "nd"); (case n2 => walk_at "nd"))
  | ((with_reducible refine' w_eqL ?hh ?hh2 ?n1 ?n2 ?_); (case hh => walk_at "hp"); (case hh2 => walk_at "hp"); (case n1 => walk_at "nd"); (case n2 => walk_at "nd"))
  | ((with_reducible refine' w_neL ?hh ?hh2 ?n1 ?n2 ?_); (case hh => walk_at "hp"); (case hh2 => walk_at "hp"); (case n1 => walk_at "nd"); (case n2 => walk_at "nd"))
  | ((with_reducible refine' w_neNon ?hh2 ?n2 ?_); (case hh2 => walk_at "hp"); (case n2 => walk_at "nd"))
  | ((with_reducible refine' w_eqNon ?hh2 ?n2 ?_); (case hh2 => walk_at "hp"); (case n2 => walk_at "nd"))
  | ((with_reducible refine' w_slA ?hh ?_); (case hh => walk_at "hp"))
  | ((with_reducible refine' w_disp ?hz ?_); (case hz => exact sz_of (Nat.le_of_ble_eq_true rfl)))
  | ((with_reducible refine' w_tyL ?hh ?_); (case hh => walk_at "hp"))
  | (with_reducible refine' iteT ?_)
  | (with_reducible refine' iteF ?_)
  | (with_reducible refine' w_nT ?_)
  | (with_reducible refine' w_nn ?_)
  | (with_reducible refine' w_nnT ?_)
  | (with_reducible refine' w_nnR ?_)
  | (with_reducible refine' w_neG ?_)
  | (with_reducible refine' w_eqG ?_)
  | (with_reducible refine' w_neS ?_)
  | (with_reducible refine' w_eqS ?_)
  | (with_reducible refine' w_neSb ?_)
  | (with_reducible refine' w_eqSb ?_)
  | (with_reducible refine' w_deIS ?_)
  | (with_reducible refine' w_deSI ?_)
  | (with_reducible refine' w_deISn ?_)
  | ((with_reducible refine' w_deST ?he ?_); (case he => decide +kernel))
  | ((with_reducible refine' w_deSF ?he ?_); (case he => decide +kernel))
  | ((with_reducible refine' w_deSTn ?he ?_); (case he => decide +kernel))
  | ((with_reducible refine' w_deSFn ?he ?_); (case he => decide +kernel))
  | (with_reducible refine' w_nF ?_)
  | dsimp only [Bool.not_true, Bool.not_false])
local macro_rules | `(tactic| walk_at "ty") => `(tactic| first
  | exact .base (.int _) | exact .base (.str _) | exact .base (.bl _) | exact .base .non
  | ((refine' tyx_t ?hq); (case hq => walk_at "hp")) | ((refine' tyx_l ?hq); (case hq => walk_at "hp")) | ((refine' .base (.tup ?hq)); (case hq => walk_at "hp")) | assumption)
local macro_rules | `(tactic| walk_at "go") => `(tactic| repeat walk_at "go1")
local macro_rules | `(tactic| walk_at "st") => `(tactic| try dsimp only [cxOf, Cx.nox, Cx.wish])
local macro_rules | `(tactic| walk_at "kit") => `(tactic| with_reducible first | exact kit_int_int | exact kit_int_str | exact kit_int_bool | exact kit_int_tuple | exact kit_int_list | exact kit_str_int | exact kit_str_str | exact kit_str_bool | exact kit_str_tuple | exact kit_str_list | exact kit_bool_int | exact kit_bool_str | exact kit_bool_bool | exact kit_bool_tuple | exact kit_bool_list | exact kit_NoneType_int | exact kit_NoneType_str | exact kit_NoneType_bool | exact kit_NoneType_tuple | exact kit_NoneType_list | exact kit_list_int | exact kit_list_str | exact kit_list_bool | exact kit_list_tuple | exact kit_list_list | exact kit_tuple_int | exact kit_tuple_str | exact kit_tuple_bool | exact kit_tuple_tuple | exact kit_tuple_list)
local macro_rules | `(tactic| walk_at "nd") => `(tactic| first
  | assumption
  | exact Tm.nds _
  | exact Nds.nil
  | exact Nds.ofInts _
  | ((refine' Nds.cons ?na ?nb); (case na => first | exact Nds.I _ | exact Nds.L | exact Nds.A); (case nb => walk_at "nd"))
  | ((refine' Nds.app ?na ?nb); (case na => walk_at "nd"); (case nb => walk_at "nd"))
  | ((refine' Nds.rep ?na _); (case na => walk_at "nd")))
local macro_rules | `(tactic| walk_at "len") => `(tactic| first
  | exact ly_sz (by omega)
  | ((simp only [List.length_append, List.length_cons, List.length_nil, List.length_map, PyProof.Rows.lm_len_rep_flat]); exact ly_sz (by omega)))
local macro_rules | `(tactic| walk_at "go1") => `(tactic| first
  | (with_reducible refine' w_kget2 ?_)
  | (with_reducible refine' w_isRN ?_)
  | (with_reducible refine' w_isNN ?_)
  | (with_reducible refine' w_isIN ?_)
  | ((with_reducible refine' w_kg ?hd ?_); (case hd => assumption)))
def topS (i : Nat) : Stmt := PySem.Challenge.pw_lydite_k14_whole_shown_and_read.main.body.getD i (.Pass ⟨0, 0, 0, 0⟩)
abbrev s_check_size : Stmt := topS 8
theorem sc_check_size : FnScope ["size"] ["size"] (defScope s_check_size) := ⟨rfl, rfl, rfl, by decide +kernel, rfl, by decide +kernel, by decide +kernel⟩
abbrev s_checked : Stmt := topS 9
theorem sc_checked : FnScope ["term", "node"] ["term"] (defScope s_checked) := ⟨rfl, rfl, rfl, by decide +kernel, rfl, by decide +kernel, by decide +kernel⟩
abbrev s_depths : Stmt := topS 10
theorem sc_depths : FnScope ["term", "found", "pending", "node", "depth"] ["term"] (defScope s_depths) := ⟨rfl, rfl, rfl, by decide +kernel, rfl, by decide +kernel, by decide +kernel⟩
abbrev s_name_end : Stmt := topS 17
theorem sc_name_end : FnScope ["text", "start", "end"] ["text", "start"] (defScope s_name_end) := ⟨rfl, rfl, rfl, by decide +kernel, rfl, by decide +kernel, by decide +kernel⟩
abbrev s_token_end : Stmt := topS 18
theorem sc_token_end : FnScope ["text", "start"] ["text", "start"] (defScope s_token_end) := ⟨rfl, rfl, rfl, by decide +kernel, rfl, by decide +kernel, by decide +kernel⟩
abbrev s_parse : Stmt := topS 21
theorem sc_parse : FnScope ["text", "names", "reader", "at", "end"] ["text", "names"] (defScope s_parse) := ⟨rfl, rfl, rfl, by decide +kernel, rfl, by decide +kernel, by decide +kernel⟩
abbrev s_is_name : Stmt := topS 22
theorem sc_is_name : FnScope ["value", "character"] ["value"] (defScope s_is_name) := ⟨rfl, rfl, rfl, by decide +kernel, rfl, by decide +kernel, by decide +kernel⟩
abbrev s_name_table : Stmt := topS 23
theorem sc_name_table : FnScope ["names", "table", "name"] ["names"] (defScope s_name_table) := ⟨rfl, rfl, rfl, by decide +kernel, rfl, by decide +kernel, by decide +kernel⟩
abbrev s_numbered_name : Stmt := topS 24
theorem sc_numbered_name : FnScope ["number", "letter", "rounds"] ["number"] (defScope s_numbered_name) := ⟨rfl, rfl, rfl, by decide +kernel, rfl, by decide +kernel, by decide +kernel⟩
abbrev s_bound_names : Stmt := topS 25
theorem sc_bound_names : FnScope ["count", "taken", "found", "number", "name"] ["count", "taken"] (defScope s_bound_names) := ⟨rfl, rfl, rfl, by decide +kernel, rfl, by decide +kernel, by decide +kernel⟩
abbrev s_written_variable : Stmt := topS 26
theorem sc_written_variable : FnScope ["number", "depth", "bound", "names"] ["number", "depth", "bound", "names"] (defScope s_written_variable) := ⟨rfl, rfl, rfl, by decide +kernel, rfl, by decide +kernel, by decide +kernel⟩
abbrev s_is_abstraction : Stmt := topS 27
theorem sc_is_abstraction : FnScope ["text"] ["text"] (defScope s_is_abstraction) := ⟨rfl, rfl, rfl, by decide +kernel, rfl, by decide +kernel, by decide +kernel⟩
abbrev s_written_abstraction : Stmt := topS 28
theorem sc_written_abstraction : FnScope ["name", "body"] ["name", "body"] (defScope s_written_abstraction) := ⟨rfl, rfl, rfl, by decide +kernel, rfl, by decide +kernel, by decide +kernel⟩
abbrev s_written_application : Stmt := topS 29
theorem sc_written_application : FnScope ["function", "argument"] ["function", "argument"] (defScope s_written_application) := ⟨rfl, rfl, rfl, by decide +kernel, rfl, by decide +kernel, by decide +kernel⟩
abbrev s_show : Stmt := topS 30
theorem sc_show : FnScope ["term", "names", "bound", "written", "node", "depth", "function"] ["term", "names"] (defScope s_show) := ⟨rfl, rfl, rfl, by decide +kernel, rfl, by decide +kernel, by decide +kernel⟩
abbrev s_law_stream : Stmt := topS 32
theorem sc_law_stream : FnScope ["script", "mixed", "cell"] ["script"] (defScope s_law_stream) := ⟨rfl, rfl, rfl, by decide +kernel, rfl, by decide +kernel, by decide +kernel⟩
abbrev s_law_draw : Stmt := topS 33
theorem sc_law_draw : FnScope ["stream", "many", "value"] ["stream", "many"] (defScope s_law_draw) := ⟨rfl, rfl, rfl, by decide +kernel, rfl, by decide +kernel, by decide +kernel⟩
abbrev s_law_term : Stmt := topS 34
theorem sc_law_term : FnScope ["stream", "size", "loose", "nodes", "waiting", "depth", "room", "pick"] ["stream", "size", "loose"] (defScope s_law_term) := ⟨rfl, rfl, rfl, by decide +kernel, rfl, by decide +kernel, by decide +kernel⟩
abbrev s_law_drawn_name : Stmt := topS 35
theorem sc_law_drawn_name : FnScope ["stream", "name", "k"] ["stream"] (defScope s_law_drawn_name) := ⟨rfl, rfl, rfl, by decide +kernel, rfl, by decide +kernel, by decide +kernel⟩
abbrev s_law_scope_names : Stmt := topS 37
theorem sc_law_scope_names : FnScope ["scope", "names", "found", "name"] ["scope", "names"] (defScope s_law_scope_names) := ⟨rfl, rfl, rfl, by decide +kernel, rfl, by decide +kernel, by decide +kernel⟩
abbrev s_law_use : Stmt := topS 38
theorem sc_law_use : FnScope ["name", "scope", "names", "k"] ["name", "scope", "names"] (defScope s_law_use) := ⟨rfl, rfl, rfl, by decide +kernel, rfl, by decide +kernel, by decide +kernel⟩
abbrev s_law_wrapped : Stmt := topS 39
theorem sc_law_wrapped : FnScope ["words"] ["words"] (defScope s_law_wrapped) := ⟨rfl, rfl, rfl, by decide +kernel, rfl, by decide +kernel, by decide +kernel⟩
abbrev s_law_make : Stmt := topS 40
abbrev N_law_make : List Str := ["stream", "depth", "scope", "names", "known", "pick", "name", "own", "k", "words", "term", "kind", "left", "first", "right", "second", "other"]
theorem sc_law_make : FnScope ["stream", "depth", "scope", "names", "known", "pick", "name", "own", "k", "words", "term", "kind", "left", "first", "right", "second", "other"] ["stream", "depth", "scope", "names"] (defScope s_law_make) := ⟨rfl, rfl, rfl, by decide +kernel, rfl, by decide +kernel, by decide +kernel⟩
abbrev s_law_text : Stmt := topS 41
theorem sc_law_text : FnScope ["stream", "words", "text", "k"] ["stream", "words"] (defScope s_law_text) := ⟨rfl, rfl, rfl, by decide +kernel, rfl, by decide +kernel, by decide +kernel⟩
abbrev s_law : Stmt := topS 42
theorem sc_law : FnScope ["script", "stream", "names", "term", "text", "words", "made", "kind", "first", "second"] ["script"] (defScope s_law) := ⟨rfl, rfl, rfl, by decide +kernel, rfl, by decide +kernel, by decide +kernel⟩
abbrev s_Level_init : Stmt := inClass (topS 19) 0
theorem sc_Level_init : FnScope ["self", "opener"] ["self", "opener"] (defScope s_Level_init) := ⟨rfl, rfl, rfl, by decide +kernel, rfl, by decide +kernel, by decide +kernel⟩
abbrev s_Level_is_whole : Stmt := inClass (topS 19) 1
theorem sc_Level_is_whole : FnScope ["self"] ["self"] (defScope s_Level_is_whole) := ⟨rfl, rfl, rfl, by decide +kernel, rfl, by decide +kernel, by decide +kernel⟩
abbrev s_Level_add_part : Stmt := inClass (topS 19) 2
theorem sc_Level_add_part : FnScope ["self", "nodes"] ["self", "nodes"] (defScope s_Level_add_part) := ⟨rfl, rfl, rfl, by decide +kernel, rfl, by decide +kernel, by decide +kernel⟩
abbrev s_Level_all_nodes : Stmt := inClass (topS 19) 3
theorem sc_Level_all_nodes : FnScope ["self"] ["self"] (defScope s_Level_all_nodes) := ⟨rfl, rfl, rfl, by decide +kernel, rfl, by decide +kernel, by decide +kernel⟩
abbrev s_Reader_init : Stmt := inClass (topS 20) 0
theorem sc_Reader_init : FnScope ["self", "names", "number", "name"] ["self", "names"] (defScope s_Reader_init) := ⟨rfl, rfl, rfl, by decide +kernel, rfl, by decide +kernel, by decide +kernel⟩
abbrev s_Reader_read : Stmt := inClass (topS 20) 1
theorem sc_Reader_read : FnScope ["self", "token", "at"] ["self", "token", "at"] (defScope s_Reader_read) := ⟨rfl, rfl, rfl, by decide +kernel, rfl, by decide +kernel, by decide +kernel⟩
abbrev s_Reader_read_opener : Stmt := inClass (topS 20) 2
theorem sc_Reader_read_opener : FnScope ["self", "token", "at"] ["self", "token", "at"] (defScope s_Reader_read_opener) := ⟨rfl, rfl, rfl, by decide +kernel, rfl, by decide +kernel, by decide +kernel⟩
abbrev s_Reader_read_period : Stmt := inClass (topS 20) 3
theorem sc_Reader_read_period : FnScope ["self", "at", "level"] ["self", "at"] (defScope s_Reader_read_period) := ⟨rfl, rfl, rfl, by decide +kernel, rfl, by decide +kernel, by decide +kernel⟩
abbrev s_Reader_read_closing : Stmt := inClass (topS 20) 4
theorem sc_Reader_read_closing : FnScope ["self", "at"] ["self", "at"] (defScope s_Reader_read_closing) := ⟨rfl, rfl, rfl, by decide +kernel, rfl, by decide +kernel, by decide +kernel⟩
abbrev s_Reader_read_name : Stmt := inClass (topS 20) 5
theorem sc_Reader_read_name : FnScope ["self", "name", "at", "level"] ["self", "name", "at"] (defScope s_Reader_read_name) := ⟨rfl, rfl, rfl, by decide +kernel, rfl, by decide +kernel, by decide +kernel⟩
abbrev s_Reader_variable : Stmt := inClass (topS 20) 6
theorem sc_Reader_variable : FnScope ["self", "name", "at", "around"] ["self", "name", "at"] (defScope s_Reader_variable) := ⟨rfl, rfl, rfl, by decide +kernel, rfl, by decide +kernel, by decide +kernel⟩
abbrev s_Reader_end_abstractions : Stmt := inClass (topS 20) 7
theorem sc_Reader_end_abstractions : FnScope ["self", "at"] ["self", "at"] (defScope s_Reader_end_abstractions) := ⟨rfl, rfl, rfl, by decide +kernel, rfl, by decide +kernel, by decide +kernel⟩
abbrev s_Reader_end_level : Stmt := inClass (topS 20) 8
theorem sc_Reader_end_level : FnScope ["self", "level", "name"] ["self"] (defScope s_Reader_end_level) := ⟨rfl, rfl, rfl, by decide +kernel, rfl, by decide +kernel, by decide +kernel⟩
abbrev s_Reader_finish : Stmt := inClass (topS 20) 9
theorem sc_Reader_finish : FnScope ["self", "at"] ["self", "at"] (defScope s_Reader_finish) := ⟨rfl, rfl, rfl, by decide +kernel, rfl, by decide +kernel, by decide +kernel⟩
structure Txt (w : World) (K : PySem.W.Frag) (mg : Str → Option Value) (tk : Nat → Tok) (cl : Nat → Addr) : Prop where
  n_int : mg "int" = none
  n_list : mg "list" = none
  n_len : mg "len" = none
  n_abs : mg "abs" = none
  n_isinstance : mg "isinstance" = none
  n_tuple : mg "tuple" = none
  n_range : mg "range" = none
  n_zip : mg "zip" = none
  n_reversed : mg "reversed" = none
  n_all : mg "all" = none
  n_str : mg "str" = none
  n_max : mg "max" = none
  n_enumerate : mg "enumerate" = none
  g_MOST_NODES : mg "MOST_NODES" = some (.int 1000 (tk 0))
  g_MOST_VARIABLE : mg "MOST_VARIABLE" = some (.int 1000000 (tk 1))
  g_MOST_LENGTH : mg "MOST_LENGTH" = some (.int 10 (tk 2))
  g_MOST_OPEN : mg "MOST_OPEN" = some (.int 60 (tk 3))
  g_LETTERS : mg "LETTERS" = some (.str "abcdefghijklmnopqrstuvwxyz" (tk 100))
  g_DIGITS : mg "DIGITS" = some (.str "0123456789" (tk 101))
  g_SIGNS : mg "SIGNS" = some (.str "\\.()" (tk 102))
  n_ValueError : mg "ValueError" = none
  g_LyditeError : mg "LyditeError" = some (.ref (cl 0))
  t_LyditeError : PySem.W.typeIn K (.ref (cl 0)) = some (.type "type")
  h3_LyditeError : PySem.W.hasDictIn K (cl 0) = true
  g_TooLarge : mg "TooLarge" = some (.ref (cl 1))
  x_TooLarge : PySem.W.excIn K (cl 1) [.type "ValueError", .type "Exception", .type "BaseException", .type "object"] "ValueError.__new__" = true
  k_TooLarge : PySem.W.keepIn K (.ref (cl 1)) = true
  b_TooLarge : PySem.W.subIn K (.ref (cl 1)) (.type "BaseException") = some true
  t_TooLarge : PySem.W.typeIn K (.ref (cl 1)) = some (.type "type")
  s0_TooLarge : PySem.W.subIn K (.ref (cl 1)) (.ref (cl 0)) = some true
  sv_TooLarge : PySem.W.subIn K (.ref (cl 1)) (.type "ValueError") = some true
  s1_TooLarge : PySem.W.subIn K (.ref (cl 1)) (.ref (cl 1)) = some true
  s5_TooLarge : PySem.W.subIn K (.ref (cl 1)) (.ref (cl 5)) = some false
  h1_TooLarge : PySem.W.findIn K (.ref (cl 1)) "__getattribute__" = some (some (.builtin "BaseException.__getattribute__"))
  h2_TooLarge : PySem.W.findIn K (.ref (cl 1)) "__getattr__" = some none
  h3_TooLarge : PySem.W.hasDictIn K (cl 1) = true
  h4_TooLarge : PySem.W.findIn K (.ref (cl 1)) "__class__" = some (some (.builtin "object.__class__"))
  h7_TooLarge : PySem.W.mroIn K (cl 1) (.type "object") = some true
  h5_TooLarge : PySem.W.specialIn K (.builtin "object.__class__") "__get__" = some (some (.builtin "getset_descriptor.__get__"))
  h6_TooLarge : PySem.W.takesIn K (.builtin "object.__class__") = some true
  g_BadNames : mg "BadNames" = some (.ref (cl 5))
  x_BadNames : PySem.W.excIn K (cl 5) [.type "ValueError", .type "Exception", .type "BaseException", .type "object"] "ValueError.__new__" = true
  k_BadNames : PySem.W.keepIn K (.ref (cl 5)) = true
  b_BadNames : PySem.W.subIn K (.ref (cl 5)) (.type "BaseException") = some true
  t_BadNames : PySem.W.typeIn K (.ref (cl 5)) = some (.type "type")
  s0_BadNames : PySem.W.subIn K (.ref (cl 5)) (.ref (cl 0)) = some true
  sv_BadNames : PySem.W.subIn K (.ref (cl 5)) (.type "ValueError") = some true
  s1_BadNames : PySem.W.subIn K (.ref (cl 5)) (.ref (cl 1)) = some false
  s5_BadNames : PySem.W.subIn K (.ref (cl 5)) (.ref (cl 5)) = some true
  h1_BadNames : PySem.W.findIn K (.ref (cl 5)) "__getattribute__" = some (some (.builtin "BaseException.__getattribute__"))
  h2_BadNames : PySem.W.findIn K (.ref (cl 5)) "__getattr__" = some none
  h3_BadNames : PySem.W.hasDictIn K (cl 5) = true
  h4_BadNames : PySem.W.findIn K (.ref (cl 5)) "__class__" = some (some (.builtin "object.__class__"))
  h7_BadNames : PySem.W.mroIn K (cl 5) (.type "object") = some true
  g_Level : mg "Level" = some (.ref (cl 21))
  pg_Level : PySem.W.plainGet K (cl 21) Str.empty = true
  hd_Level : PySem.W.hasDictIn K (cl 21) = true
  po_Level : PySem.W.plainOver K (cl 21) = true
  sa_Level : PySem.W.findIn K (.ref (cl 21)) "__setattr__" = some (some (.builtin "object.__setattr__"))
  mk_Level : PySem.W.makesIn K (cl 21) = true
  kc_Level : PySem.W.keepIn K (.ref (cl 21)) = true
  nf_Level_opener : PySem.W.findIn K (.ref (cl 21)) "opener" = some none
  nf_Level_naming : PySem.W.findIn K (.ref (cl 21)) "naming" = some none
  nf_Level_names : PySem.W.findIn K (.ref (cl 21)) "names" = some none
  nf_Level_parts : PySem.W.findIn K (.ref (cl 21)) "parts" = some none
  nf_Level_nodes : PySem.W.findIn K (.ref (cl 21)) "nodes" = some none
  g_Reader : mg "Reader" = some (.ref (cl 22))
  pg_Reader : PySem.W.plainGet K (cl 22) Str.empty = true
  hd_Reader : PySem.W.hasDictIn K (cl 22) = true
  po_Reader : PySem.W.plainOver K (cl 22) = true
  sa_Reader : PySem.W.findIn K (.ref (cl 22)) "__setattr__" = some (some (.builtin "object.__setattr__"))
  mk_Reader : PySem.W.makesIn K (cl 22) = true
  kc_Reader : PySem.W.keepIn K (.ref (cl 22)) = true
  nf_Reader_numbers : PySem.W.findIn K (.ref (cl 22)) "numbers" = some none
  nf_Reader_bound : PySem.W.findIn K (.ref (cl 22)) "bound" = some none
  nf_Reader_depth : PySem.W.findIn K (.ref (cl 22)) "depth" = some none
  nf_Reader_levels : PySem.W.findIn K (.ref (cl 22)) "levels" = some none
  nf_Reader_naming : PySem.W.findIn K (.ref (cl 22)) "naming" = some none
theorem Txt.cls_Level {w : World} {K : PySem.W.Frag} {mg : Str → Option Value} {tk : Nat → Tok} {cl : Nat → Addr} (T : Txt w K mg tk cl) : Cls K (cl 21) := ⟨T.pg_Level, T.hd_Level, T.po_Level, T.sa_Level⟩
theorem Txt.cls_Reader {w : World} {K : PySem.W.Frag} {mg : Str → Option Value} {tk : Nat → Tok} {cl : Nat → Addr} (T : Txt w K mg tk cl) : Cls K (cl 22) := ⟨T.pg_Reader, T.hd_Reader, T.po_Reader, T.sa_Reader⟩
section
variable {P : Program} {w : World} {K : PySem.W.Frag} {mg : Str → Option Value} {base : Heap} {tk : Nat → Tok} {cl : Nat → Addr}
def spStream (K : PySem.W.Frag) : Sp := fun vs H Q _ => ∃ (a : Addr) (ns : List Int), vs = [.ref a] ∧ SqL K H a (ns.map V.int) ∧ ns.length ≤ 63 ∧ ∀ H' p l, Ex H H' → H p = none → StAt H' p ⟨l, ns, 0, 0, mixOf ns⟩ → Q (.ref p) H'
theorem ok_stream {f : Addr} {fd : FuncData} {k : Nat} (F : Fun K "_law_stream" "_law_stream" s_law_stream f fd) (T : Txt w K mg tk cl) : FnOk P w K mg base CX0 (k + 1) f fd ["script"] (spStream K) := by
  refine F.ok sc_law_stream (fun vs H Q E h => ?_) (fun cdv A outer s H vs Q E hr h => ?_)
  · obtain ⟨a, ns, rfl, _⟩ := h
    rfl
  · obtain ⟨a, ns, rfl, hS, hlen, q⟩ := h
    refine ⟨_, (pss_cons (ps_set (i := 1) sc_law_stream.nd rfl (.inl rfl) pe_int) (pss_cons (ps_for PassesOwn.never rfl (pi_list (pv 0)) (pg_name (i := 2) sc_law_stream.nd rfl (.inl rfl)) (pss_one (ps_set (i := 1) sc_law_stream.nd rfl (.inl rfl) (pe_op op_modN (pe_callTy call_int1 (by rfl) T.n_int (by decide +kernel) (pa_cons (pe_op op_add (pe_op op_add (pe_op op_mul (pv 1) pe_int) (pe_op op_modN (pe_callTy call_int1 (by rfl) T.n_int (by decide +kernel) (pa_cons (pv 2) pa_nil)) pe_int)) pe_int) pa_nil)) pe_int)))) (pss_one (ps_ret (pe_lst (pa_cons (pe_callTy call_list_of (by rfl) T.n_list (by decide +kernel) (pa_cons (pv 0) pa_nil)) (pa_cons pe_int (pa_cons pe_int (pa_cons (pv 1) pa_nil))))))))), ?_⟩
    refine sl_of (σ2 := [some _, none, none]) rfl ?_
    walk_at "st"
    walk_at "go"
    refine for_list (K := K) (a := a) (xs := ns.map V.int) (fun i σ H' => H' = H ∧ ∃ y, σ = [some (.ref a), some (.int (mixOf (ns.take i))), y]) ⟨rfl, none, rfl⟩ (fun i σ H' _ e => by rw [e.1]; exact hS) ?_ ?_
    · rintro i x σ H' hi ⟨rfl, y, rfl⟩
      obtain ⟨z, hz, rfl⟩ := get_int hi
      walk_at "go"
      exact ⟨rfl, _, by rw [mixOf_take hz]; rfl⟩
    · rintro σ H' ⟨rfl, y, rfl⟩
      walk_at "go"
      intro l hl
      walk_at "go"
      intro p hp
      rw [List.take_of_length_le (by simp)]
      refine q _ _ l ?_ ?_ ⟨?_, ?_, ?_⟩
      · walk_at "ex"
      · walk_at "free"
      · walk_at "ne"
      · walk_at "hp"
      · walk_at "hp"
def spDraw : Sp := fun vs H Q _ => ∃ (s : Addr) (m : Stm) (n : Int), vs = [.ref s, .int n] ∧ StAt H s m ∧ 0 < n ∧ n < 1073741824 ∧ ∀ H', Fr s H H' → StAt H' s (m.next n) → Q (.int (m.val n)) H'
theorem ok_draw {f : Addr} {fd : FuncData} {k : Nat} (F : Fun K "_law_draw" "_law_draw" s_law_draw f fd) (T : Txt w K mg tk cl) : FnOk P w K mg base CX0 (k + 1) f fd ["stream", "many"] spDraw := by
  refine F.ok sc_law_draw (fun vs H Q E h => ?_) (fun cdv A outer s H vs Q E hr h => ?_)
  · obtain ⟨a, m, n, rfl, _⟩ := h
    rfl
  · obtain ⟨a, m, n, rfl, ⟨hla, ha, hl⟩, n0, n1, q⟩ := h
    refine ⟨_, (pss_cut (ps_if (PW.pt (pw_and (pt_cmpR op_eq (pe_ix ix_list (pv 0) pe_int (fun _ _ => rfl)) pe_int (nomark _)) (pw_and1 (pt_cmpR op_lt (pe_ix ix_list (pv 0) pe_int (fun _ _ => rfl)) (pe_callB call_len_seq (by rfl) T.n_len (by decide +kernel) (pa_cons (pe_ix ix_list (pv 0) pe_int (fun _ _ => rfl)) pa_nil)) (nomark _))))) (pss_cons (ps_asg (pe_callB call_abs (by rfl) T.n_abs (by decide +kernel) (pa_cons (pe_callTy call_int1 (by rfl) T.n_int (by decide +kernel) (pa_cons (pe_ix ix_list (pe_ix ix_list (pv 0) pe_int (fun _ _ => rfl)) (pe_ix ix_list (pv 0) pe_int (fun _ _ => rfl)) (fun _ _ => rfl)) pa_nil)) pa_nil)) (pg_sub (pv 0) pe_int set_list)) (pss_one (ps_asg (pe_op op_add (pe_ix ix_list (pv 0) pe_int (fun _ _ => rfl)) pe_int) (pg_sub (pv 0) pe_int set_list)))) pss_nil) (pss_cons (ps_if (pt_cmpR op_eq (pe_ix ix_list (pv 0) pe_int (fun _ _ => rfl)) pe_int (nomark _)) (pss_cons (ps_asg (pe_op op_modN (pe_callTy call_int1 (by rfl) T.n_int (by decide +kernel) (pa_cons (pe_op op_add (pe_op op_mul (pe_ix ix_list (pv 0) pe_int (fun _ _ => rfl)) pe_int) pe_int) pa_nil)) pe_int) (pg_sub (pv 0) pe_int set_list)) (pss_one (ps_ret (pe_op op_modN (pe_callTy call_int1 (by rfl) T.n_int (by decide +kernel) (pa_cons (pe_op op_fdivN (pe_ix ix_list (pv 0) pe_int (fun _ _ => rfl)) pe_int) pa_nil)) (pv 1))))) pss_nil) (pss_cons (ps_set (i := 2) sc_law_draw.nd rfl (.inl rfl) (pe_op op_modN (pe_callTy call_int1 (by rfl) T.n_int (by decide +kernel) (pa_cons (pe_ix ix_list (pv 0) pe_int (fun _ _ => rfl)) pa_nil)) (pv 1))) (pss_cons (ps_asg (pe_op op_fdivN (pe_ix ix_list (pv 0) pe_int (fun _ _ => rfl)) (pv 1)) (pg_sub (pv 0) pe_int set_list)) (pss_one (ps_ret (pv 2))))))), ?_⟩
    refine sl_of (σ2 := [some _, some _, none]) rfl ?_
    walk_at "st"
    walk_at "go"
    refine w_cut (M := fun σ' H' => σ' = [some (.ref a), some (.int n), none] ∧ Fr a H H' ∧ H' a = some (.lst [.ref m.home, .int m.take.cur, .int m.take.pos, .int m.take.mix]) ∧ H' m.home = some (.lst (m.cells.map V.int))) ?_ ?_
    · walk_at "go"
      refine w_brI (fun hc => ?_) (fun hc => ?_)
      · walk_at "go"
        refine w_br (fun hp => ?_) (fun hp => ?_)
        · rw [List.length_map] at hp
          have hp2 : m.pos < m.cells.length := by omega
          have e : m.take = { m with cur := (if m.cells.getD m.pos 0 < 0 then -(m.cells.getD m.pos 0) else m.cells.getD m.pos 0), pos := m.pos + 1 } := if_pos ⟨hc, hp2⟩
          walk_at "go"
          refine ⟨rfl, ?_, ?_, ?_⟩
          · walk_at "fr"
          · rw [e]
            exact upd_same
          · walk_at "hp"
        · rw [List.length_map] at hp
          have e : m.take = m := if_neg (fun z => hp (by omega))
          walk_at "go"
          rw [e]
          exact ⟨rfl, Fr.refl _ _, ha, hl⟩
      · have e : m.take = m := if_neg (fun z => hc z.1)
        walk_at "go"
        rw [e]
        exact ⟨rfl, Fr.refl _ _, ha, hl⟩
    · rintro σ' H' ⟨rfl, fr, ea, el⟩
      walk_at "go"
      refine w_brI (fun hc => ?_) (fun hc => ?_)
      · walk_at "go"
        have e1 : m.next n = m.take.turn := if_pos hc
        have e2 : m.val n = (m.take.turn.mix.fdiv 97).fmod n := if_pos hc
        rw [e1, e2] at q
        refine q _ ?_ ⟨?_, ?_, ?_⟩
        · walk_at "fr"
        · show m.take.home ≠ a
          rw [m.take_home]
          exact hla
        · show _ = some (HO.lst [.ref m.take.home, _, _, _])
          rw [upd_same, m.take_home]
          rfl
        · show _ = some (HO.lst (List.map V.int m.take.cells))
          rw [m.take_cells]
          show upd _ a _ m.take.home = _
          rw [m.take_home]
          walk_at "hp"
      · walk_at "go"
        have e1 : m.next n = { m.take with cur := m.take.cur.fdiv n } := if_neg hc
        have e2 : m.val n = m.take.cur.fmod n := if_neg hc
        rw [e1, e2] at q
        refine q _ ?_ ⟨?_, ?_, ?_⟩
        · walk_at "fr"
        · show m.take.home ≠ a
          rw [m.take_home]
          exact hla
        · show _ = some (HO.lst [.ref m.take.home, _, _, _])
          rw [upd_same, m.take_home]
          rfl
        · show _ = some (HO.lst (List.map V.int m.take.cells))
          rw [m.take_cells]
          show upd _ a _ m.take.home = _
          rw [m.take_home]
          walk_at "hp"
def spDepths (K : PySem.W.Frag) : Sp := fun vs H Q _ => ∃ (a : Addr) (t : Tm), vs = [.ref a] ∧ SqT K H a t.enc ∧ t.enc.length ≤ 2000000 ∧ ∀ H' p, Ex H H' → H p = none → H' p = some (.lst (nums (t.deps 0))) → Q (.ref p) H'
def spTerm : Sp := fun vs H Q _ => ∃ (s : Addr) (m : Stm) (size loose : Nat), vs = [.ref s, .int size, .int loose] ∧ StAt H s m ∧ 1 ≤ size ∧ size ≤ 1000 ∧ loose ≤ 1000 ∧
  ∀ H' p m' (t : Tm), Fr s H H' → StAt H' s m' → Fol m m' → H p = none → SqX H' p t.enc → t.wf loose → t.enc.length ≤ 2 * size → (0 < loose → t.enc.length ≤ size) → Q (.ref p) H'
def zeros (ds : List Nat) : Nat := (ds.filter (· == 0)).length
theorem zeros_app (a b : List Nat) : zeros (a ++ b) = zeros a + zeros b := by
  unfold zeros
  rw [List.filter_append, List.length_append]
theorem zeros_le (a : List Nat) : zeros a ≤ a.length := List.length_filter_le _ _
theorem zeros_one (d : Nat) : zeros [d] = if d = 0 then 1 else 0 := by
  unfold zeros
  by_cases h : d = 0
  · simp [h]
  · simp [h]
theorem pop_last {ds : List Nat} (h : ds ≠ []) : ∃ r d, ds = r ++ [d] := ⟨ds.dropLast, ds.getLast h, (List.dropLast_concat_getLast h).symm⟩
def TI (a nl wl : Addr) (H : Hp) (size loose : Nat) (m : Stm) (n : Nat) (σ : L2.St) (H' : Hp) : Prop := ∃ (m' : Stm) (nodes : List V) (ds : List Nat) (y1 y2 y3 : Option V), σ = [some (.ref a), some (.int size), some (.int loose), some (.ref nl), some (.ref wl), y1, y2, y3] ∧ Fr a H H' ∧ StAt H' a m' ∧ Fol m m' ∧ H' nl = some (.lst nodes) ∧ H' wl = some (.lst (ds.map fun (d : Nat) => V.int d)) ∧
  Comp loose nodes ds ∧ nodes.length + ds.length + zeros ds ≤ 2 * size ∧ (∀ d ∈ ds, d ≤ nodes.length) ∧ nodes.length = n ∧ (0 < loose → nodes.length + ds.length ≤ size)
theorem ok_term {f : Addr} {fd : FuncData} (F : Fun K "_law_term" "_law_term" s_law_term f fd) (T : Txt w K mg tk cl)
    (D1 : Def P w K mg base CX0 1 "_law_draw" ["stream", "many"] spDraw) : FnOk P w K mg base CX0 2 f fd ["stream", "size", "loose"] spTerm := by
  obtain ⟨f1, fd1, g_law_draw, kp_law_draw, b_law_draw, G_law_draw⟩ := D1
  refine F.ok sc_law_term (fun vs H Q E h => ?_) (fun cdv A outer s H vs Q E hr h => ?_)
  · obtain ⟨a, m, n1, n2, rfl, _⟩ := h
    rfl
  · obtain ⟨a, m, size, loose, rfl, hst, hs1, hs2, hlo, q⟩ := h
    refine ⟨_, (pss_cons (ps_set (i := 3) sc_law_term.nd rfl (.inl rfl) (pe_lst pa_nil)) (pss_cons (ps_set (i := 4) sc_law_term.nd rfl (.inl rfl) (pe_lst (pa_cons pe_int pa_nil))) (pss_cons (ps_while PassesOwn.never (pt_truth (pv 4) (by intro _; rfl)) (pss_cons (ps_set (i := 5) sc_law_term.nd rfl (.inl rfl) (pe_bm0 PySem.F.plainAttrs_list PySem.F.slot_list_pop PySem.F.type_list_pop mt_pop (pv 4))) (pss_cons (ps_set (i := 6) sc_law_term.nd rfl (.inl rfl) (pe_op op_sub (pe_op op_sub (pe_op op_sub (pv 1) (pe_callB call_len_seq (by rfl) T.n_len (by decide +kernel) (pa_cons (pv 3) pa_nil))) (pe_callB call_len_seq (by rfl) T.n_len (by decide +kernel) (pa_cons (pv 4) pa_nil))) pe_int)) (pss_cons (ps_set (i := 7) sc_law_term.nd rfl (.inl rfl) (pe_call G_law_draw (hr.mono (by first | decide | omega)) (by rfl) g_law_draw kp_law_draw b_law_draw .nil pass0 (pa_cons (pv 0) (pa_cons pe_int pa_nil)))) (pss_one (ps_if (PW.pt (pw_and (pt_cmpR op_gt (pv 6) pe_int (nomark _)) (pw_and1 (pt_cmpR op_lt (pv 7) pe_int (nomark _))))) (pss_cons (ps_expr (pe_bm PySem.F.plainAttrs_list PySem.F.slot_list_append PySem.F.type_list_append mt_append (pv 3) (pa_cons pe_str pa_nil))) (pss_cons (ps_expr (pe_bm PySem.F.plainAttrs_list PySem.F.slot_list_append PySem.F.type_list_append mt_append (pv 4) (pa_cons (pv 5) pa_nil))) (pss_one (ps_expr (pe_bm PySem.F.plainAttrs_list PySem.F.slot_list_append PySem.F.type_list_append mt_append (pv 4) (pa_cons (pv 5) pa_nil)))))) (pss_one (ps_if (PW.pt (pw_or (PW.pt (pw_and (pt_cmpR op_gt (pv 6) pe_int (nomark _)) (pw_and1 (pt_cmpR op_eq (pv 7) pe_int (nomark _))))) (pw_or1 (pt_cmpR op_eq (pe_op op_add (pv 5) (pv 2)) pe_int (nomark _))))) (pss_cons (ps_expr (pe_bm PySem.F.plainAttrs_list PySem.F.slot_list_append PySem.F.type_list_append mt_append (pv 3) (pa_cons pe_str pa_nil))) (pss_one (ps_expr (pe_bm PySem.F.plainAttrs_list PySem.F.slot_list_append PySem.F.type_list_append mt_append (pv 4) (pa_cons (pe_op op_add (pv 5) pe_int) pa_nil))))) (pss_one (ps_expr (pe_bm PySem.F.plainAttrs_list PySem.F.slot_list_append PySem.F.type_list_append mt_append (pv 3) (pa_cons (pe_call G_law_draw (hr.mono (by first | decide | omega)) (by rfl) g_law_draw kp_law_draw b_law_draw .nil pass0 (pa_cons (pv 0) (pa_cons (pe_op op_add (pv 5) (pv 2)) pa_nil))) pa_nil)))))))))))) (pss_one (ps_ret (pe_callTy call_tupleF (by rfl) T.n_tuple (by decide +kernel) (pa_cons (pv 3) pa_nil))))))), ?_⟩
    refine sl_of (σ2 := [some _, some _, some _, none, none, none, none, none]) rfl ?_
    walk_at "st"
    walk_at "go"
    intro nl hnl
    walk_at "go"
    intro wl hwl
    obtain ⟨hna, hnh⟩ := hst.ne hnl
    obtain ⟨hwa, hwh⟩ := (hst.new (o := .lst []) hnl).ne hwl
    have hwn : wl ≠ nl := (ne_of_none upd_same hwl).symm
    have hwl0 : H wl = none := by
      rw [upd_ne hwn] at hwl
      exact hwl
    walk_at "go"
    refine w_while (fun k σ' H' => ∃ n, TI a nl wl H size loose m n σ' H' ∧ k = 2 * size - n) (2 * size) ⟨0, ⟨m, [], [0], none, none, none, rfl, by walk_at "fr", (hst.new hnl).new hwl, Fol.refl _, by walk_at "hp", upd_same, Comp.start _, ?_, ?_, rfl, fun _ => by simpa using hs1⟩, rfl⟩ ?_
    · simp [zeros]
      omega
    · simp
    · rintro k σ H1 ⟨n, ⟨m1, nodes, ds, y1, y2, y3, rfl, fr1, st1, fol1, hn1, hw1, hcomp, hphi, hd, hlen, hsz⟩, rfl⟩
      have hnh1 : ∀ {m2 : Stm}, Fol m m2 → nl ≠ m2.home := fun {m2} h => by
        rw [h.1]
        exact hnh
      have hwh1 : ∀ {m2 : Stm}, Fol m m2 → wl ≠ m2.home := fun {m2} h => by
        rw [h.1]
        exact hwh
      walk_at "go"
      by_cases hemp : ds = []
      · subst hemp
        obtain ⟨t, ht1, ht2⟩ := hcomp.done
        refine iteF ?_
        walk_at "go"
        refine w_tupF (SqL.of hn1) fun p H3 e3 hp hx => ?_
        walk_at "go"
        refine q H3 p m1 t (fr1.trans (Fr.ex e3)) (st1.ex e3) fol1 ?_ (by rw [ht2]; exact hx) ht1 ?_ ?_
        · refine Fr.free fr1 hst.2.1 hp ?_
          exact (st1.ne hp).1
        · rw [ht2]
          simp at hphi
          omega
        · rw [ht2]
          simpa using hsz
      · obtain ⟨r, d, rfl⟩ := pop_last hemp
        rw [List.map_append] at hw1
        have he : (!(List.map (fun (d : Nat) => V.int d) (r ++ [d])).isEmpty) = true := by simp
        rw [he]
        refine iteT ⟨TI a nl wl H size loose m (n + 1), fun σ' H' h => ⟨2 * size - (n + 1), ?_, n + 1, h, rfl⟩, ?_⟩
        · simp at hphi
          omega
        have hdn : d ≤ nodes.length := hd d (by simp)
        have hdr : ∀ x ∈ r, x ≤ nodes.length := fun x hx => hd x (by simp [hx])
        have hphi2 : nodes.length + r.length + 1 + zeros r + (if d = 0 then 1 else 0) ≤ 2 * size := by
          rw [List.length_append, zeros_app, zeros_one] at hphi
          simp at hphi
          omega
        have hzr := zeros_le r
        have hw1b : H1 wl = some (.lst (List.map (fun (d : Nat) => V.int d) r ++ [V.int d])) := hw1
        walk_at "go"
        have st2 := st1.put (o := .lst (List.map (fun (d : Nat) => V.int d) r)) hwa (hwh1 fol1)
        have hn2 : upd H1 wl (.lst (List.map (fun (d : Nat) => V.int d) r)) nl = some (.lst nodes) := by walk_at "hp"
        refine ⟨a, m1, 5, rfl, st2, by decide, by decide, fun H2 fr2 st3 => ?_⟩
        have fol2 := fol1.step 5
        have hn3 : H2 nl = some (.lst nodes) := by walk_at "hp"
        have hw3 : H2 wl = some (.lst (List.map (fun (d : Nat) => V.int d) r)) := by walk_at "hp"
        have fr3 : Fr a H H2 := (Fr.mut fr1 hwl0).trans fr2
        have hw3l : (List.map (fun (d : Nat) => V.int d) r).length = r.length := List.length_map _
        generalize m1.val 5 = pick at *
        generalize m1.next 5 = m2 at *
        have toApp : ∀ {y1 y2 y3 : Option V}, ((r.length + nodes.length + 2 : Nat) : Int) < size → TI a nl wl H size loose m (n + 1) [some (.ref a), some (.int size), some (.int loose), some (.ref nl), some (.ref wl), y1, y2, y3] (upd (upd (upd H2 nl (.lst (nodes ++ [V.str "app"]))) wl (.lst (List.map (fun (d : Nat) => V.int d) r ++ [V.int d]))) wl (.lst (List.map (fun (d : Nat) => V.int d) r ++ [V.int d] ++ [V.int d]))) := fun {y1 y2 y3} hroom => by
          refine ⟨m2, nodes ++ [.str "app"], r ++ [d] ++ [d], y1, y2, y3, rfl, ?_, ?_, fol2, ?_, ?_, hcomp.app, ?_, ?_, ?_, ?_⟩
          · walk_at "fr"
          · exact ((st3.put hna (hnh1 fol2)).put hwa (hwh1 fol2)).put hwa (hwh1 fol2)
          · walk_at "hp"
          · rw [upd_same]
            simp
          · rw [zeros_app, zeros_app, zeros_one]
            simp
            split <;> omega
          · intro x hx
            simp at hx
            rw [List.length_append, List.length_singleton]
            rcases hx with hx | hx
            · have := hdr x hx
              omega
            · omega
          · rw [List.length_append, List.length_singleton, hlen]
          · intro hl
            have := hsz hl
            simp at this ⊢
            omega
        have toLam : ∀ {y1 y2 y3 : Option V}, (((r.length + nodes.length + 1 : Nat) : Int) < size ∨ d + loose = 0) → TI a nl wl H size loose m (n + 1) [some (.ref a), some (.int size), some (.int loose), some (.ref nl), some (.ref wl), y1, y2, y3] (upd (upd H2 nl (.lst (nodes ++ [V.str "lam"]))) wl (.lst (List.map (fun (d : Nat) => V.int d) r ++ [V.int (d + 1)]))) := fun {y1 y2 y3} hroom => by
          refine ⟨m2, nodes ++ [.str "lam"], r ++ [d + 1], y1, y2, y3, rfl, ?_, ?_, fol2, ?_, ?_, hcomp.lam, ?_, ?_, ?_, ?_⟩
          · walk_at "fr"
          · exact (st3.put hna (hnh1 fol2)).put hwa (hwh1 fol2)
          · walk_at "hp"
          · rw [upd_same]
            simp
          · rw [zeros_app, zeros_one, if_neg (Nat.succ_ne_zero d)]
            simp
            rcases hroom with h | h
            · omega
            · rw [if_pos (by omega)] at hphi2
              omega
          · intro x hx
            simp at hx
            rw [List.length_append, List.length_singleton]
            rcases hx with hx | hx
            · have := hdr x hx
              omega
            · omega
          · rw [List.length_append, List.length_singleton, hlen]
          · intro hl
            have := hsz hl
            simp at this ⊢
            rcases hroom with h | h <;> omega
        have toVar : ∀ {y1 y2 y3 : Option V}, d + loose ≠ 0 → spDraw ([V.ref a, V.int ((d : Int) + (loose : Int))] ++ []) H2 (fun y H3 => rAppend (V.ref nl) [y] H3 fun _ H4 => TI a nl wl H size loose m (n + 1) [some (.ref a), some (.int size), some (.int loose), some (.ref nl), some (.ref wl), y1, y2, y3] H4) E0 := fun {y1 y2 y3} hne => by
          have hds : d ≤ 2 * size := by omega
          refine ⟨a, m2, _, rfl, st3, by omega, by omega, fun H3 fr4 st4 => ?_⟩
          have hv := m2.val_lt (n := (d : Int) + (loose : Int)) (by omega)
          have hn4 : H3 nl = some (.lst nodes) := by walk_at "hp"
          have hw4 : H3 wl = some (.lst (List.map (fun (d : Nat) => V.int d) r)) := by walk_at "hp"
          have fr5 := fr3.trans fr4
          walk_at "go"
          refine ⟨m2.next _, _, r, y1, y2, y3, rfl, Fr.mut fr5 hnl, st4.put hna (hnh1 (fol2.step _)), fol2.step _, upd_same, by walk_at "hp", ?_, ?_, ?_, ?_, ?_⟩
          · have := hcomp.var (n := (m2.val ((d : Int) + (loose : Int))).toNat) (by omega)
            rw [Int.toNat_of_nonneg hv.1] at this
            exact this
          · rw [List.length_append, List.length_singleton]
            omega
          · intro x hx
            have := hdr x hx
            rw [List.length_append, List.length_singleton]
            omega
          · rw [List.length_append, List.length_singleton, hlen]
          · intro hl
            have := hsz hl
            simp at this ⊢
            omega
        walk_at "go"
        rw [hw3l]
        refine w_br (fun c1 => ?_) (fun c1 => ?_)
        · walk_at "go"
          refine w_br (fun c2 => ?_) (fun c2 => ?_)
          · walk_at "go"
            exact toApp (by omega)
          · walk_at "go"
            refine w_br (fun c3 => ?_) (fun c3 => by omega)
            walk_at "go"
            refine w_brI (fun c4 => ?_) (fun c4 => ?_)
            · walk_at "go"
              exact toLam (.inl (by omega))
            · walk_at "go"
              refine w_brI (fun c5 => ?_) (fun c5 => ?_)
              · walk_at "go"
                exact toLam (.inr (by omega))
              · walk_at "go"
                exact toVar (by omega)
        · walk_at "go"
          refine w_br (fun c3 => ?_) (fun c3 => ?_)
          · walk_at "go"
            refine w_brI (fun c4 => ?_) (fun c4 => ?_)
            · walk_at "go"
              exact toLam (.inl (by omega))
            · walk_at "go"
              refine w_brI (fun c5 => ?_) (fun c5 => ?_)
              · walk_at "go"
                exact toLam (.inr (by omega))
              · walk_at "go"
                exact toVar (by omega)
          · walk_at "go"
            refine w_brI (fun c5 => ?_) (fun c5 => ?_)
            · walk_at "go"
              exact toLam (.inr (by omega))
            · walk_at "go"
              exact toVar (by omega)
end
end Ly
set_option Elab.async false
set_option linter.all false
set_option maxRecDepth 100000
set_option maxHeartbeats 8000000
namespace Ly
open PySem PySem.Spec PyProof.Rows L2 Evl
local macro_rules | `(tactic| walk_at "ne") => `(tactic| first
  | assumption
  | ((refine' Ne.symm ?hq); (case hq => assumption))
  | ((refine' ne_of_none ?nh1 ?nh2); (case nh2 => assumption); (case nh1 => walk_at "hp"))
  | ((refine' Ne.symm (ne_of_none ?nh1 ?nh2)); (case nh2 => assumption); (case nh1 => walk_at "hp")))
local macro_rules | `(tactic| walk_at "hp") => `(tactic| first
  | assumption
  | exact upd_same
  | ((refine' SqL.of ?hq); (case hq => walk_at "hp"))
  | ((refine' SqT.of ?hq); (case hq => walk_at "hp"))
  | ((refine' (upd_ne ?hne).trans ?hrest); (case hne => walk_at "ne"); (case hrest => walk_at "hp"))
  | ((refine' ly_at ?hex ?hh); (case hex => assumption); (case hh => walk_at "hp"))
  | ((refine' ly_atF ?hex ?hnn ?hh); (case hex => assumption); (case hh => walk_at "hp"); (case hnn => walk_at "ne"))
  | ((refine' ex_t ?hex ?hh); (case hh => assumption); (case hex => walk_at "ex"))
  | ((refine' ex_l ?hex ?hh); (case hh => assumption); (case hex => walk_at "ex")))
local macro_rules | `(tactic| walk_at "ex") => `(tactic| first
  | assumption
  | exact Ex.refl _
  | ((refine' ex_new ?xa ?xb); (case xb => assumption); (case xa => walk_at "ex"))
  | ((refine' ex_upd ?xa ?xb); (case xb => walk_at "free"); (case xa => walk_at "ex"))
  | ((refine' Ex.trans ?xa ?xb); (case xb => assumption); (case xa => walk_at "ex")))
local macro_rules | `(tactic| walk_at "free") => `(tactic| first
  | assumption
  | ((refine' fresh_back ?xa ?xb); (case xb => assumption); (case xa => walk_at "ex")))
local macro_rules | `(tactic| walk_at "fr") => `(tactic| first
  | assumption
  | exact Fr.refl _ _
  | ((refine' Fr.own ?hq); (case hq => walk_at "fr"))
  | ((refine' Fr.new ?xa ?xb); (case xb => assumption); (case xa => walk_at "fr"))
  | ((refine' Fr.mut ?xa ?xb); (case xb => assumption); (case xa => walk_at "fr"))
  | ((refine' Fr.trans ?xa ?xb); (case xb => assumption); (case xa => walk_at "fr"))
  | ((refine' Fr.trans ?xa (Fr.ex ?xb)); (case xb => assumption); (case xa => walk_at "fr")))
local macro_rules | `(tactic| walk_at "go1") => `(tactic| first
  | (with_reducible refine' w_seq ?_)
  | (with_reducible refine' w_asg ?_)
  | (with_reducible refine' w_ret ?_)
  | (with_reducible refine' w_drop ?_)
  | (with_reducible refine' w_if ?_)
  | (with_reducible refine' w_next ?_)
  | (with_reducible refine' w_name ?_)
  | (with_reducible refine' w_sub ?_)
  | ((with_reducible refine' w_var ?hv ?_); (case hv => exact rfl))
  | (with_reducible refine' w_c ?_)
  | (with_reducible refine' w_op ?_)
  | (with_reducible refine' w_un ?_)
  | (with_reducible refine' w_ch ?_)
  | (with_reducible refine' w_I0 ?_)
  | ((with_reducible refine' w_I ?hc ?_); (case hc => first | (exact ly_mulL (by decide) (by decide)) | (exact ly_mulR (by decide) (by decide)) | (exact ly_mulL (by omega) (by omega)) | (show (_ : Int) ≠ 0; decide) | (show (_ : Int) ≠ 0; omega) | (exact ⟨by decide, by decide⟩) | (exact ⟨by omega, by omega⟩)))
  | (with_reducible refine' w_U ?_)
  | ((with_reducible refine' w_eq ?hs ?_); (case hs => exact rfl))
  | ((with_reducible refine' w_ne ?hs ?_); (case hs => exact rfl))
  | (with_reducible refine' w_isB ?_)
  | (with_reducible refine' w_notB ?_)
  | (with_reducible refine' w_nil ?_)
  | (with_reducible refine' w_cons ?_)
  | (with_reducible refine' w_tup ?_)
  | (with_reducible refine' w_lst ?_)
  | (with_reducible refine' w_cb ?_)
  | (with_reducible refine' w_call ?_)
  | (with_reducible refine' w_bm ?_)
  | (with_reducible refine' w_bm0 ?_)
  | ((with_reducible refine' w_app ?hh ?hz ?_); (case hh => walk_at "hp"); (case hz => first | exact ly_lt (by omega) | exact ly_lt (by simp only [List.length_append, List.length_map, List.length_cons, List.length_nil]; omega)))
  | ((with_reducible refine' w_popA ?hh ?_); (case hh => walk_at "hp"))
  | ((with_reducible refine' w_ext ?hh ?hh2 ?hz ?_); (case hh => walk_at "hp"); (case hh2 => walk_at "hp"))
  | ((with_reducible refine' w_ixL ?hh ?ha ?_); (case hh => walk_at "hp"); (case ha => first | exact rfl | exact at_map (by omega) | exact atI_last _ _ | ((refine' at_of ?ae ?ah); (case ah => assumption); (case ae => omega))))
  | ((with_reducible refine' w_ixT ?hh ?ha ?_); (case hh => walk_at "hp"); (case ha => first | exact rfl | exact at_map (by omega) | exact atI_last _ _ | ((refine' at_of ?ae ?ah); (case ah => assumption); (case ae => omega))))
  | ((with_reducible refine' w_cat ?hh ?hh2 ?hz ?_); (case hh => walk_at "hp"); (case hh2 => walk_at "hp"))
  | ((with_reducible refine' w_setL ?hh ?ha ?_); (case hh => walk_at "hp"); (case ha => exact rfl))
  | (with_reducible refine' w_test ?_)
  | (with_reducible refine' w_tB ?_)
  | (with_reducible refine' w_bl ?_)
  | (with_reducible refine' w_and ?_)
  | (with_reducible refine' w_or ?_)
  | (with_reducible refine' w_not ?_)
  | (with_reducible refine' w_andV ?_)
  | (with_reducible refine' w_orV ?_)
  | (with_reducible refine' w_notV ?_)
  | (with_reducible refine' w_ifE ?_)
  | (with_reducible refine' w_for ?_)
  | ((with_reducible refine' w_nin ?hh ?_); (case hh => walk_at "hp"))
  | ((with_reducible refine' w_sorted ?hh ?_); (case hh => walk_at "hp"))
  | (with_reducible refine' w_tsadd ?_)
  | ((with_reducible refine' w_tsadd1 ?hh ?_); (case hh => walk_at "hp"))
  | ((with_reducible refine' w_sadd ?hh ?hr ?_); (case hh => walk_at "hp"); (case hr => omega))
  | (with_reducible refine' w_iZ ?_)
  | ((with_reducible refine' w_iZ1 ?hh ?hh2 ?_); (case hh => walk_at "hp"); (case hh2 => walk_at "hp"))
  | (with_reducible refine' w_iS ?_)
  | (with_reducible refine' w_iS1 ?_)
  | ((with_reducible refine' w_gtup ?hh ?hn ?_); (case hh => walk_at "hp"); (case hn => exact rfl))
  | (with_reducible refine' w_gcons ?_)
  | (with_reducible refine' w_gnil ?_)
  | (with_reducible refine' w_js ?_)
  | (with_reducible refine' w_jsn ?_)
  | ((with_reducible refine' w_js1 ?hl ?_); (case hl => decide +kernel))
  | (with_reducible refine' w_fmt ?_)
  | ((with_reducible refine' w_fmt1 ?hl ?_); (case hl => decide +kernel))
  | (with_reducible refine' w_callS ?_)
  | ((with_reducible refine' w_truL ?hh ?_); (case hh => walk_at "hp"))
  | (with_reducible refine' w_lc ?_)
  | (with_reducible refine' w_yes ?_)
  | ((with_reducible refine' w_wipe ?he ?_); (case he => exact rfl))
  | (with_reducible refine' w_iL ?_)
  | (with_reducible refine' w_iT ?_)
  | (with_reducible refine' w_iR ?_)
  | ((with_reducible refine' w_iL1 ?hh ?_); (case hh => walk_at "hp"))
  | ((with_reducible refine' w_iT1 ?hh ?_); (case hh => walk_at "hp"))
  | ((with_reducible refine' w_iR1 ?h1 ?h2 ?_); (case h1 => omega); (case h2 => omega))
  | ((with_reducible refine' w_aug ?hv ?_); (case hv => exact rfl))
  | (with_reducible refine' w_ipI ?_)
  | ((with_reducible refine' w_isi ?hy ?hk ?_); (case hy => walk_at "ty"); (case hk => walk_at "kit"))
  | ((with_reducible refine' w_int ?_))
  | ((with_reducible refine' w_intB ?_))
  | ((with_reducible refine' w_abs ?_))
  | ((with_reducible refine' w_lenL ?hh ?_); (case hh => walk_at "hp"))
  | ((with_reducible refine' w_lenT ?hh ?_); (case hh => walk_at "hp"))
  | ((with_reducible refine' w_tupL ?hh ?_); (case hh => walk_at "hp"))
  | ((with_reducible refine' w_tupT ?hh ?_); (case hh => walk_at "hp"))
  | ((with_reducible refine' w_catA ?hh ?hh2 ?hz ?_); (case hh => walk_at "hp"); (case hh2 => walk_at "hp"); (case hz => walk_at "len"))
  | ((with_reducible refine' w_repB ?hh ?hne ?h2 ?h3 ?hz ?_); (case hh => walk_at "hp"); (case hne => simp); (case h2 => omega); (case h3 => omega); (case hz => exact Nat.le_of_ble_eq_true rfl))
  | ((with_reducible refine' w_eqN ?hh ?hh2 ?n1 ?n2 ?_); (case hh => walk_at "hp"); (case hh2 => walk_at "hp"); (case n1 => walk_at "nd"); (case n2 => walk_at "nd"))
  | ((with_reducible refine' w_neN ?hh ?hh2 ?n1 ?n2 ?_); (case hh => walk_at "hp"); (case hh2 => walk_at "hp"); (case n1 => walk_at "nd"); (case n2 => walk_at "nd"))
  | ((with_reducible refine' w_eqL ?hh ?hh2 ?n1 ?n2 ?_); (case hh => walk_at "hp"); (case hh2 => walk_at "hp"); (case n1 => walk_at "nd"); (case n2 => walk_at "nd"))
  | ((with_reducible refine' w_neL ?hh ?hh2 ?n1 ?n2 ?_); (case hh => walk_at "hp"); (case hh2 => walk_at "hp"); (case n1 => walk_at "nd"); (case n2 => walk_at "nd"))
  | ((with_reducible refine' w_neNon ?hh2 ?n2 ?_); (case hh2 => walk_at "hp"); (case n2 => walk_at "nd"))
  | ((with_reducible refine' w_eqNon ?hh2 ?n2 ?_); (case hh2 => walk_at "hp"); (case n2 => walk_at "nd"))
  | ((with_reducible refine' w_slA ?hh ?_); (case hh => walk_at "hp"))
  | ((with_reducible refine' w_disp ?hz ?_); (case hz => exact sz_of (Nat.le_of_ble_eq_true rfl)))
  | ((with_reducible refine' w_tyL ?hh ?_); (case hh => walk_at "hp"))
  | (with_reducible refine' iteT ?_)
  | (with_reducible refine' iteF ?_)
  | (with_reducible refine' w_nT ?_)
  | (with_reducible refine' w_nn ?_)
  | (with_reducible refine' w_nnT ?_)
  | (with_reducible refine' w_nnR ?_)
  | (with_reducible refine' w_neG ?_)
  | (with_reducible refine' w_eqG ?_)
  | (with_reducible refine' w_neS ?_)
  | (with_reducible refine' w_eqS ?_)
  | (with_reducible refine' w_neSb ?_)
  | (with_reducible refine' w_eqSb ?_)
  | (with_reducible refine' w_deIS ?_)
  | (with_reducible refine' w_deSI ?_)
  | (with_reducible refine' w_deISn ?_)
  | ((with_reducible refine' w_deST ?he ?_); (case he => decide +kernel))
  | ((with_reducible refine' w_deSF ?he ?_); (case he => decide +kernel))
  | ((with_reducible refine' w_deSTn ?he ?_); (case he => decide +kernel))
  | ((with_reducible refine' w_deSFn ?he ?_); (case he => decide +kernel))
  | (with_reducible refine' w_nF ?_)
  | dsimp only [Bool.not_true, Bool.not_false])
local macro_rules | `(tactic| walk_at "ty") => `(tactic| first
  | exact .base (.int _) | exact .base (.str _) | exact .base (.bl _) | exact .base .non
  | ((refine' tyx_t ?hq); (case hq => walk_at "hp")) | ((refine' tyx_l ?hq); (case hq => walk_at "hp")) | ((refine' .base (.tup ?hq)); (case hq => walk_at "hp")) | assumption)
local macro_rules | `(tactic| walk_at "go") => `(tactic| repeat walk_at "go1")
local macro_rules | `(tactic| walk_at "st") => `(tactic| try dsimp only [cxOf, Cx.nox, Cx.wish])
local macro_rules | `(tactic| walk_at "kit") => `(tactic| with_reducible first | exact kit_int_int | exact kit_int_str | exact kit_int_bool | exact kit_int_tuple | exact kit_int_list | exact kit_str_int | exact kit_str_str | exact kit_str_bool | exact kit_str_tuple | exact kit_str_list | exact kit_bool_int | exact kit_bool_str | exact kit_bool_bool | exact kit_bool_tuple | exact kit_bool_list | exact kit_NoneType_int | exact kit_NoneType_str | exact kit_NoneType_bool | exact kit_NoneType_tuple | exact kit_NoneType_list | exact kit_list_int | exact kit_list_str | exact kit_list_bool | exact kit_list_tuple | exact kit_list_list | exact kit_tuple_int | exact kit_tuple_str | exact kit_tuple_bool | exact kit_tuple_tuple | exact kit_tuple_list)
local macro_rules | `(tactic| walk_at "nd") => `(tactic| first
  | assumption
  | exact Tm.nds _
  | exact Nds.nil
  | exact Nds.ofInts _
  | ((refine' Nds.cons ?na ?nb); (case na => first | exact Nds.I _ | exact Nds.L | exact Nds.A); (case nb => walk_at "nd"))
  | ((refine' Nds.app ?na ?nb); (case na => walk_at "nd"); (case nb => walk_at "nd"))
  | ((refine' Nds.rep ?na _); (case na => walk_at "nd")))
local macro_rules | `(tactic| walk_at "len") => `(tactic| first
  | exact ly_sz (by omega)
  | ((simp only [List.length_append, List.length_cons, List.length_nil, List.length_map, PyProof.Rows.lm_len_rep_flat]); exact ly_sz (by omega)))
local macro_rules | `(tactic| walk_at "go1") => `(tactic| first
  | (with_reducible refine' w_kget2 ?_)
  | (with_reducible refine' w_isRN ?_)
  | (with_reducible refine' w_isNN ?_)
  | (with_reducible refine' w_isIN ?_)
  | ((with_reducible refine' w_kg ?hd ?_); (case hd => assumption)))

section
variable {P : Program} {w : World} {K : PySem.W.Frag} {mg : Str → Option Value} {base : Heap} {tk : Nat → Tok} {cl : Nat → Addr}
def spSize (C : Addr) : Sp := fun vs H Q E => ∃ n : Int, vs = [.int n] ∧ (n ≤ 1000 → Q .non H) ∧ (¬ n ≤ 1000 → E (.ref C) none H)
theorem ok_check_size {f : Addr} {fd : FuncData} {k : Nat} (F : Fun K "check_size" "check_size" s_check_size f fd) (T : Txt w K mg tk cl) : FnOk P w K mg base (L2.CX P w) (k + 1) f fd ["size"] (spSize (cl 1)) := by
  refine F.okX sc_check_size (fun vs H Q E h => ?_) (fun cdv A outer s H vs Q E hr h => ?_)
  · obtain ⟨n, rfl, _⟩ := h
    rfl
  · obtain ⟨n, rfl, q, x⟩ := h
    refine ⟨_, (pss_one (ps_if (pt_cmpR op_gt (pv 0) (pe_glob (v := .int 1000) rfl T.g_MOST_NODES ⟨_, rfl⟩) (nomark _)) (pss_one (ps_raise rfl (takes_of rfl rfl rfl rfl) (SkE.pmk_own1 PySem.F.excBase_ValueError T.x_TooLarge T.g_TooLarge T.k_TooLarge (raises_own T.b_TooLarge T.t_TooLarge) rfl (pe_joined (.cons pe_str (.cons (pe_fmt (pe_glob (v := .int 1000) rfl T.g_MOST_NODES ⟨_, rfl⟩)) (.cons pe_str .nil))))))) pss_nil)), ?_⟩
    refine sl_of (σ2 := [some _]) rfl ?_
    walk_at "st"
    walk_at "go"
    refine w_br (fun h1 => ?_) (fun h1 => ?_)
    · walk_at "go"
      exact x (by omega)
    · walk_at "go"
      exact q (by omega)
def spChecked (K : PySem.W.Frag) (C : Addr) : Sp := fun vs H Q E => ∃ a xs, vs = [.ref a] ∧ SqT K H a xs ∧ Flat xs ∧ (fitsV xs = true → Q (.ref a) H) ∧ (fitsV xs = false → E (.ref C) none H)
theorem ok_checked {f : Addr} {fd : FuncData} (F : Fun K "checked" "checked" s_checked f fd) (T : Txt w K mg tk cl)
    (D1 : Def P w K mg base (L2.CX P w) 1 "check_size" ["size"] (spSize (cl 1))) : FnOk P w K mg base (L2.CX P w) 2 f fd ["term"] (spChecked K (cl 1)) := by
  obtain ⟨f1, fd1, g_check_size, kp_check_size, b_check_size, G_check_size⟩ := D1
  refine F.okX sc_checked (fun vs H Q E h => ?_) (fun cdv A outer s H vs Q E hr h => ?_)
  · obtain ⟨a, xs, rfl, _⟩ := h
    rfl
  · obtain ⟨a, xs, rfl, hS, hf, q, x⟩ := h
    refine ⟨_, (pss_cons (ps_expr (pe_call G_check_size (hr.mono (by first | decide | omega)) (by rfl) g_check_size kp_check_size b_check_size .nil (passes_call (takes_of rfl rfl rfl rfl) (fun _ _ _ _ h => h)) (pa_cons (pe_callB call_len_seq (by rfl) T.n_len (by decide +kernel) (pa_cons (pv 0) pa_nil)) pa_nil))) (pss_cons (ps_for (passes_of rfl) rfl (pi_tup (pv 0)) (pg_name (i := 1) sc_checked.nd rfl (.inl rfl)) (pss_one (ps_if (PW.pt (pw_and (pt_val (pe_callB call_isi (by rfl) T.n_isinstance (by decide +kernel) (pa_cons (pv 1) (pa_cons (pe_bltn (v := .ty "int") (by rfl) T.n_int (by decide +kernel) rfl) pa_nil)))) (pw_and1 (pt_cmpR op_gt (pv 1) (pe_glob (v := .int 1000000) rfl T.g_MOST_VARIABLE ⟨_, rfl⟩) (nomark _))))) (pss_one (ps_raise rfl (takes_of rfl rfl rfl rfl) (SkE.pmk_own1 PySem.F.excBase_ValueError T.x_TooLarge T.g_TooLarge T.k_TooLarge (raises_own T.b_TooLarge T.t_TooLarge) rfl (pe_joined (.cons pe_str (.cons (pe_fmt (pe_glob (v := .int 1000000) rfl T.g_MOST_VARIABLE ⟨_, rfl⟩)) .nil)))))) pss_nil))) (pss_one (ps_ret (pv 0))))), ?_⟩
    refine sl_of (σ2 := [some _, none]) rfl ?_
    walk_at "st"
    walk_at "go"
    refine ⟨_, rfl, fun h1 => ?_, fun h1 => x (by simp [fitsV]; omega)⟩
    have h2 : xs.length ≤ 1000 := by omega
    walk_at "go"
    refine for_tup (K := K) (a := a) (xs := xs) (fun i σ H' => H' = H ∧ ∃ y, σ = [some (.ref a), y] ∧ (xs.take i).all okV = true) ⟨rfl, none, rfl, rfl⟩ (fun i σ H' _ e => by rw [e.1]; exact hS) ?_ ?_
    · rintro i v σ H' hi ⟨rfl, y, rfl, hall⟩
      have hv : v ∈ xs := List.mem_of_getElem? hi
      have bad : okV v = false → fitsV xs = false := fun e => by
        have : xs.all okV = false := List.all_eq_false.mpr ⟨v, hv, by simp [e]⟩
        simp [fitsV, this]
      have good : okV v = true → (xs.take (i + 1)).all okV = true := fun e => by
        rw [List.take_add_one, hi, List.all_append, hall]
        simp [e]
      rcases hf v hv with ⟨j, rfl⟩ | ⟨z, rfl⟩
      · walk_at "go"
        refine w_br (fun h3 => ?_) (fun h3 => ?_)
        · walk_at "go"
          exact x (bad (by simp [okV]; omega))
        · walk_at "go"
          exact ⟨rfl, _, rfl, good (by simp [okV]; omega)⟩
      · walk_at "go"
        exact ⟨rfl, _, rfl, good rfl⟩
    · rintro σ H' ⟨rfl, y, rfl, hall⟩
      walk_at "go"
      rw [List.take_length] at hall
      exact q (by simp [fitsV, h2]; simpa using hall)
theorem ok_depths {f : Addr} {fd : FuncData} {k : Nat} (F : Fun K "depths" "depths" s_depths f fd) (T : Txt w K mg tk cl) : FnOk P w K mg base CX0 (k + 1) f fd ["term"] (spDepths K) := by
  refine F.ok sc_depths (fun vs H Q E h => ?_) (fun cdv A outer s H vs Q E hr h => ?_)
  · obtain ⟨a, t, rfl, _⟩ := h
    rfl
  · obtain ⟨a, t, rfl, hS, hlen, q⟩ := h
    refine ⟨_, (pss_cons (ps_set (i := 1) sc_depths.nd rfl (.inl rfl) (pe_lst pa_nil)) (pss_cons (ps_set (i := 2) sc_depths.nd rfl (.inl rfl) (pe_lst (pa_cons pe_int pa_nil))) (pss_cons (ps_for PassesOwn.never rfl (pi_tup (pv 0)) (pg_name (i := 3) sc_depths.nd rfl (.inl rfl)) (pss_cons (ps_set (i := 4) sc_depths.nd rfl (.inl rfl) (pe_bm0 PySem.F.plainAttrs_list PySem.F.slot_list_pop PySem.F.type_list_pop mt_pop (pv 2))) (pss_cons (ps_expr (pe_bm PySem.F.plainAttrs_list PySem.F.slot_list_append PySem.F.type_list_append mt_append (pv 1) (pa_cons (pv 4) pa_nil))) (pss_one (ps_if (pt_cmpR op_eq (pv 3) pe_str (nomark _)) (pss_one (ps_expr (pe_bm PySem.F.plainAttrs_list PySem.F.slot_list_append PySem.F.type_list_append mt_append (pv 2) (pa_cons (pe_op op_add (pv 4) pe_int) pa_nil)))) (pss_one (ps_if (pt_cmpR op_eq (pv 3) pe_str (nomark _)) (pss_cons (ps_expr (pe_bm PySem.F.plainAttrs_list PySem.F.slot_list_append PySem.F.type_list_append mt_append (pv 2) (pa_cons (pv 4) pa_nil))) (pss_one (ps_expr (pe_bm PySem.F.plainAttrs_list PySem.F.slot_list_append PySem.F.type_list_append mt_append (pv 2) (pa_cons (pv 4) pa_nil))))) pss_nil))))))) (pss_one (ps_ret (pv 1)))))), ?_⟩
    refine sl_of (σ2 := [some _, none, none, none, none]) rfl ?_
    walk_at "st"
    walk_at "go"
    intro fl hfl
    walk_at "go"
    intro wl hwl
    have hwf : wl ≠ fl := (ne_of_none upd_same hwl).symm
    have hwl0 : H wl = none := by
      rw [upd_ne hwf] at hwl
      exact hwl
    walk_at "go"
    refine for_tup (K := K) (a := a) (xs := t.enc) (fun i σ H' => ∃ found ds y1 y2, σ = [some (.ref a), some (.ref fl), some (.ref wl), y1, y2] ∧ Ex H H' ∧ H' fl = some (.lst (nums found)) ∧ H' wl = some (.lst (nums ds)) ∧ DInv t i found ds ∧ found.length = i ∧ ds.length ≤ i + 1)
      ⟨[], [0], none, none, rfl, by walk_at "ex", by walk_at "hp", upd_same, DInv.start t, rfl, by simp⟩ (fun i σ H' _ h => by obtain ⟨_, _, _, _, _, e, _⟩ := h; exact ex_t e hS) ?_ ?_
    · rintro i v σ H1 hi ⟨found, ds, y1, y2, rfl, e1, hf1, hw1, hinv, hfl1, hds1⟩
      have hlt : i < t.enc.length := (List.getElem?_eq_some_iff.mp hi).1
      obtain ⟨r, d, rfl, hstep⟩ := hinv.step hi
      have hw1b : H1 wl = some (.lst (nums r ++ [V.int d])) := by rw [hw1]; simp [nums]
      have el : (nums found).length = found.length := List.length_map _
      have el2 : (nums r).length = r.length := List.length_map _
      have hrl : r.length ≤ i := by simpa using hds1
      have ef : nums found ++ [V.int d] = nums (found ++ [d]) := by simp [nums]
      rcases hstep with ⟨n, rfl, hn⟩ | ⟨rfl, hn⟩ | ⟨rfl, hn⟩
      · walk_at "go"
        refine ⟨found ++ [d], r, _, _, rfl, by walk_at "ex", ?_, by walk_at "hp", hn, by simp [hfl1], by omega⟩
        rw [← ef]
        walk_at "hp"
      · walk_at "go"
        refine ⟨found ++ [d], r ++ [d + 1], _, _, rfl, by walk_at "ex", ?_, ?_, hn, by simp [hfl1], by simp; omega⟩
        · rw [← ef]
          walk_at "hp"
        · rw [upd_same]
          simp [nums]
      · walk_at "go"
        refine ⟨found ++ [d], r ++ [d] ++ [d], _, _, rfl, by walk_at "ex", ?_, ?_, hn, by simp [hfl1], by simp; omega⟩
        · rw [← ef]
          walk_at "hp"
        · rw [upd_same]
          simp [nums]
    · rintro σ H1 ⟨found, ds, y1, y2, rfl, e1, hf1, hw1, hinv, hfl1, hds1⟩
      walk_at "go"
      rw [hinv.done] at hf1
      exact q H1 fl e1 hfl hf1
end
end Ly
set_option Elab.async false
set_option linter.all false
set_option maxRecDepth 100000
set_option maxHeartbeats 8000000
namespace Ly
open PySem PySem.Spec PyProof.Rows L2 Evl
local macro_rules | `(tactic| walk_at "ne") => `(tactic| first
  | assumption
  | ((refine' Ne.symm ?hq); (case hq => assumption))
  | ((refine' ne_of_none ?nh1 ?nh2); (case nh2 => assumption); (case nh1 => walk_at "hp"))
  | ((refine' Ne.symm (ne_of_none ?nh1 ?nh2)); (case nh2 => assumption); (case nh1 => walk_at "hp")))
local macro_rules | `(tactic| walk_at "hp") => `(tactic| first
  | assumption
  | exact upd_same
  | ((refine' SqL.of ?hq); (case hq => walk_at "hp"))
  | ((refine' SqT.of ?hq); (case hq => walk_at "hp"))
  | ((refine' (upd_ne ?hne).trans ?hrest); (case hne => walk_at "ne"); (case hrest => walk_at "hp"))
  | ((refine' ly_at ?hex ?hh); (case hex => assumption); (case hh => walk_at "hp"))
  | ((refine' ly_atF ?hex ?hnn ?hh); (case hex => assumption); (case hh => walk_at "hp"); (case hnn => walk_at "ne"))
  | ((refine' ex_t ?hex ?hh); (case hh => assumption); (case hex => walk_at "ex"))
  | ((refine' ex_l ?hex ?hh); (case hh => assumption); (case hex => walk_at "ex")))
local macro_rules | `(tactic| walk_at "ex") => `(tactic| first
  | assumption
  | exact Ex.refl _
  | ((refine' ex_new ?xa ?xb); (case xb => assumption); (case xa => walk_at "ex"))
  | ((refine' ex_upd ?xa ?xb); (case xb => walk_at "free"); (case xa => walk_at "ex"))
  | ((refine' Ex.trans ?xa ?xb); (case xb => assumption); (case xa => walk_at "ex")))
local macro_rules | `(tactic| walk_at "free") => `(tactic| first
  | assumption
  | ((refine' fresh_back ?xa ?xb); (case xb => assumption); (case xa => walk_at "ex")))
local macro_rules | `(tactic| walk_at "fr") => `(tactic| first
  | assumption
  | exact Fr.refl _ _
  | ((refine' Fr.own ?hq); (case hq => walk_at "fr"))
  | ((refine' Fr.new ?xa ?xb); (case xb => assumption); (case xa => walk_at "fr"))
  | ((refine' Fr.mut ?xa ?xb); (case xb => assumption); (case xa => walk_at "fr"))
  | ((refine' Fr.trans ?xa ?xb); (case xb => assumption); (case xa => walk_at "fr"))
  | ((refine' Fr.trans ?xa (Fr.ex ?xb)); (case xb => assumption); (case xa => walk_at "fr")))
local macro_rules | `(tactic| walk_at "go1") => `(tactic| first
  | (with_reducible refine' w_seq ?_)
  | (with_reducible refine' w_asg ?_)
  | (with_reducible refine' w_ret ?_)
  | (with_reducible refine' w_drop ?_)
  | (with_reducible refine' w_if ?_)
  | (with_reducible refine' w_next ?_)
  | (with_reducible refine' w_name ?_)
  | (with_reducible refine' w_sub ?_)
  | ((with_reducible refine' w_var ?hv ?_); (case hv => exact rfl))
  | (with_reducible refine' w_c ?_)
  | (with_reducible refine' w_op ?_)
  | (with_reducible refine' w_un ?_)
  | (with_reducible refine' w_ch ?_)
  | (with_reducible refine' w_I0 ?_)
  | ((with_reducible refine' w_I ?hc ?_); (case hc => first | (exact ly_mulL (by decide) (by decide)) | (exact ly_mulR (by decide) (by decide)) | (exact ly_mulL (by omega) (by omega)) | (show (_ : Int) ≠ 0; decide) | (show (_ : Int) ≠ 0; omega) | (exact ⟨by decide, by decide⟩) | (exact ⟨by omega, by omega⟩)))
  | (with_reducible refine' w_U ?_)
  | ((with_reducible refine' w_eq ?hs ?_); (case hs => exact rfl))
  | ((with_reducible refine' w_ne ?hs ?_); (case hs => exact rfl))
  | (with_reducible refine' w_isB ?_)
  | (with_reducible refine' w_notB ?_)
  | (with_reducible refine' w_nil ?_)
  | (with_reducible refine' w_cons ?_)
  | (with_reducible refine' w_tup ?_)
  | (with_reducible refine' w_lst ?_)
  | (with_reducible refine' w_cb ?_)
  | (with_reducible refine' w_call ?_)
  | (with_reducible refine' w_bm ?_)
  | (with_reducible refine' w_bm0 ?_)
  | ((with_reducible refine' w_app ?hh ?hz ?_); (case hh => walk_at "hp"); (case hz => first | exact ly_lt (by omega) | exact ly_lt (by simp only [List.length_append, List.length_map, List.length_cons, List.length_nil]; omega)))
  | ((with_reducible refine' w_popA ?hh ?_); (case hh => walk_at "hp"))
  | ((with_reducible refine' w_ext ?hh ?hh2 ?hz ?_); (case hh => walk_at "hp"); (case hh2 => walk_at "hp"))
  | ((with_reducible refine' w_ixL ?hh ?ha ?_); (case hh => walk_at "hp"); (case ha => first | exact rfl | exact at_map (by omega) | exact atI_last _ _ | ((refine' at_of ?ae ?ah); (case ah => assumption); (case ae => omega))))
  | ((with_reducible refine' w_ixT ?hh ?ha ?_); (case hh => walk_at "hp"); (case ha => first | exact rfl | exact at_map (by omega) | exact atI_last _ _ | ((refine' at_of ?ae ?ah); (case ah => assumption); (case ae => omega))))
  | ((with_reducible refine' w_cat ?hh ?hh2 ?hz ?_); (case hh => walk_at "hp"); (case hh2 => walk_at "hp"))
  | ((with_reducible refine' w_setL ?hh ?ha ?_); (case hh => walk_at "hp"); (case ha => exact rfl))
  | (with_reducible refine' w_test ?_)
  | (with_reducible refine' w_tB ?_)
  | (with_reducible refine' w_bl ?_)
  | (with_reducible refine' w_and ?_)
  | (with_reducible refine' w_or ?_)
  | (with_reducible refine' w_not ?_)
  | (with_reducible refine' w_andV ?_)
  | (with_reducible refine' w_orV ?_)
  | (with_reducible refine' w_notV ?_)
  | (with_reducible refine' w_ifE ?_)
  | (with_reducible refine' w_for ?_)
  | ((with_reducible refine' w_nin ?hh ?_); (case hh => walk_at "hp"))
  | ((with_reducible refine' w_sorted ?hh ?_); (case hh => walk_at "hp"))
  | (with_reducible refine' w_tsadd ?_)
  | ((with_reducible refine' w_tsadd1 ?hh ?_); (case hh => walk_at "hp"))
  | ((with_reducible refine' w_sadd ?hh ?hr ?_); (case hh => walk_at "hp"); (case hr => omega))
  | (with_reducible refine' w_iZ ?_)
  | ((with_reducible refine' w_iZ1 ?hh ?hh2 ?_); (case hh => walk_at "hp"); (case hh2 => walk_at "hp"))
  | (with_reducible refine' w_iS ?_)
  | (with_reducible refine' w_iS1 ?_)
  | ((with_reducible refine' w_gtup ?hh ?hn ?_); (case hh => walk_at "hp"); (case hn => exact rfl))
  | (with_reducible refine' w_gcons ?_)
  | (with_reducible refine' w_gnil ?_)
  | (with_reducible refine' w_js ?_)
  | (with_reducible refine' w_jsn ?_)
  | ((with_reducible refine' w_js1 ?hl ?_); (case hl => decide +kernel))
  | (with_reducible refine' w_fmt ?_)
  | ((with_reducible refine' w_fmt1 ?hl ?_); (case hl => decide +kernel))
  | (with_reducible refine' w_callS ?_)
  | ((with_reducible refine' w_truL ?hh ?_); (case hh => walk_at "hp"))
  | (with_reducible refine' w_lc ?_)
  | (with_reducible refine' w_yes ?_)
  | ((with_reducible refine' w_wipe ?he ?_); (case he => exact rfl))
  | (with_reducible refine' w_iL ?_)
  | (with_reducible refine' w_iT ?_)
  | (with_reducible refine' w_iR ?_)
  | ((with_reducible refine' w_iL1 ?hh ?_); (case hh => walk_at "hp"))
  | ((with_reducible refine' w_iT1 ?hh ?_); (case hh => walk_at "hp"))
  | ((with_reducible refine' w_iR1 ?h1 ?h2 ?_); (case h1 => omega); (case h2 => omega))
  | ((with_reducible refine' w_aug ?hv ?_); (case hv => exact rfl))
  | (with_reducible refine' w_ipI ?_)
  | ((with_reducible refine' w_isi ?hy ?hk ?_); (case hy => walk_at "ty"); (case hk => walk_at "kit"))
  | ((with_reducible refine' w_int ?_))
  | ((with_reducible refine' w_intB ?_))
  | ((with_reducible refine' w_abs ?_))
  | ((with_reducible refine' w_lenL ?hh ?_); (case hh => walk_at "hp"))
  | ((with_reducible refine' w_lenT ?hh ?_); (case hh => walk_at "hp"))
  | ((with_reducible refine' w_tupL ?hh ?_); (case hh => walk_at "hp"))
  | ((with_reducible refine' w_tupT ?hh ?_); (case hh => walk_at "hp"))
  | ((with_reducible refine' w_catA ?hh ?hh2 ?hz ?_); (case hh => walk_at "hp"); (case hh2 => walk_at "hp"); (case hz => walk_at "len"))
  | ((with_reducible refine' w_repB ?hh ?hne ?h2 ?h3 ?hz ?_); (case hh => walk_at "hp"); (case hne => simp); (case h2 => omega); (case h3 => omega); (case hz => exact Nat.le_of_ble_eq_true rfl))
  | ((with_reducible refine' w_eqN ?hh ?hh2 ?n1 ?n2 ?_); (case hh => walk_at "hp"); (case hh2 => walk_at "hp"); (case n1 => walk_at "nd"); (case n2 => walk_at "nd"))
  | ((with_reducible refine' w_neN ?hh ?hh2 ?n1 ?n2 ?_); (case hh => walk_at "hp"); (case hh2 => walk_at "hp"); (case n1 => walk_at "nd"); (case n2 => walk_at "nd"))
  | ((with_reducible refine' w_eqL ?hh ?hh2 ?n1 ?n2 ?_); (case hh => walk_at "hp"); (case hh2 => walk_at "hp"); (case n1 => walk_at "nd"); (case n2 => walk_at "nd"))
  | ((with_reducible refine' w_neL ?hh ?hh2 ?n1 ?n2 ?_); (case hh => walk_at "hp"); (case hh2 => walk_at "hp"); (case n1 => walk_at "nd"); (case n2 => walk_at "nd"))
  | ((with_reducible refine' w_neNon ?hh2 ?n2 ?_); (case hh2 => walk_at "hp"); (case n2 => walk_at "nd"))
  | ((with_reducible refine' w_eqNon ?hh2 ?n2 ?_); (case hh2 => walk_at "hp"); (case n2 => walk_at "nd"))
  | ((with_reducible refine' w_slA ?hh ?_); (case hh => walk_at "hp"))
  | ((with_reducible refine' w_disp ?hz ?_); (case hz => exact sz_of (Nat.le_of_ble_eq_true rfl)))
  | ((with_reducible refine' w_tyL ?hh ?_); (case hh => walk_at "hp"))
  | (with_reducible refine' iteT ?_)
  | (with_reducible refine' iteF ?_)
  | (with_reducible refine' w_nT ?_)
  | (with_reducible refine' w_nn ?_)
  | (with_reducible refine' w_nnT ?_)
  | (with_reducible refine' w_nnR ?_)
  | (with_reducible refine' w_neG ?_)
  | (with_reducible refine' w_eqG ?_)
  | (with_reducible refine' w_neS ?_)
  | (with_reducible refine' w_eqS ?_)
  | (with_reducible refine' w_neSb ?_)
  | (with_reducible refine' w_eqSb ?_)
  | (with_reducible refine' w_deIS ?_)
  | (with_reducible refine' w_deSI ?_)
  | (with_reducible refine' w_deISn ?_)
  | ((with_reducible refine' w_deST ?he ?_); (case he => decide +kernel))
  | ((with_reducible refine' w_deSF ?he ?_); (case he => decide +kernel))
  | ((with_reducible refine' w_deSTn ?he ?_); (case he => decide +kernel))
  | ((with_reducible refine' w_deSFn ?he ?_); (case he => decide +kernel))
  | (with_reducible refine' w_nF ?_)
  | dsimp only [Bool.not_true, Bool.not_false])
local macro_rules | `(tactic| walk_at "ty") => `(tactic| first
  | exact .base (.int _) | exact .base (.str _) | exact .base (.bl _) | exact .base .non
  | ((refine' tyx_t ?hq); (case hq => walk_at "hp")) | ((refine' tyx_l ?hq); (case hq => walk_at "hp")) | ((refine' .base (.tup ?hq)); (case hq => walk_at "hp")) | assumption)
local macro_rules | `(tactic| walk_at "go") => `(tactic| repeat walk_at "go1")
local macro_rules | `(tactic| walk_at "st") => `(tactic| try dsimp only [cxOf, Cx.nox, Cx.wish])
local macro_rules | `(tactic| walk_at "kit") => `(tactic| with_reducible first | exact kit_int_int | exact kit_int_str | exact kit_int_bool | exact kit_int_tuple | exact kit_int_list | exact kit_str_int | exact kit_str_str | exact kit_str_bool | exact kit_str_tuple | exact kit_str_list | exact kit_bool_int | exact kit_bool_str | exact kit_bool_bool | exact kit_bool_tuple | exact kit_bool_list | exact kit_NoneType_int | exact kit_NoneType_str | exact kit_NoneType_bool | exact kit_NoneType_tuple | exact kit_NoneType_list | exact kit_list_int | exact kit_list_str | exact kit_list_bool | exact kit_list_tuple | exact kit_list_list | exact kit_tuple_int | exact kit_tuple_str | exact kit_tuple_bool | exact kit_tuple_tuple | exact kit_tuple_list)
local macro_rules | `(tactic| walk_at "nd") => `(tactic| first
  | assumption
  | exact Tm.nds _
  | exact Nds.nil
  | exact Nds.ofInts _
  | ((refine' Nds.cons ?na ?nb); (case na => first | exact Nds.I _ | exact Nds.L | exact Nds.A); (case nb => walk_at "nd"))
  | ((refine' Nds.app ?na ?nb); (case na => walk_at "nd"); (case nb => walk_at "nd"))
  | ((refine' Nds.rep ?na _); (case na => walk_at "nd")))
local macro_rules | `(tactic| walk_at "len") => `(tactic| first
  | exact ly_sz (by omega)
  | ((simp only [List.length_append, List.length_cons, List.length_nil, List.length_map, PyProof.Rows.lm_len_rep_flat]); exact ly_sz (by omega)))
local macro_rules | `(tactic| walk_at "go1") => `(tactic| first
  | (with_reducible refine' w_kget2 ?_)
  | (with_reducible refine' w_isRN ?_)
  | (with_reducible refine' w_isNN ?_)
  | (with_reducible refine' w_isIN ?_)
  | ((with_reducible refine' w_kg ?hd ?_); (case hd => assumption)))
local macro_rules | `(tactic| walk_at "go1") => `(tactic| first
  | ((with_reducible refine' w_extT ?hh ?hh2 ?hz ?_); (case hh => walk_at "hp"); (case hh2 => walk_at "hp"))
  | ((with_reducible refine' w_I ?hc ?_); (case hc => exact ⟨by decide, by decide, by decide⟩))
  | (with_reducible refine' w_sl ?_)
  | (with_reducible refine' w_noP ?_)
  | (with_reducible refine' w_part ?_)
  | (with_reducible refine' w_part1 ?_)
  | (with_reducible refine' w_it ?_)
  | (with_reducible refine' w_it1 ?_)
  | ((with_reducible refine' w_lenZ ?hz ?_); (case hz => omega))
  | ((with_reducible refine' w_addZb ?hz ?_); (case hz => omega))
  | ((with_reducible refine' w_addZf ?hz ?_); (case hz => omega))
  | ((with_reducible refine' w_addZa ?hz ?_); (case hz => omega))
  | ((with_reducible refine' w_inS ?hh ?_); (case hh => walk_at "hp"))
  | ((with_reducible refine' w_ixT ?hh ?ha ?_); (case hh => assumption); (case ha => exact atI_nat (by assumption))))
local macro_rules | `(tactic| walk_at "go1") => `(tactic| first
  | (with_reducible refine' w_iR2 ?_)
  | ((with_reducible refine' w_iR21 ?h1 ?h2 ?h3 ?h4 ?_); (case h1 => omega); (case h2 => omega); (case h3 => omega); (case h4 => omega))
  | (with_reducible refine' w_nnI ?_)
  | (with_reducible refine' w_max ?_)
  | (with_reducible refine' w_break ?_)
  | (with_reducible refine' w_cont ?_))
local macro_rules | `(tactic| walk_at "go1") => `(tactic| first
  | (with_reducible refine' w_tdget ?_)
  | (with_reducible refine' w_tdin ?_)
  | (with_reducible refine' w_tdnotin ?_)
  | (with_reducible refine' w_sdput ?_)
  | (with_reducible refine' w_tdsetd ?_)
  | (with_reducible refine' w_dnew ?_))
local macro_rules | `(tactic| walk_at "go1") => `(tactic| first
  | (with_reducible refine' w_iZL ?_)
  | (with_reducible refine' w_sfld ?_)
  | (with_reducible refine' w_tfld ?_)
  | (with_reducible refine' w_make ?_)
  | fail)
local macro_rules | `(tactic| walk_at "go1") => `(tactic| first
  | (with_reducible refine' w_sfa ?_)
  | (with_reducible refine' w_tmP ?_)
  | (with_reducible refine' w_tdget2 ?_))
section
variable {P : Program} {w : World} {K : PySem.W.Frag} {mg : Str → Option Value} {base : Heap} {tk : Nat → Tok} {cl : Nat → Addr}
def spLvInit (C : Addr) : Sp := fun vs H Q _ => ∃ (x dx : Addr) (o : Str) (H0 : Hp) (F : Fp), vs = [.ref x, .str o] ∧ Own H0 H ((x, .ins C dx []) :: F) ∧ ∀ H' nl dl, Own H0 H' (lvFp C (x, dx, nl, dl) (Lv.new o) ++ F) → Q .non H'
theorem ok_lvinit {f : Addr} {fd : FuncData} {k : Nat} (F : Fun K "__init__" "Level.__init__" s_Level_init f fd) (T : Txt w K mg tk cl) : FnOk P w K mg base CX0 (k + 1) f fd ["self", "opener"] (spLvInit (cl 21)) := by
  refine F.ok sc_Level_init (fun vs H Q E h => ?_) (fun cdv A outer s H vs Q E hr h => ?_)
  · obtain ⟨_, _, _, _, _, rfl, _⟩ := h
    rfl
  · obtain ⟨x, dx, o, H0, F, rfl, ow, q⟩ := h
    refine ⟨_, (pss_cons (ps_fld (pv 0) (pv 1) rfl) (pss_cons (ps_fld (pv 0) (pe_cmpR op_eq (pv 1) pe_str (nomark _)) rfl) (pss_cons (ps_fld (pv 0) (pe_lst pa_nil) rfl) (pss_cons (ps_fld (pv 0) pe_int rfl) (pss_one (ps_fld (pv 0) (pe_lst pa_nil) rfl)))))), ?_⟩
    refine sl_of (σ2 := [some _, some _]) rfl ?_
    walk_at "st"
    walk_at "go"
    refine ⟨x, cl 21, dx, [], rfl, ow.at List.mem_cons_self, T.cls_Level, T.nf_Level_opener, by show 0 < 1000; decide, ?_⟩
    have ow := ow.put (u := .ins (cl 21) dx [("opener", .str o)])
    walk_at "go"
    refine ⟨x, cl 21, dx, [("opener", .str o)], rfl, ow.at List.mem_cons_self, T.cls_Level, T.nf_Level_naming, by show 1 < 1000; decide, ?_⟩
    have ow := ow.put (u := .ins (cl 21) dx [("opener", .str o), ("naming", .bl (decide (V.str o = V.str "\\")))])
    walk_at "go"
    intro nl hnl
    have ow := ow.new (u := .lst []) hnl
    have ow := ow.perm (List.Perm.swap ..)
    walk_at "go"
    refine ⟨x, cl 21, dx, [("opener", .str o), ("naming", .bl (decide (V.str o = V.str "\\")))], rfl, ow.at List.mem_cons_self, T.cls_Level, T.nf_Level_names, by show 2 < 1000; decide, ?_⟩
    have ow := ow.put (u := .ins (cl 21) dx [("opener", .str o), ("naming", .bl (decide (V.str o = V.str "\\"))), ("names", .ref nl)])
    walk_at "go"
    refine ⟨x, cl 21, dx, [("opener", .str o), ("naming", .bl (decide (V.str o = V.str "\\"))), ("names", .ref nl)], rfl, ow.at List.mem_cons_self, T.cls_Level, T.nf_Level_parts, by show 3 < 1000; decide, ?_⟩
    have ow := ow.put (u := .ins (cl 21) dx [("opener", .str o), ("naming", .bl (decide (V.str o = V.str "\\"))), ("names", .ref nl), ("parts", .int 0)])
    walk_at "go"
    intro dl hdl
    have ow := ow.new (u := .lst []) hdl
    have ow := ow.perm (List.Perm.swap ..)
    walk_at "go"
    refine ⟨x, cl 21, dx, [("opener", .str o), ("naming", .bl (decide (V.str o = V.str "\\"))), ("names", .ref nl), ("parts", .int 0)], rfl, ow.at List.mem_cons_self, T.cls_Level, T.nf_Level_nodes, by show 4 < 1000; decide, ?_⟩
    have ow := ow.put (u := .ins (cl 21) dx [("opener", .str o), ("naming", .bl (decide (V.str o = V.str "\\"))), ("names", .ref nl), ("parts", .int 0), ("nodes", .ref dl)])
    refine q _ nl dl ?_
    have e : decide (V.str o = V.str "\\") = decide (o = "\\") := by
      by_cases h : o = "\\"
      · rw [h, decide_eq_true rfl, decide_eq_true rfl]
      · rw [decide_eq_false h, decide_eq_false (fun z => h (V.str.inj z))]
    rw [e] at ow
    have ow := ow.perm (List.Perm.cons _ (List.Perm.swap ..))
    rw [e]
    exact ow
def spLvWhole (C : Addr) : Sp := fun vs H Q _ => ∃ (x dx nl dl : Addr) (l : Lv), vs = [.ref x] ∧ H x = some (.ins C dx (lvFs l nl dl)) ∧ Q (.bl l.whole) H
theorem ok_lvwhole {f : Addr} {fd : FuncData} {k : Nat} (F : Fun K "is_whole" "Level.is_whole" s_Level_is_whole f fd) (T : Txt w K mg tk cl) : FnOk P w K mg base CX0 (k + 1) f fd ["self"] (spLvWhole (cl 21)) := by
  refine F.ok sc_Level_is_whole (fun vs H Q E h => ?_) (fun cdv A outer s H vs Q E hr h => ?_)
  · obtain ⟨_, _, _, _, _, rfl, _⟩ := h
    rfl
  · obtain ⟨x, dx, nl, dl, l, rfl, hx, q⟩ := h
    refine ⟨_, (pss_one (ps_ret (pe_and (pe_not (pe_fld (pv 0) rfl)) (pe_one (pe_cmpR op_gt (pe_fld (pv 0) rfl) pe_int (nomark _)))))), ?_⟩
    refine sl_of (σ2 := [some _]) rfl ?_
    walk_at "st"
    walk_at "go"
    refine ⟨x, cl 21, dx, _, _, rfl, hx, T.cls_Level, T.nf_Level_naming, (by rfl : List.lookup ("naming" : Str) (lvFs l nl dl) = some (.bl l.nm)), ?_⟩
    walk_at "go"
    unfold Lv.whole at q
    cases hn : l.nm with
    | true =>
      rw [hn] at q
      exact iteF q
    | false =>
      rw [hn] at q
      refine iteT ?_
      walk_at "go"
      refine ⟨x, cl 21, dx, _, _, rfl, hx, T.cls_Level, T.nf_Level_parts, (by rfl : List.lookup ("parts" : Str) (lvFs l nl dl) = some (.int (l.pt : Int))), ?_⟩
      walk_at "go"
      have e : decide ((0 : Int) < (l.pt : Int)) = decide (0 < l.pt) := by
        by_cases h : 0 < l.pt
        · rw [decide_eq_true h, decide_eq_true (by omega)]
        · rw [decide_eq_false h, decide_eq_false (by omega)]
      first | (rw [e]; exact q) | (rw [show decide ((l.pt : Int) > 0) = decide (0 < l.pt) from e]; exact q)
def spLvAdd (C : Addr) : Sp := fun vs H Q _ => ∃ (x dx nl dl p : Addr) (l : Lv) (xs : List V) (H0 : Hp) (F : Fp), vs = [.ref x, .ref p] ∧ Own H0 H (lvFp C (x, dx, nl, dl) l ++ F) ∧ H p = some (.lst xs) ∧ p ≠ dl ∧ l.nd.length + xs.length ≤ 1000000 ∧
  ∀ H', Own H0 H' (lvFp C (x, dx, nl, dl) (l.add xs) ++ F) → Q .non H'
theorem ok_lvadd {f : Addr} {fd : FuncData} {k : Nat} (F : Fun K "add_part" "Level.add_part" s_Level_add_part f fd) (T : Txt w K mg tk cl) : FnOk P w K mg base CX0 (k + 1) f fd ["self", "nodes"] (spLvAdd (cl 21)) := by
  refine F.ok sc_Level_add_part (fun vs H Q E h => ?_) (fun cdv A outer s H vs Q E hr h => ?_)
  · obtain ⟨_, _, _, _, _, _, _, _, _, rfl, _⟩ := h
    rfl
  · obtain ⟨x, dx, nl, dl, p, l, xs, H0, F, rfl, ow, hp, hpd, hz, q⟩ := h
    refine ⟨_, (pss_cons (ps_fldaug (pv 0) pe_int in_add) (pss_one (ps_expr (pe_bm PySem.F.plainAttrs_list PySem.F.slot_list_extend PySem.F.type_list_extend mt_extend (pe_fld (pv 0) rfl) (pa_cons (pv 1) pa_nil))))), ?_⟩
    refine sl_of (σ2 := [some _, some _]) rfl ?_
    walk_at "st"
    walk_at "go"
    have hx : H x = some (.ins (cl 21) dx (lvFs l nl dl)) := ow.at (by simp [lvFp])
    have hpx : p ≠ x := ne_of hp hx (fun z => by cases z)
    refine ⟨x, cl 21, dx, _, _, rfl, hx, T.cls_Level, T.nf_Level_parts, (by rfl : List.lookup ("parts" : Str) (lvFs l nl dl) = some (.int (l.pt : Int))), ?_⟩
    refine ⟨_, _, rfl, rfl, ?_⟩
    refine ⟨dx, _, hx, by show 5 < 1000; decide, ?_⟩
    have ow := ow.put (u := .ins (cl 21) dx (putF "parts" (.int ((l.pt : Int) + 1)) (lvFs l nl dl)))
    have hx1 := ow.at List.mem_cons_self
    have hp1 : upd H x (.ins (cl 21) dx (putF "parts" (.int ((l.pt : Int) + 1)) (lvFs l nl dl))) p = some (.lst xs) := by rw [upd_ne hpx]; exact hp
    walk_at "go"
    refine ⟨x, cl 21, dx, _, _, rfl, hx1, T.cls_Level, T.nf_Level_nodes, (by rfl : List.lookup ("nodes" : Str) (putF "parts" (.int ((l.pt : Int) + 1)) (lvFs l nl dl)) = some (.ref dl)), ?_⟩
    have hd1 := ow.at (a := dl) (o := .lst l.nd) (by simp [lvFp])
    refine w_tyL (SqL.of hd1) ?_
    walk_at "go"
    · exact Nat.le_of_lt (ly_lt (by omega))
    have ow := Own.set 2 (u := .lst (l.nd ++ xs)) ow (by rfl)
    walk_at "go"
    exact q _ ow
def spLvAll (C : Addr) : Sp := fun vs H Q _ => ∃ (x dx nl dl : Addr) (l : Lv), vs = [.ref x] ∧ H x = some (.ins C dx (lvFs l nl dl)) ∧ H nl = some (.lst (txts l.ns)) ∧ H dl = some (.lst l.nd) ∧ l.size ≤ 1000000 ∧ ∀ H' p, Ex H H' → H p = none → H' p = some (.lst l.all) → Q (.ref p) H'
theorem ok_lvall {f : Addr} {fd : FuncData} {k : Nat} (F : Fun K "all_nodes" "Level.all_nodes" s_Level_all_nodes f fd) (T : Txt w K mg tk cl) : FnOk P w K mg base CX0 (k + 1) f fd ["self"] (spLvAll (cl 21)) := by
  refine F.ok sc_Level_all_nodes (fun vs H Q E h => ?_) (fun cdv A outer s H vs Q E hr h => ?_)
  · obtain ⟨_, _, _, _, _, rfl, _⟩ := h
    rfl
  · obtain ⟨x, dx, nl, dl, l, rfl, hx, hn, hd, hz, q⟩ := h
    refine ⟨_, (pss_one (ps_ret (pe_op op_cat (pe_op op_cat (pe_op op_rep (pe_lst (pa_cons pe_str pa_nil)) (pe_callB call_len_seq (by rfl) T.n_len (by decide +kernel) (pa_cons (pe_fld (pv 0) rfl) pa_nil))) (pe_op op_rep (pe_lst (pa_cons pe_str pa_nil)) (pe_op op_sub (pe_fld (pv 0) rfl) pe_int))) (pe_fld (pv 0) rfl)))), ?_⟩
    refine sl_of (σ2 := [some _]) rfl ?_
    walk_at "st"
    walk_at "go"
    intro p1 hp1
    walk_at "go"
    have hx1 : upd H p1 (.lst [V.str "lam"]) x = some (.ins (cl 21) dx (lvFs l nl dl)) := by walk_at "hp"
    refine ⟨x, cl 21, dx, _, _, rfl, hx1, T.cls_Level, T.nf_Level_names, (by rfl : List.lookup ("names" : Str) (lvFs l nl dl) = some (.ref nl)), ?_⟩
    have hn1 : upd H p1 (.lst [V.str "lam"]) nl = some (.lst (txts l.ns)) := by walk_at "hp"
    walk_at "go"
    have hz2 := hz
    unfold Lv.size at hz2
    refine ⟨p1, _, _, rfl, rfl, upd_same, by omega, by simp; omega, by simp; exact Nat.le_of_lt (ly_lt (by omega)), fun p2 hp2 => ?_⟩
    walk_at "go"
    intro p3 hp3
    have e3 : Ex H (upd (upd (upd H p1 (.lst [V.str "lam"])) p2 (.lst (List.replicate ((txts l.ns).length : Int).toNat [V.str "lam"]).flatten)) p3 (.lst [V.str "app"])) := by walk_at "ex"
    have hx3 := e3 _ _ hx
    have h23 : upd (upd (upd H p1 (.lst [V.str "lam"])) p2 (.lst (List.replicate ((txts l.ns).length : Int).toNat [V.str "lam"]).flatten)) p3 (.lst [V.str "app"]) p2 = some (.lst (List.replicate ((txts l.ns).length : Int).toNat [V.str "lam"]).flatten) := by walk_at "hp"
    have h33 : upd (upd (upd H p1 (.lst [V.str "lam"])) p2 (.lst (List.replicate ((txts l.ns).length : Int).toNat [V.str "lam"]).flatten)) p3 (.lst [V.str "app"]) p3 = some (.lst [V.str "app"]) := upd_same
    generalize upd (upd (upd H p1 (.lst [V.str "lam"])) p2 (.lst (List.replicate ((txts l.ns).length : Int).toNat [V.str "lam"]).flatten)) p3 (.lst [V.str "app"]) = H3 at *
    walk_at "go"
    refine ⟨x, cl 21, dx, _, _, rfl, hx3, T.cls_Level, T.nf_Level_parts, (by rfl : List.lookup ("parts" : Str) (lvFs l nl dl) = some (.int (l.pt : Int))), ?_⟩
    walk_at "go"
    refine ⟨p3, _, _, rfl, rfl, h33, by omega, by omega, by rw [show ((l.pt : Int) - 1).toNat = l.pt - 1 by omega]; exact Nat.le_of_lt (ly_lt (by simp; omega)), fun p4 hp4 => ?_⟩
    have h24 : upd H3 p4 (.lst (List.replicate ((l.pt : Int) - 1).toNat [V.str "app"]).flatten) p2 = some (.lst (List.replicate ((txts l.ns).length : Int).toNat [V.str "lam"]).flatten) := by walk_at "hp"
    have h44 : upd H3 p4 (.lst (List.replicate ((l.pt : Int) - 1).toNat [V.str "app"]).flatten) p4 = some (.lst (List.replicate ((l.pt : Int) - 1).toNat [V.str "app"]).flatten) := upd_same
    have e4 : Ex H (upd H3 p4 (.lst (List.replicate ((l.pt : Int) - 1).toNat [V.str "app"]).flatten)) := by walk_at "ex"
    have hx4 := e4 _ _ hx
    have hd4 := e4 _ _ hd
    generalize upd H3 p4 (.lst (List.replicate ((l.pt : Int) - 1).toNat [V.str "app"]).flatten) = H4 at *
    walk_at "go"
    · rw [show ((l.pt : Int) - 1).toNat = l.pt - 1 by omega]
      exact Nat.le_of_lt (ly_lt (by simp; omega))
    intro p5 hp5
    have h55 : upd H4 p5 (.lst ((List.replicate ((txts l.ns).length : Int).toNat [V.str "lam"]).flatten ++ (List.replicate ((l.pt : Int) - 1).toNat [V.str "app"]).flatten)) p5 = some (.lst ((List.replicate ((txts l.ns).length : Int).toNat [V.str "lam"]).flatten ++ (List.replicate ((l.pt : Int) - 1).toNat [V.str "app"]).flatten)) := upd_same
    have e5 := e4.trans (Ex.new hp5 (o := .lst ((List.replicate ((txts l.ns).length : Int).toNat [V.str "lam"]).flatten ++ (List.replicate ((l.pt : Int) - 1).toNat [V.str "app"]).flatten)))
    have hx5 := e5 _ _ hx
    have hd5 := e5 _ _ hd
    generalize upd H4 p5 (.lst ((List.replicate ((txts l.ns).length : Int).toNat [V.str "lam"]).flatten ++ (List.replicate ((l.pt : Int) - 1).toNat [V.str "app"]).flatten)) = H5 at *
    walk_at "go"
    refine ⟨x, cl 21, dx, _, _, rfl, hx5, T.cls_Level, T.nf_Level_nodes, (by rfl : List.lookup ("nodes" : Str) (lvFs l nl dl) = some (.ref dl)), ?_⟩
    walk_at "go"
    · rw [show ((l.pt : Int) - 1).toNat = l.pt - 1 by omega]
      exact Nat.le_of_lt (ly_lt (by simp; omega))
    intro p6 hp6
    have ev : (List.replicate ((txts l.ns).length : Int).toNat [V.str "lam"]).flatten ++ (List.replicate ((l.pt : Int) - 1).toNat [V.str "app"]).flatten ++ l.nd = l.all := by
      unfold Lv.all
      rw [Int.toNat_natCast, show ((l.pt : Int) - 1).toNat = l.pt - 1 by omega, List.length_map]
      simp
    rw [ev]
    exact q _ p6 (e5.trans (Ex.new hp6)) (fresh_back e5 hp6) upd_same
end
end Ly
set_option Elab.async false
set_option linter.all false
set_option maxRecDepth 100000
set_option maxHeartbeats 8000000
namespace Ly
open PySem PySem.Spec PyProof.Rows L2 Evl
local macro_rules | `(tactic| walk_at "ne") => `(tactic| first
  | assumption
  | ((refine' Ne.symm ?hq); (case hq => assumption))
  | ((refine' ne_of_none ?nh1 ?nh2); (case nh2 => assumption); (case nh1 => walk_at "hp"))
  | ((refine' Ne.symm (ne_of_none ?nh1 ?nh2)); (case nh2 => assumption); (case nh1 => walk_at "hp")))
local macro_rules | `(tactic| walk_at "hp") => `(tactic| first
  | assumption
  | exact upd_same
  | ((refine' SqL.of ?hq); (case hq => walk_at "hp"))
  | ((refine' SqT.of ?hq); (case hq => walk_at "hp"))
  | ((refine' (upd_ne ?hne).trans ?hrest); (case hne => walk_at "ne"); (case hrest => walk_at "hp"))
  | ((refine' ly_at ?hex ?hh); (case hex => assumption); (case hh => walk_at "hp"))
  | ((refine' ly_atF ?hex ?hnn ?hh); (case hex => assumption); (case hh => walk_at "hp"); (case hnn => walk_at "ne"))
  | ((refine' ex_t ?hex ?hh); (case hh => assumption); (case hex => walk_at "ex"))
  | ((refine' ex_l ?hex ?hh); (case hh => assumption); (case hex => walk_at "ex")))
local macro_rules | `(tactic| walk_at "ex") => `(tactic| first
  | assumption
  | exact Ex.refl _
  | ((refine' ex_new ?xa ?xb); (case xb => assumption); (case xa => walk_at "ex"))
  | ((refine' ex_upd ?xa ?xb); (case xb => walk_at "free"); (case xa => walk_at "ex"))
  | ((refine' Ex.trans ?xa ?xb); (case xb => assumption); (case xa => walk_at "ex")))
local macro_rules | `(tactic| walk_at "free") => `(tactic| first
  | assumption
  | ((refine' fresh_back ?xa ?xb); (case xb => assumption); (case xa => walk_at "ex")))
local macro_rules | `(tactic| walk_at "fr") => `(tactic| first
  | assumption
  | exact Fr.refl _ _
  | ((refine' Fr.own ?hq); (case hq => walk_at "fr"))
  | ((refine' Fr.new ?xa ?xb); (case xb => assumption); (case xa => walk_at "fr"))
  | ((refine' Fr.mut ?xa ?xb); (case xb => assumption); (case xa => walk_at "fr"))
  | ((refine' Fr.trans ?xa ?xb); (case xb => assumption); (case xa => walk_at "fr"))
  | ((refine' Fr.trans ?xa (Fr.ex ?xb)); (case xb => assumption); (case xa => walk_at "fr")))
local macro_rules | `(tactic| walk_at "go1") => `(tactic| first
  | (with_reducible refine' w_seq ?_)
  | (with_reducible refine' w_asg ?_)
  | (with_reducible refine' w_ret ?_)
  | (with_reducible refine' w_drop ?_)
  | (with_reducible refine' w_if ?_)
  | (with_reducible refine' w_next ?_)
  | (with_reducible refine' w_name ?_)
  | (with_reducible refine' w_sub ?_)
  | ((with_reducible refine' w_var ?hv ?_); (case hv => exact rfl))
  | (with_reducible refine' w_c ?_)
  | (with_reducible refine' w_op ?_)
  | (with_reducible refine' w_un ?_)
  | (with_reducible refine' w_ch ?_)
  | (with_reducible refine' w_I0 ?_)
  | ((with_reducible refine' w_I ?hc ?_); (case hc => first | (exact ly_mulL (by decide) (by decide)) | (exact ly_mulR (by decide) (by decide)) | (exact ly_mulL (by omega) (by omega)) | (show (_ : Int) ≠ 0; decide) | (show (_ : Int) ≠ 0; omega) | (exact ⟨by decide, by decide⟩) | (exact ⟨by omega, by omega⟩)))
  | (with_reducible refine' w_U ?_)
  | ((with_reducible refine' w_eq ?hs ?_); (case hs => exact rfl))
  | ((with_reducible refine' w_ne ?hs ?_); (case hs => exact rfl))
  | (with_reducible refine' w_isB ?_)
  | (with_reducible refine' w_notB ?_)
  | (with_reducible refine' w_nil ?_)
  | (with_reducible refine' w_cons ?_)
  | (with_reducible refine' w_tup ?_)
  | (with_reducible refine' w_lst ?_)
  | (with_reducible refine' w_cb ?_)
  | (with_reducible refine' w_call ?_)
  | (with_reducible refine' w_bm ?_)
  | (with_reducible refine' w_bm0 ?_)
  | ((with_reducible refine' w_app ?hh ?hz ?_); (case hh => walk_at "hp"); (case hz => first | exact ly_lt (by omega) | exact ly_lt (by simp only [List.length_append, List.length_map, List.length_cons, List.length_nil]; omega)))
  | ((with_reducible refine' w_popA ?hh ?_); (case hh => walk_at "hp"))
  | ((with_reducible refine' w_ext ?hh ?hh2 ?hz ?_); (case hh => walk_at "hp"); (case hh2 => walk_at "hp"))
  | ((with_reducible refine' w_ixL ?hh ?ha ?_); (case hh => walk_at "hp"); (case ha => first | exact rfl | exact at_map (by omega) | exact atI_last _ _ | ((refine' at_of ?ae ?ah); (case ah => assumption); (case ae => omega))))
  | ((with_reducible refine' w_ixT ?hh ?ha ?_); (case hh => walk_at "hp"); (case ha => first | exact rfl | exact at_map (by omega) | exact atI_last _ _ | ((refine' at_of ?ae ?ah); (case ah => assumption); (case ae => omega))))
  | ((with_reducible refine' w_cat ?hh ?hh2 ?hz ?_); (case hh => walk_at "hp"); (case hh2 => walk_at "hp"))
  | ((with_reducible refine' w_setL ?hh ?ha ?_); (case hh => walk_at "hp"); (case ha => exact rfl))
  | (with_reducible refine' w_test ?_)
  | (with_reducible refine' w_tB ?_)
  | (with_reducible refine' w_bl ?_)
  | (with_reducible refine' w_and ?_)
  | (with_reducible refine' w_or ?_)
  | (with_reducible refine' w_not ?_)
  | (with_reducible refine' w_andV ?_)
  | (with_reducible refine' w_orV ?_)
  | (with_reducible refine' w_notV ?_)
  | (with_reducible refine' w_ifE ?_)
  | (with_reducible refine' w_for ?_)
  | ((with_reducible refine' w_nin ?hh ?_); (case hh => walk_at "hp"))
  | ((with_reducible refine' w_sorted ?hh ?_); (case hh => walk_at "hp"))
  | (with_reducible refine' w_tsadd ?_)
  | ((with_reducible refine' w_tsadd1 ?hh ?_); (case hh => walk_at "hp"))
  | ((with_reducible refine' w_sadd ?hh ?hr ?_); (case hh => walk_at "hp"); (case hr => omega))
  | (with_reducible refine' w_iZ ?_)
  | ((with_reducible refine' w_iZ1 ?hh ?hh2 ?_); (case hh => walk_at "hp"); (case hh2 => walk_at "hp"))
  | (with_reducible refine' w_iS ?_)
  | (with_reducible refine' w_iS1 ?_)
  | ((with_reducible refine' w_gtup ?hh ?hn ?_); (case hh => walk_at "hp"); (case hn => exact rfl))
  | (with_reducible refine' w_gcons ?_)
  | (with_reducible refine' w_gnil ?_)
  | (with_reducible refine' w_js ?_)
  | (with_reducible refine' w_jsn ?_)
  | ((with_reducible refine' w_js1 ?hl ?_); (case hl => decide +kernel))
  | (with_reducible refine' w_fmt ?_)
  | ((with_reducible refine' w_fmt1 ?hl ?_); (case hl => decide +kernel))
  | (with_reducible refine' w_callS ?_)
  | ((with_reducible refine' w_truL ?hh ?_); (case hh => walk_at "hp"))
  | (with_reducible refine' w_lc ?_)
  | (with_reducible refine' w_yes ?_)
  | ((with_reducible refine' w_wipe ?he ?_); (case he => exact rfl))
  | (with_reducible refine' w_iL ?_)
  | (with_reducible refine' w_iT ?_)
  | (with_reducible refine' w_iR ?_)
  | ((with_reducible refine' w_iL1 ?hh ?_); (case hh => walk_at "hp"))
  | ((with_reducible refine' w_iT1 ?hh ?_); (case hh => walk_at "hp"))
  | ((with_reducible refine' w_iR1 ?h1 ?h2 ?_); (case h1 => omega); (case h2 => omega))
  | ((with_reducible refine' w_aug ?hv ?_); (case hv => exact rfl))
  | (with_reducible refine' w_ipI ?_)
  | ((with_reducible refine' w_isi ?hy ?hk ?_); (case hy => walk_at "ty"); (case hk => walk_at "kit"))
  | ((with_reducible refine' w_int ?_))
  | ((with_reducible refine' w_intB ?_))
  | ((with_reducible refine' w_abs ?_))
  | ((with_reducible refine' w_lenL ?hh ?_); (case hh => walk_at "hp"))
  | ((with_reducible refine' w_lenT ?hh ?_); (case hh => walk_at "hp"))
  | ((with_reducible refine' w_tupL ?hh ?_); (case hh => walk_at "hp"))
  | ((with_reducible refine' w_tupT ?hh ?_); (case hh => walk_at "hp"))
  | ((with_reducible refine' w_catA ?hh ?hh2 ?hz ?_); (case hh => walk_at "hp"); (case hh2 => walk_at "hp"); (case hz => walk_at "len"))
  | ((with_reducible refine' w_repB ?hh ?hne ?h2 ?h3 ?hz ?_); (case hh => walk_at "hp"); (case hne => simp); (case h2 => omega); (case h3 => omega); (case hz => exact Nat.le_of_ble_eq_true rfl))
  | ((with_reducible refine' w_eqN ?hh ?hh2 ?n1 ?n2 ?_); (case hh => walk_at "hp"); (case hh2 => walk_at "hp"); (case n1 => walk_at "nd"); (case n2 => walk_at "nd"))
  | ((with_reducible refine' w_neN ?hh ?hh2 ?n1 ?n2 ?_); (case hh => walk_at "hp"); (case hh2 => walk_at "hp"); (case n1 => walk_at "nd"); (case n2 => walk_at "nd"))
  | ((with_reducible refine' w_eqL ?hh ?hh2 ?n1 ?n2 ?_); (case hh => walk_at "hp"); (case hh2 => walk_at "hp"); (case n1 => walk_at "nd"); (case n2 => walk_at "nd"))
  | ((with_reducible refine' w_neL ?hh ?hh2 ?n1 ?n2 ?_); (case hh => walk_at "hp"); (case hh2 => walk_at "hp"); (case n1 => walk_at "nd"); (case n2 => walk_at "nd"))
  | ((with_reducible refine' w_neNon ?hh2 ?n2 ?_); (case hh2 => walk_at "hp"); (case n2 => walk_at "nd"))
  | ((with_reducible refine' w_eqNon ?hh2 ?n2 ?_); (case hh2 => walk_at "hp"); (case n2 => walk_at "nd"))
  | ((with_reducible refine' w_slA ?hh ?_); (case hh => walk_at "hp"))
  | ((with_reducible refine' w_disp ?hz ?_); (case hz => exact sz_of (Nat.le_of_ble_eq_true rfl)))
  | ((with_reducible refine' w_tyL ?hh ?_); (case hh => walk_at "hp"))
  | (with_reducible refine' iteT ?_)
  | (with_reducible refine' iteF ?_)
  | (with_reducible refine' w_nT ?_)
  | (with_reducible refine' w_nn ?_)
  | (with_reducible refine' w_nnT ?_)
  | (with_reducible refine' w_nnR ?_)
  | (with_reducible refine' w_neG ?_)
  | (with_reducible refine' w_eqG ?_)
  | (with_reducible refine' w_neS ?_)
  | (with_reducible refine' w_eqS ?_)
  | (with_reducible refine' w_neSb ?_)
  | (with_reducible refine' w_eqSb ?_)
  | (with_reducible refine' w_deIS ?_)
  | (with_reducible refine' w_deSI ?_)
  | (with_reducible refine' w_deISn ?_)
  | ((with_reducible refine' w_deST ?he ?_); (case he => decide +kernel))
  | ((with_reducible refine' w_deSF ?he ?_); (case he => decide +kernel))
  | ((with_reducible refine' w_deSTn ?he ?_); (case he => decide +kernel))
  | ((with_reducible refine' w_deSFn ?he ?_); (case he => decide +kernel))
  | (with_reducible refine' w_nF ?_)
  | dsimp only [Bool.not_true, Bool.not_false])
local macro_rules | `(tactic| walk_at "ty") => `(tactic| first
  | exact .base (.int _) | exact .base (.str _) | exact .base (.bl _) | exact .base .non
  | ((refine' tyx_t ?hq); (case hq => walk_at "hp")) | ((refine' tyx_l ?hq); (case hq => walk_at "hp")) | ((refine' .base (.tup ?hq)); (case hq => walk_at "hp")) | assumption)
local macro_rules | `(tactic| walk_at "go") => `(tactic| repeat walk_at "go1")
local macro_rules | `(tactic| walk_at "st") => `(tactic| try dsimp only [cxOf, Cx.nox, Cx.wish])
local macro_rules | `(tactic| walk_at "kit") => `(tactic| with_reducible first | exact kit_int_int | exact kit_int_str | exact kit_int_bool | exact kit_int_tuple | exact kit_int_list | exact kit_str_int | exact kit_str_str | exact kit_str_bool | exact kit_str_tuple | exact kit_str_list | exact kit_bool_int | exact kit_bool_str | exact kit_bool_bool | exact kit_bool_tuple | exact kit_bool_list | exact kit_NoneType_int | exact kit_NoneType_str | exact kit_NoneType_bool | exact kit_NoneType_tuple | exact kit_NoneType_list | exact kit_list_int | exact kit_list_str | exact kit_list_bool | exact kit_list_tuple | exact kit_list_list | exact kit_tuple_int | exact kit_tuple_str | exact kit_tuple_bool | exact kit_tuple_tuple | exact kit_tuple_list)
local macro_rules | `(tactic| walk_at "nd") => `(tactic| first
  | assumption
  | exact Tm.nds _
  | exact Nds.nil
  | exact Nds.ofInts _
  | ((refine' Nds.cons ?na ?nb); (case na => first | exact Nds.I _ | exact Nds.L | exact Nds.A); (case nb => walk_at "nd"))
  | ((refine' Nds.app ?na ?nb); (case na => walk_at "nd"); (case nb => walk_at "nd"))
  | ((refine' Nds.rep ?na _); (case na => walk_at "nd")))
local macro_rules | `(tactic| walk_at "len") => `(tactic| first
  | exact ly_sz (by omega)
  | ((simp only [List.length_append, List.length_cons, List.length_nil, List.length_map, PyProof.Rows.lm_len_rep_flat]); exact ly_sz (by omega)))
local macro_rules | `(tactic| walk_at "go1") => `(tactic| first
  | (with_reducible refine' w_kget2 ?_)
  | (with_reducible refine' w_isRN ?_)
  | (with_reducible refine' w_isNN ?_)
  | (with_reducible refine' w_isIN ?_)
  | ((with_reducible refine' w_kg ?hd ?_); (case hd => assumption)))
local macro_rules | `(tactic| walk_at "go1") => `(tactic| first
  | ((with_reducible refine' w_extT ?hh ?hh2 ?hz ?_); (case hh => walk_at "hp"); (case hh2 => walk_at "hp"))
  | ((with_reducible refine' w_I ?hc ?_); (case hc => exact ⟨by decide, by decide, by decide⟩))
  | (with_reducible refine' w_sl ?_)
  | (with_reducible refine' w_noP ?_)
  | (with_reducible refine' w_part ?_)
  | (with_reducible refine' w_part1 ?_)
  | (with_reducible refine' w_it ?_)
  | (with_reducible refine' w_it1 ?_)
  | ((with_reducible refine' w_lenZ ?hz ?_); (case hz => omega))
  | ((with_reducible refine' w_addZb ?hz ?_); (case hz => omega))
  | ((with_reducible refine' w_addZf ?hz ?_); (case hz => omega))
  | ((with_reducible refine' w_addZa ?hz ?_); (case hz => omega))
  | ((with_reducible refine' w_inS ?hh ?_); (case hh => walk_at "hp"))
  | ((with_reducible refine' w_ixT ?hh ?ha ?_); (case hh => assumption); (case ha => exact atI_nat (by assumption))))
local macro_rules | `(tactic| walk_at "go1") => `(tactic| first
  | (with_reducible refine' w_iR2 ?_)
  | ((with_reducible refine' w_iR21 ?h1 ?h2 ?h3 ?h4 ?_); (case h1 => omega); (case h2 => omega); (case h3 => omega); (case h4 => omega))
  | (with_reducible refine' w_nnI ?_)
  | (with_reducible refine' w_max ?_)
  | (with_reducible refine' w_break ?_)
  | (with_reducible refine' w_cont ?_))
local macro_rules | `(tactic| walk_at "go1") => `(tactic| first
  | (with_reducible refine' w_tdget ?_)
  | (with_reducible refine' w_tdin ?_)
  | (with_reducible refine' w_tdnotin ?_)
  | (with_reducible refine' w_sdput ?_)
  | (with_reducible refine' w_tdsetd ?_)
  | (with_reducible refine' w_dnew ?_))
local macro_rules | `(tactic| walk_at "go1") => `(tactic| first
  | (with_reducible refine' w_iZL ?_)
  | (with_reducible refine' w_sfld ?_)
  | (with_reducible refine' w_tfld ?_)
  | (with_reducible refine' w_make ?_)
  | fail)
local macro_rules | `(tactic| walk_at "go1") => `(tactic| first
  | (with_reducible refine' w_sfa ?_)
  | (with_reducible refine' w_tmP ?_)
  | (with_reducible refine' w_tdget2 ?_))
section
variable {P : Program} {w : World} {K : PySem.W.Frag} {mg : Str → Option Value} {base : Heap} {tk : Nat → Tok} {cl : Nat → Addr}
def spRdInit (CR CL : Addr) : Sp := fun vs H Q _ => ∃ (x dx p : Addr) (fs : List Str) (H0 : Hp), vs = [.ref x, .ref p] ∧ Own H0 H [(x, .ins CR dx [])] ∧ H0 p = some (.lst (txts fs)) ∧ fs.length ≤ 100000 ∧ ∀ H', RdAt CR CL H0 H' x fs 0 (Lv.new "") [] → Q .non H'
theorem numS_nil : NumS [] [] := fun n => rfl
theorem numS_put {fs : List Str} {kn : List (L2.Key × V)} {n : Str} (h : NumS fs kn) (hn : n ∉ fs) : NumS (fs ++ [n]) (putK kn (.inr n) (.int (fs.length : Nat))) := fun m => by
  rw [valV_put, h m]
  by_cases e : m = n
  · subst e
    rw [if_pos rfl, if_pos (by simp), List.idxOf_append, if_neg hn]
    simp
  · have e2 : ¬ ((.inr m : L2.Key) = .inr n) := fun z => e (Sum.inr.inj z)
    rw [if_neg e2]
    by_cases hm : m ∈ fs
    · rw [if_pos hm, if_pos (by simp [hm]), List.idxOf_append, if_pos hm]
    · rw [if_neg hm, if_neg (by simp [hm, e])]
theorem numS_old {fs : List Str} {kn : List (L2.Key × V)} {n : Str} (h : NumS fs kn) (hn : n ∈ fs) : NumS (fs ++ [n]) kn := fun m => by
  rw [h m]
  by_cases hm : m ∈ fs
  · rw [if_pos hm, if_pos (by simp [hm]), List.idxOf_append, if_pos hm]
  · have e : m ≠ n := fun z => hm (z ▸ hn)
    rw [if_neg hm, if_neg (by simp [hm, e])]
theorem ok_rdinit {f : Addr} {fd : FuncData} (F : Fun K "__init__" "Reader.__init__" s_Reader_init f fd) (T : Txt w K mg tk cl)
    (D1 : DefC P w K mg base CX0 1 (cl 21) ["self", "opener"] (spLvInit (cl 21))) : FnOk P w K mg base CX0 3 f fd ["self", "names"] (spRdInit (cl 22) (cl 21)) := by
  obtain ⟨f1, fd1, M_Level, b_Level_init, G_Level_init⟩ := D1
  refine F.ok sc_Reader_init (fun vs H Q E h => ?_) (fun cdv A outer s H vs Q E hr h => ?_)
  · obtain ⟨_, _, _, _, _, rfl, _⟩ := h
    rfl
  · obtain ⟨x, dx, p, fs, H0, rfl, ow, hp, hz, q⟩ := h
    refine ⟨_, (pss_cons (ps_fld (pv 0) pe_dnewK rfl) (pss_cons (ps_for PassesOwn.never rfl (pi_enum (by rfl) T.n_enumerate (pa_cons (pv 1) pa_nil)) (pg_tup (by rfl) (pgs_cons (pg_name (i := 2) sc_Reader_init.nd rfl (.inl rfl)) (pgs_cons (pg_name (i := 3) sc_Reader_init.nd rfl (.inl rfl)) pgs_nil))) (pss_one (ps_expr (pe_dsetd (pe_fld (pv 0) rfl) (pv 3) (pv 2) ⟨by rfl, by rfl, by rfl, by rfl⟩)))) (pss_cons (ps_fld (pv 0) pe_dnewK rfl) (pss_cons (ps_fld (pv 0) pe_int rfl) (pss_one (ps_fld (pv 0) (pe_lst (pa_cons (pe_make M_Level G_Level_init (hr.mono (by first | decide | omega)) (by rfl) T.g_Level b_Level_init .nil pass0 (pa_cons pe_str pa_nil)) pa_nil)) rfl)))))), ?_⟩
    refine sl_of (σ2 := [some _, some _, none, none]) rfl ?_
    walk_at "st"
    walk_at "go"
    intro dn hdn
    have ow := (ow.new (u := .dK []) hdn).perm (List.Perm.swap ..)
    walk_at "go"
    refine ⟨x, cl 22, dx, [], rfl, ow.at List.mem_cons_self, T.cls_Reader, T.nf_Reader_numbers, by show 0 < 1000; decide, ?_⟩
    have ow := ow.put (u := .ins (cl 22) dx [("numbers", .ref dn)])
    have ex1 := ow.ex
    walk_at "go"
    have hp1 := ex1 _ _ hp
    refine w_iE (w_var rfl ?_)
    refine w_iE1 (SqL.of hp1) ?_
    refine for_enum (xs := txts fs) (fun i σ H' => ∃ (y1 y2 : Option V) (kn : List (L2.Key × V)), σ = [some (.ref x), some (.ref p), y1, y2] ∧ Own H0 H' [(x, .ins (cl 22) dx [("numbers", .ref dn)]), (dn, .dK kn)] ∧ NumS (fs.take i) kn ∧ kn.length ≤ i) ⟨none, none, [], rfl, ow, numS_nil, Nat.le_refl _⟩ (fun i σ H' ⟨_, _, _, _, h, _⟩ => SqL.of (h.ex _ _ hp)) ?_ ?_
    · rintro i y Tt σ H1 hi hT ⟨y1, y2, kn, rfl, ow1, hk, hkl⟩
      obtain ⟨n, hn, rfl⟩ : ∃ n, fs[i]? = some n ∧ y = V.str n := by
        rw [List.getElem?_map] at hi
        cases e : fs[i]? with
        | none => rw [e] at hi; cases hi
        | some n => rw [e] at hi; cases hi; exact ⟨n, rfl, rfl⟩
      have ow2 := ow1.mono (Ex.new hT (o := .tup [.int (i : Nat), .str n]))
      have hT2 : upd H1 Tt (.tup [.int (i : Nat), .str n]) Tt = some (.tup [.int (i : Nat), .str n]) := upd_same
      have tk1 : fs.take (i + 1) = fs.take i ++ [n] := by rw [List.take_add_one, hn]; rfl
      have tl : (fs.take i).length = i := by
        rw [List.length_take]
        have := (List.getElem?_eq_some_iff.mp hn).1
        omega
      generalize upd H1 Tt (.tup [.int (i : Nat), .str n]) = H2 at *
      walk_at "go"
      refine ⟨x, cl 22, dx, _, _, rfl, ow2.at List.mem_cons_self, T.cls_Reader, T.nf_Reader_numbers, (by rfl : List.lookup ("numbers" : Str) [("numbers", V.ref dn)] = some (.ref dn)), ?_⟩
      have hdn := ow2.at (a := dn) (o := .dK kn) (by simp)
      refine ⟨dn, rfl, isD hdn, ?_⟩
      walk_at "go"
      refine ⟨kn, .inr n, hdn, rfl, ly_lt (by have := (List.getElem?_eq_some_iff.mp hn).1; omega), fun v hv => ?_, fun hv => ?_⟩
      · walk_at "go"
        refine ⟨_, _, kn, rfl, ow2, ?_, by omega⟩
        rw [tk1]
        refine numS_old hk ?_
        rw [hk n] at hv
        by_cases hm : n ∈ fs.take i
        · exact hm
        · rw [if_neg hm] at hv
          cases hv
      · walk_at "go"
        have hm : n ∉ fs.take i := fun z => by
          rw [hk n, if_pos z] at hv
          cases hv
        refine ⟨_, _, putK kn (.inr n) (.int (i : Nat)), rfl, Own.set 1 ow2 (by rfl), ?_, ?_⟩
        · have := numS_put hk hm
          rw [tl] at this
          rw [tk1]
          exact this
        · rw [putK_new _ hv, List.length_append, List.length_singleton]
          omega
    · rintro σ H1 ⟨y1, y2, kn, rfl, ow1, hk, hkl⟩
      rw [List.length_map, List.take_length] at hk
      walk_at "go"
      intro db hdb
      have ow2 := (ow1.new (u := .dK []) hdb).perm (List.Perm.swap ..)
      walk_at "go"
      refine ⟨x, cl 22, dx, _, rfl, ow2.at List.mem_cons_self, T.cls_Reader, T.nf_Reader_bound, by show 1 < 1000; decide, ?_⟩
      have ow3 := ow2.put (u := .ins (cl 22) dx [("numbers", .ref dn), ("bound", .ref db)])
      walk_at "go"
      refine ⟨x, cl 22, dx, _, rfl, ow3.at List.mem_cons_self, T.cls_Reader, T.nf_Reader_depth, by show 2 < 1000; decide, ?_⟩
      have ow4 := ow3.put (u := .ins (cl 22) dx [("numbers", .ref dn), ("bound", .ref db), ("depth", .int 0)])
      walk_at "go"
      intro lx ldx hlx hldx hne
      have ow5 := ow4.new (u := .own lx) hldx
      have ow6 := ow5.new (a := lx) (u := .ins (cl 21) ldx []) (by rw [upd_ne hne.symm]; exact hlx)
      refine ⟨lx, ldx, "", H0, _, rfl, ow6, fun H7 nl dl ow7 => ⟨rfl, ?_⟩⟩
      walk_at "go"
      intro ll hll
      have ow8 := ow7.new (u := .lst [.ref lx]) hll
      have hx8 := ow8.at (a := x) (o := .ins (cl 22) dx [("numbers", .ref dn), ("bound", .ref db), ("depth", .int 0)]) (by simp [lvFp])
      walk_at "go"
      refine ⟨x, cl 22, dx, _, rfl, hx8, T.cls_Reader, T.nf_Reader_levels, by show 3 < 1000; decide, ?_⟩
      have ow9 := Own.set 5 (u := .ins (cl 22) dx (rdFs dn db ll 0)) ow8 (by rfl)
      refine q _ ⟨dx, dn, db, ll, kn, [], [], (lx, ldx, nl, dl), [], ?_, rfl, hk, ⟨List.nodup_nil, fun n => rfl, fun n h => (by cases h), Nat.le_refl _⟩, by decide +kernel, rfl⟩
      exact Own.pick [5, 7, 6, 0, 1, 2, 3] ow9 (by decide) (by rfl)
end
end Ly
set_option Elab.async false
set_option linter.all false
set_option maxRecDepth 100000
set_option maxHeartbeats 8000000
namespace Ly
open PySem PySem.Spec PyProof.Rows L2 Evl
local macro_rules | `(tactic| walk_at "ne") => `(tactic| first
  | assumption
  | ((refine' Ne.symm ?hq); (case hq => assumption))
  | ((refine' ne_of_none ?nh1 ?nh2); (case nh2 => assumption); (case nh1 => walk_at "hp"))
  | ((refine' Ne.symm (ne_of_none ?nh1 ?nh2)); (case nh2 => assumption); (case nh1 => walk_at "hp")))
local macro_rules | `(tactic| walk_at "hp") => `(tactic| first
  | assumption
  | exact upd_same
  | ((refine' SqL.of ?hq); (case hq => walk_at "hp"))
  | ((refine' SqT.of ?hq); (case hq => walk_at "hp"))
  | ((refine' (upd_ne ?hne).trans ?hrest); (case hne => walk_at "ne"); (case hrest => walk_at "hp"))
  | ((refine' ly_at ?hex ?hh); (case hex => assumption); (case hh => walk_at "hp"))
  | ((refine' ly_atF ?hex ?hnn ?hh); (case hex => assumption); (case hh => walk_at "hp"); (case hnn => walk_at "ne"))
  | ((refine' ex_t ?hex ?hh); (case hh => assumption); (case hex => walk_at "ex"))
  | ((refine' ex_l ?hex ?hh); (case hh => assumption); (case hex => walk_at "ex")))
local macro_rules | `(tactic| walk_at "ex") => `(tactic| first
  | assumption
  | exact Ex.refl _
  | ((refine' ex_new ?xa ?xb); (case xb => assumption); (case xa => walk_at "ex"))
  | ((refine' ex_upd ?xa ?xb); (case xb => walk_at "free"); (case xa => walk_at "ex"))
  | ((refine' Ex.trans ?xa ?xb); (case xb => assumption); (case xa => walk_at "ex")))
local macro_rules | `(tactic| walk_at "free") => `(tactic| first
  | assumption
  | ((refine' fresh_back ?xa ?xb); (case xb => assumption); (case xa => walk_at "ex")))
local macro_rules | `(tactic| walk_at "fr") => `(tactic| first
  | assumption
  | exact Fr.refl _ _
  | ((refine' Fr.own ?hq); (case hq => walk_at "fr"))
  | ((refine' Fr.new ?xa ?xb); (case xb => assumption); (case xa => walk_at "fr"))
  | ((refine' Fr.mut ?xa ?xb); (case xb => assumption); (case xa => walk_at "fr"))
  | ((refine' Fr.trans ?xa ?xb); (case xb => assumption); (case xa => walk_at "fr"))
  | ((refine' Fr.trans ?xa (Fr.ex ?xb)); (case xb => assumption); (case xa => walk_at "fr")))
local macro_rules | `(tactic| walk_at "go1") => `(tactic| first
  | (with_reducible refine' w_seq ?_)
  | (with_reducible refine' w_asg ?_)
  | (with_reducible refine' w_ret ?_)
  | (with_reducible refine' w_drop ?_)
  | (with_reducible refine' w_if ?_)
  | (with_reducible refine' w_next ?_)
  | (with_reducible refine' w_name ?_)
  | (with_reducible refine' w_sub ?_)
  | ((with_reducible refine' w_var ?hv ?_); (case hv => exact rfl))
  | (with_reducible refine' w_c ?_)
  | (with_reducible refine' w_op ?_)
  | (with_reducible refine' w_un ?_)
  | (with_reducible refine' w_ch ?_)
  | (with_reducible refine' w_I0 ?_)
  | ((with_reducible refine' w_I ?hc ?_); (case hc => first | (exact ly_mulL (by decide) (by decide)) | (exact ly_mulR (by decide) (by decide)) | (exact ly_mulL (by omega) (by omega)) | (show (_ : Int) ≠ 0; decide) | (show (_ : Int) ≠ 0; omega) | (exact ⟨by decide, by decide⟩) | (exact ⟨by omega, by omega⟩)))
  | (with_reducible refine' w_U ?_)
  | ((with_reducible refine' w_eq ?hs ?_); (case hs => exact rfl))
  | ((with_reducible refine' w_ne ?hs ?_); (case hs => exact rfl))
  | (with_reducible refine' w_isB ?_)
  | (with_reducible refine' w_notB ?_)
  | (with_reducible refine' w_nil ?_)
  | (with_reducible refine' w_cons ?_)
  | (with_reducible refine' w_tup ?_)
  | (with_reducible refine' w_lst ?_)
  | (with_reducible refine' w_cb ?_)
  | (with_reducible refine' w_call ?_)
  | (with_reducible refine' w_bm ?_)
  | (with_reducible refine' w_bm0 ?_)
  | ((with_reducible refine' w_app ?hh ?hz ?_); (case hh => walk_at "hp"); (case hz => first | exact ly_lt (by omega) | exact ly_lt (by simp only [List.length_append, List.length_map, List.length_cons, List.length_nil]; omega)))
  | ((with_reducible refine' w_popA ?hh ?_); (case hh => walk_at "hp"))
  | ((with_reducible refine' w_ext ?hh ?hh2 ?hz ?_); (case hh => walk_at "hp"); (case hh2 => walk_at "hp"))
  | ((with_reducible refine' w_ixL ?hh ?ha ?_); (case hh => walk_at "hp"); (case ha => first | exact rfl | exact at_map (by omega) | exact atI_last _ _ | ((refine' at_of ?ae ?ah); (case ah => assumption); (case ae => omega))))
  | ((with_reducible refine' w_ixT ?hh ?ha ?_); (case hh => walk_at "hp"); (case ha => first | exact rfl | exact at_map (by omega) | exact atI_last _ _ | ((refine' at_of ?ae ?ah); (case ah => assumption); (case ae => omega))))
  | ((with_reducible refine' w_cat ?hh ?hh2 ?hz ?_); (case hh => walk_at "hp"); (case hh2 => walk_at "hp"))
  | ((with_reducible refine' w_setL ?hh ?ha ?_); (case hh => walk_at "hp"); (case ha => exact rfl))
  | (with_reducible refine' w_test ?_)
  | (with_reducible refine' w_tB ?_)
  | (with_reducible refine' w_bl ?_)
  | (with_reducible refine' w_and ?_)
  | (with_reducible refine' w_or ?_)
  | (with_reducible refine' w_not ?_)
  | (with_reducible refine' w_andV ?_)
  | (with_reducible refine' w_orV ?_)
  | (with_reducible refine' w_notV ?_)
  | (with_reducible refine' w_ifE ?_)
  | (with_reducible refine' w_for ?_)
  | ((with_reducible refine' w_nin ?hh ?_); (case hh => walk_at "hp"))
  | ((with_reducible refine' w_sorted ?hh ?_); (case hh => walk_at "hp"))
  | (with_reducible refine' w_tsadd ?_)
  | ((with_reducible refine' w_tsadd1 ?hh ?_); (case hh => walk_at "hp"))
  | ((with_reducible refine' w_sadd ?hh ?hr ?_); (case hh => walk_at "hp"); (case hr => omega))
  | (with_reducible refine' w_iZ ?_)
  | ((with_reducible refine' w_iZ1 ?hh ?hh2 ?_); (case hh => walk_at "hp"); (case hh2 => walk_at "hp"))
  | (with_reducible refine' w_iS ?_)
  | (with_reducible refine' w_iS1 ?_)
  | ((with_reducible refine' w_gtup ?hh ?hn ?_); (case hh => walk_at "hp"); (case hn => exact rfl))
  | (with_reducible refine' w_gcons ?_)
  | (with_reducible refine' w_gnil ?_)
  | (with_reducible refine' w_js ?_)
  | (with_reducible refine' w_jsn ?_)
  | ((with_reducible refine' w_js1 ?hl ?_); (case hl => decide +kernel))
  | (with_reducible refine' w_fmt ?_)
  | ((with_reducible refine' w_fmt1 ?hl ?_); (case hl => decide +kernel))
  | (with_reducible refine' w_callS ?_)
  | ((with_reducible refine' w_truL ?hh ?_); (case hh => walk_at "hp"))
  | (with_reducible refine' w_lc ?_)
  | (with_reducible refine' w_yes ?_)
  | ((with_reducible refine' w_wipe ?he ?_); (case he => exact rfl))
  | (with_reducible refine' w_iL ?_)
  | (with_reducible refine' w_iT ?_)
  | (with_reducible refine' w_iR ?_)
  | ((with_reducible refine' w_iL1 ?hh ?_); (case hh => walk_at "hp"))
  | ((with_reducible refine' w_iT1 ?hh ?_); (case hh => walk_at "hp"))
  | ((with_reducible refine' w_iR1 ?h1 ?h2 ?_); (case h1 => omega); (case h2 => omega))
  | ((with_reducible refine' w_aug ?hv ?_); (case hv => exact rfl))
  | (with_reducible refine' w_ipI ?_)
  | ((with_reducible refine' w_isi ?hy ?hk ?_); (case hy => walk_at "ty"); (case hk => walk_at "kit"))
  | ((with_reducible refine' w_int ?_))
  | ((with_reducible refine' w_intB ?_))
  | ((with_reducible refine' w_abs ?_))
  | ((with_reducible refine' w_lenL ?hh ?_); (case hh => walk_at "hp"))
  | ((with_reducible refine' w_lenT ?hh ?_); (case hh => walk_at "hp"))
  | ((with_reducible refine' w_tupL ?hh ?_); (case hh => walk_at "hp"))
  | ((with_reducible refine' w_tupT ?hh ?_); (case hh => walk_at "hp"))
  | ((with_reducible refine' w_catA ?hh ?hh2 ?hz ?_); (case hh => walk_at "hp"); (case hh2 => walk_at "hp"); (case hz => walk_at "len"))
  | ((with_reducible refine' w_repB ?hh ?hne ?h2 ?h3 ?hz ?_); (case hh => walk_at "hp"); (case hne => simp); (case h2 => omega); (case h3 => omega); (case hz => exact Nat.le_of_ble_eq_true rfl))
  | ((with_reducible refine' w_eqN ?hh ?hh2 ?n1 ?n2 ?_); (case hh => walk_at "hp"); (case hh2 => walk_at "hp"); (case n1 => walk_at "nd"); (case n2 => walk_at "nd"))
  | ((with_reducible refine' w_neN ?hh ?hh2 ?n1 ?n2 ?_); (case hh => walk_at "hp"); (case hh2 => walk_at "hp"); (case n1 => walk_at "nd"); (case n2 => walk_at "nd"))
  | ((with_reducible refine' w_eqL ?hh ?hh2 ?n1 ?n2 ?_); (case hh => walk_at "hp"); (case hh2 => walk_at "hp"); (case n1 => walk_at "nd"); (case n2 => walk_at "nd"))
  | ((with_reducible refine' w_neL ?hh ?hh2 ?n1 ?n2 ?_); (case hh => walk_at "hp"); (case hh2 => walk_at "hp"); (case n1 => walk_at "nd"); (case n2 => walk_at "nd"))
  | ((with_reducible refine' w_neNon ?hh2 ?n2 ?_); (case hh2 => walk_at "hp"); (case n2 => walk_at "nd"))
  | ((with_reducible refine' w_eqNon ?hh2 ?n2 ?_); (case hh2 => walk_at "hp"); (case n2 => walk_at "nd"))
  | ((with_reducible refine' w_slA ?hh ?_); (case hh => walk_at "hp"))
  | ((with_reducible refine' w_disp ?hz ?_); (case hz => exact sz_of (Nat.le_of_ble_eq_true rfl)))
  | ((with_reducible refine' w_tyL ?hh ?_); (case hh => walk_at "hp"))
  | (with_reducible refine' iteT ?_)
  | (with_reducible refine' iteF ?_)
  | (with_reducible refine' w_nT ?_)
  | (with_reducible refine' w_nn ?_)
  | (with_reducible refine' w_nnT ?_)
  | (with_reducible refine' w_nnR ?_)
  | (with_reducible refine' w_neG ?_)
  | (with_reducible refine' w_eqG ?_)
  | (with_reducible refine' w_neS ?_)
  | (with_reducible refine' w_eqS ?_)
  | (with_reducible refine' w_neSb ?_)
  | (with_reducible refine' w_eqSb ?_)
  | (with_reducible refine' w_deIS ?_)
  | (with_reducible refine' w_deSI ?_)
  | (with_reducible refine' w_deISn ?_)
  | ((with_reducible refine' w_deST ?he ?_); (case he => decide +kernel))
  | ((with_reducible refine' w_deSF ?he ?_); (case he => decide +kernel))
  | ((with_reducible refine' w_deSTn ?he ?_); (case he => decide +kernel))
  | ((with_reducible refine' w_deSFn ?he ?_); (case he => decide +kernel))
  | (with_reducible refine' w_nF ?_)
  | dsimp only [Bool.not_true, Bool.not_false])
local macro_rules | `(tactic| walk_at "ty") => `(tactic| first
  | exact .base (.int _) | exact .base (.str _) | exact .base (.bl _) | exact .base .non
  | ((refine' tyx_t ?hq); (case hq => walk_at "hp")) | ((refine' tyx_l ?hq); (case hq => walk_at "hp")) | ((refine' .base (.tup ?hq)); (case hq => walk_at "hp")) | assumption)
local macro_rules | `(tactic| walk_at "go") => `(tactic| repeat walk_at "go1")
local macro_rules | `(tactic| walk_at "st") => `(tactic| try dsimp only [cxOf, Cx.nox, Cx.wish])
local macro_rules | `(tactic| walk_at "kit") => `(tactic| with_reducible first | exact kit_int_int | exact kit_int_str | exact kit_int_bool | exact kit_int_tuple | exact kit_int_list | exact kit_str_int | exact kit_str_str | exact kit_str_bool | exact kit_str_tuple | exact kit_str_list | exact kit_bool_int | exact kit_bool_str | exact kit_bool_bool | exact kit_bool_tuple | exact kit_bool_list | exact kit_NoneType_int | exact kit_NoneType_str | exact kit_NoneType_bool | exact kit_NoneType_tuple | exact kit_NoneType_list | exact kit_list_int | exact kit_list_str | exact kit_list_bool | exact kit_list_tuple | exact kit_list_list | exact kit_tuple_int | exact kit_tuple_str | exact kit_tuple_bool | exact kit_tuple_tuple | exact kit_tuple_list)
local macro_rules | `(tactic| walk_at "nd") => `(tactic| first
  | assumption
  | exact Tm.nds _
  | exact Nds.nil
  | exact Nds.ofInts _
  | ((refine' Nds.cons ?na ?nb); (case na => first | exact Nds.I _ | exact Nds.L | exact Nds.A); (case nb => walk_at "nd"))
  | ((refine' Nds.app ?na ?nb); (case na => walk_at "nd"); (case nb => walk_at "nd"))
  | ((refine' Nds.rep ?na _); (case na => walk_at "nd")))
local macro_rules | `(tactic| walk_at "len") => `(tactic| first
  | exact ly_sz (by omega)
  | ((simp only [List.length_append, List.length_cons, List.length_nil, List.length_map, PyProof.Rows.lm_len_rep_flat]); exact ly_sz (by omega)))
local macro_rules | `(tactic| walk_at "go1") => `(tactic| first
  | (with_reducible refine' w_kget2 ?_)
  | (with_reducible refine' w_isRN ?_)
  | (with_reducible refine' w_isNN ?_)
  | (with_reducible refine' w_isIN ?_)
  | ((with_reducible refine' w_kg ?hd ?_); (case hd => assumption)))
local macro_rules | `(tactic| walk_at "go1") => `(tactic| first
  | ((with_reducible refine' w_extT ?hh ?hh2 ?hz ?_); (case hh => walk_at "hp"); (case hh2 => walk_at "hp"))
  | ((with_reducible refine' w_I ?hc ?_); (case hc => exact ⟨by decide, by decide, by decide⟩))
  | (with_reducible refine' w_sl ?_)
  | (with_reducible refine' w_noP ?_)
  | (with_reducible refine' w_part ?_)
  | (with_reducible refine' w_part1 ?_)
  | (with_reducible refine' w_it ?_)
  | (with_reducible refine' w_it1 ?_)
  | ((with_reducible refine' w_lenZ ?hz ?_); (case hz => omega))
  | ((with_reducible refine' w_addZb ?hz ?_); (case hz => omega))
  | ((with_reducible refine' w_addZf ?hz ?_); (case hz => omega))
  | ((with_reducible refine' w_addZa ?hz ?_); (case hz => omega))
  | ((with_reducible refine' w_inS ?hh ?_); (case hh => walk_at "hp"))
  | ((with_reducible refine' w_ixT ?hh ?ha ?_); (case hh => assumption); (case ha => exact atI_nat (by assumption))))
local macro_rules | `(tactic| walk_at "go1") => `(tactic| first
  | (with_reducible refine' w_iR2 ?_)
  | ((with_reducible refine' w_iR21 ?h1 ?h2 ?h3 ?h4 ?_); (case h1 => omega); (case h2 => omega); (case h3 => omega); (case h4 => omega))
  | (with_reducible refine' w_nnI ?_)
  | (with_reducible refine' w_max ?_)
  | (with_reducible refine' w_break ?_)
  | (with_reducible refine' w_cont ?_))
local macro_rules | `(tactic| walk_at "go1") => `(tactic| first
  | (with_reducible refine' w_tdget ?_)
  | (with_reducible refine' w_tdin ?_)
  | (with_reducible refine' w_tdnotin ?_)
  | (with_reducible refine' w_sdput ?_)
  | (with_reducible refine' w_tdsetd ?_)
  | (with_reducible refine' w_dnew ?_))
local macro_rules | `(tactic| walk_at "go1") => `(tactic| first
  | (with_reducible refine' w_iZL ?_)
  | (with_reducible refine' w_sfld ?_)
  | (with_reducible refine' w_tfld ?_)
  | (with_reducible refine' w_make ?_)
  | fail)
local macro_rules | `(tactic| walk_at "go1") => `(tactic| first
  | (with_reducible refine' w_sfa ?_)
  | (with_reducible refine' w_tmP ?_)
  | (with_reducible refine' w_tdget2 ?_))
section
variable {P : Program} {w : World} {K : PySem.W.Frag} {mg : Str → Option Value} {base : Heap} {tk : Nat → Tok} {cl : Nat → Addr}
theorem rdF_fs {dn db ll : Addr} {d : Nat} : List.lookup ("numbers" : Str) (rdFs dn db ll d) = some (.ref dn) ∧ List.lookup ("bound" : Str) (rdFs dn db ll d) = some (.ref db) ∧ List.lookup ("depth" : Str) (rdFs dn db ll d) = some (.int (d : Int)) ∧ List.lookup ("levels" : Str) (rdFs dn db ll d) = some (.ref ll) := ⟨by rfl, by rfl, by rfl, by rfl⟩
def spRdVar (CR CL : Addr) : Sp := fun vs H Q _ => ∃ (x : Addr) (n : Str) (i : Int) (H0 : Hp) (fs : List Str) (N : Nat) (l : Lv) (r : List Lv) (k : Nat), vs = [.ref x, .str n, .int i] ∧ RdAt CR CL H0 H x fs N l r ∧ N ≤ 100000 ∧ numOf fs (scp (l :: r)) n = some k ∧ ∀ H', Ex H H' → Q (.int (k : Int)) H'
theorem bnd_mem {n : Str} {b : Addr} {g : Str → List V} {BA : List (Str × Addr)} (h : BA.lookup n = some b) : (b, HO.lst (g n)) ∈ bdFp g BA := by
  obtain ⟨B1, B2, rfl⟩ := lookup_split h
  rw [bdFp_split]
  simp
theorem ok_rdvar {f : Addr} {fd : FuncData} {k : Nat} (F : Fun K "variable" "Reader.variable" s_Reader_variable f fd) (T : Txt w K mg tk cl) : FnOk P w K mg base CX0 (k + 1) f fd ["self", "name", "at"] (spRdVar (cl 22) (cl 21)) := by
  refine F.ok sc_Reader_variable (fun vs H Q E h => ?_) (fun cdv A outer s H vs Q E hr h => ?_)
  · obtain ⟨_, _, _, _, _, _, _, _, _, rfl, _⟩ := h
    rfl
  · obtain ⟨x, n, i, H0, fs, N, l, r, k, rfl, ⟨dx, dn, db, ll, kn, kb, BA, a, as, h⟩, hN, hk, q⟩ := h
    refine ⟨_, (pss_cons (ps_set (i := 3) sc_Reader_variable.nd rfl (.inl rfl) (pe_dget2 (by exact Nat.lt_of_le_of_lt (Nat.add_le_add_left (by decide) _) hr.units) (pe_fld (pv 0) rfl) (pv 1) (pe_lst pa_nil) ⟨by rfl, by rfl, by rfl, by rfl⟩)) (pss_cons (ps_if (pt_cmpR op_gt (pe_callB call_len_seq (by rfl) T.n_len (by decide +kernel) (pa_cons (pv 3) pa_nil)) pe_int (nomark _)) (pss_one (ps_ret (pe_op op_sub (pe_op op_sub (pe_fld (pv 0) rfl) pe_int) (pe_ix ix_list (pv 3) (pe_un un_neg pe_int) (fun _ _ => rfl))))) pss_nil) (pss_cons (ps_if (pt_cmp (pc_dnotin (by exact Nat.lt_of_le_of_lt (Nat.add_le_add_left (by decide) _) hr.units) (pv 1) (pe_fld (pv 0) rfl))) (pss_one ps_dead) pss_nil) (pss_one (ps_ret (pe_op op_add (pe_fld (pv 0) rfl) (pe_dget (by exact Nat.lt_of_le_of_lt (Nat.add_le_add_left (by decide) _) hr.units) (pe_fld (pv 0) rfl) (pv 1) (fun _ _ => rfl)))))))), ?_⟩
    refine sl_of (σ2 := [some _, some _, some _, none]) rfl ?_
    have hx : H x = some (.ins (cl 22) dx (rdFs dn db ll (scp (l :: r)).length)) := h.own.at (by simp)
    have hdn : H dn = some (.dK kn) := h.own.at (by simp)
    have hdb : H db = some (.dK kb) := h.own.at (by simp)
    walk_at "st"
    walk_at "go"
    refine ⟨x, cl 22, dx, _, _, rfl, hx, T.cls_Reader, T.nf_Reader_bound, rdF_fs.2.1, ?_⟩
    refine ⟨db, rfl, isD hdb, ?_⟩
    walk_at "go"
    intro p hp
    have ex : Ex H (upd H p (.lst [])) := Ex.new hp
    have hp1 : upd H p (.lst []) p = some (.lst []) := upd_same
    have hx1 := ex _ _ hx
    have hdn1 := ex _ _ hdn
    have hdb1 := ex _ _ hdb
    refine ⟨_, dgetS hdb1, ?_⟩
    rw [h.bd.val n]
    have tail : ∀ (y : V) (H2 : Hp), n ∉ scp (l :: r) → Ex H H2 → tSeq (tIfS (tB (tDNotIn (tVar 1) (tFld K (tVar 0) "numbers"))) (fun _ _ _ => False) tNext) (tRet (tOp (rI0 fun i j => V.int (i + j)) (tFld K (tVar 0) "depth") (tDGet (tFld K (tVar 0) "numbers") (tVar 1)))) { nx := fun x H' => Q V.non H', rt := Q } [some (.ref x), some (.str n), some (.int i), some y] H2 := fun y H2 hn e2 => by
      have hx2 := e2 _ _ hx
      have hdn2 := e2 _ _ hdn
      unfold numOf at hk
      rw [if_neg hn] at hk
      by_cases hm : n ∈ fs
      · rw [if_pos hm] at hk
        have hkn : valV kn (.inr n) = some (.int (fs.idxOf n : Nat)) := by rw [h.num n, if_pos hm]
        walk_at "go"
        refine ⟨x, cl 22, dx, _, _, rfl, hx2, T.cls_Reader, T.nf_Reader_numbers, rdF_fs.1, ?_⟩
        refine w_dnotinS hdn2 ?_
        rw [hkn]
        refine ⟨_, rfl, iteF ?_⟩
        walk_at "go"
        refine ⟨x, cl 22, dx, _, _, rfl, hx2, T.cls_Reader, T.nf_Reader_depth, rdF_fs.2.2.1, ?_⟩
        walk_at "go"
        refine ⟨x, cl 22, dx, _, _, rfl, hx2, T.cls_Reader, T.nf_Reader_numbers, rdF_fs.1, ?_⟩
        walk_at "go"
        refine w_dgetS hdn2 hkn ?_
        walk_at "go"
        have ek := Option.some.inj hk
        rw [show ((scp (l :: r)).length : Int) + (fs.idxOf n : Nat) = (k : Int) by omega]
        exact q H2 e2
      · rw [if_neg hm] at hk
        cases hk
    cases e : BA.lookup n with
    | none =>
      have hn : n ∉ scp (l :: r) := fun z => by
        have := h.bd.cov n z
        rw [e] at this
        cases this
      dsimp only [Option.map, Option.getD]
      walk_at "go"
      refine iteF ?_
      refine w_next ?_
      exact tail _ _ hn ex
    | some b =>
      have hb : H b = some (.lst (pos0 (scp (l :: r)) n)) := h.own.at (by
        rw [List.mem_append, List.mem_append, List.mem_append]
        exact .inr (.inr (.inr (bnd_mem e))))
      have hb1 := ex _ _ hb
      dsimp only [Option.map, Option.getD]
      walk_at "go"
      by_cases hn : n ∈ scp (l :: r)
      · obtain ⟨xs, j, e1, e2⟩ := posL_last n _ (scp (l :: r)) rfl hn
        have e3 : pos0 (scp (l :: r)) n = nums xs ++ [V.int (j : Int)] := by
          unfold pos0
          rw [e1]
          simp [nums]
        rw [e3] at hb1 ⊢
        refine w_br (fun _ => ?_) (fun z => (z (by simp)).elim)
        walk_at "go"
        refine ⟨x, cl 22, dx, _, _, rfl, hx1, T.cls_Reader, T.nf_Reader_depth, rdF_fs.2.2.1, ?_⟩
        walk_at "go"
        unfold numOf at hk
        rw [if_pos hn] at hk
        have ek := Option.some.inj hk
        rw [show ((scp (l :: r)).length : Int) - 1 - (j : Int) = (k : Int) by omega]
        exact q _ ex
      · have e3 : pos0 (scp (l :: r)) n = [] := by
          unfold pos0
          rw [posL_nil hn]
          rfl
        rw [e3]
        refine iteF ?_
        refine w_next ?_
        exact tail _ _ hn ex
end
end Ly
set_option Elab.async false
set_option linter.all false
set_option maxRecDepth 100000
set_option maxHeartbeats 8000000
namespace Ly
open PySem PySem.Spec PyProof.Rows L2 Evl
local macro_rules | `(tactic| walk_at "ne") => `(tactic| first
  | assumption
  | ((refine' Ne.symm ?hq); (case hq => assumption))
  | ((refine' ne_of_none ?nh1 ?nh2); (case nh2 => assumption); (case nh1 => walk_at "hp"))
  | ((refine' Ne.symm (ne_of_none ?nh1 ?nh2)); (case nh2 => assumption); (case nh1 => walk_at "hp")))
local macro_rules | `(tactic| walk_at "hp") => `(tactic| first
  | assumption
  | exact upd_same
  | ((refine' SqL.of ?hq); (case hq => walk_at "hp"))
  | ((refine' SqT.of ?hq); (case hq => walk_at "hp"))
  | ((refine' (upd_ne ?hne).trans ?hrest); (case hne => walk_at "ne"); (case hrest => walk_at "hp"))
  | ((refine' ly_at ?hex ?hh); (case hex => assumption); (case hh => walk_at "hp"))
  | ((refine' ly_atF ?hex ?hnn ?hh); (case hex => assumption); (case hh => walk_at "hp"); (case hnn => walk_at "ne"))
  | ((refine' ex_t ?hex ?hh); (case hh => assumption); (case hex => walk_at "ex"))
  | ((refine' ex_l ?hex ?hh); (case hh => assumption); (case hex => walk_at "ex")))
local macro_rules | `(tactic| walk_at "ex") => `(tactic| first
  | assumption
  | exact Ex.refl _
  | ((refine' ex_new ?xa ?xb); (case xb => assumption); (case xa => walk_at "ex"))
  | ((refine' ex_upd ?xa ?xb); (case xb => walk_at "free"); (case xa => walk_at "ex"))
  | ((refine' Ex.trans ?xa ?xb); (case xb => assumption); (case xa => walk_at "ex")))
local macro_rules | `(tactic| walk_at "free") => `(tactic| first
  | assumption
  | ((refine' fresh_back ?xa ?xb); (case xb => assumption); (case xa => walk_at "ex")))
local macro_rules | `(tactic| walk_at "fr") => `(tactic| first
  | assumption
  | exact Fr.refl _ _
  | ((refine' Fr.own ?hq); (case hq => walk_at "fr"))
  | ((refine' Fr.new ?xa ?xb); (case xb => assumption); (case xa => walk_at "fr"))
  | ((refine' Fr.mut ?xa ?xb); (case xb => assumption); (case xa => walk_at "fr"))
  | ((refine' Fr.trans ?xa ?xb); (case xb => assumption); (case xa => walk_at "fr"))
  | ((refine' Fr.trans ?xa (Fr.ex ?xb)); (case xb => assumption); (case xa => walk_at "fr")))
local macro_rules | `(tactic| walk_at "go1") => `(tactic| first
  | (with_reducible refine' w_seq ?_)
  | (with_reducible refine' w_asg ?_)
  | (with_reducible refine' w_ret ?_)
  | (with_reducible refine' w_drop ?_)
  | (with_reducible refine' w_if ?_)
  | (with_reducible refine' w_next ?_)
  | (with_reducible refine' w_name ?_)
  | (with_reducible refine' w_sub ?_)
  | ((with_reducible refine' w_var ?hv ?_); (case hv => exact rfl))
  | (with_reducible refine' w_c ?_)
  | (with_reducible refine' w_op ?_)
  | (with_reducible refine' w_un ?_)
  | (with_reducible refine' w_ch ?_)
  | (with_reducible refine' w_I0 ?_)
  | ((with_reducible refine' w_I ?hc ?_); (case hc => first | (exact ly_mulL (by decide) (by decide)) | (exact ly_mulR (by decide) (by decide)) | (exact ly_mulL (by omega) (by omega)) | (show (_ : Int) ≠ 0; decide) | (show (_ : Int) ≠ 0; omega) | (exact ⟨by decide, by decide⟩) | (exact ⟨by omega, by omega⟩)))
  | (with_reducible refine' w_U ?_)
  | ((with_reducible refine' w_eq ?hs ?_); (case hs => exact rfl))
  | ((with_reducible refine' w_ne ?hs ?_); (case hs => exact rfl))
  | (with_reducible refine' w_isB ?_)
  | (with_reducible refine' w_notB ?_)
  | (with_reducible refine' w_nil ?_)
  | (with_reducible refine' w_cons ?_)
  | (with_reducible refine' w_tup ?_)
  | (with_reducible refine' w_lst ?_)
  | (with_reducible refine' w_cb ?_)
  | (with_reducible refine' w_call ?_)
  | (with_reducible refine' w_bm ?_)
  | (with_reducible refine' w_bm0 ?_)
  | ((with_reducible refine' w_app ?hh ?hz ?_); (case hh => walk_at "hp"); (case hz => first | exact ly_lt (by omega) | exact ly_lt (by simp only [List.length_append, List.length_map, List.length_cons, List.length_nil]; omega)))
  | ((with_reducible refine' w_popA ?hh ?_); (case hh => walk_at "hp"))
  | ((with_reducible refine' w_ext ?hh ?hh2 ?hz ?_); (case hh => walk_at "hp"); (case hh2 => walk_at "hp"))
  | ((with_reducible refine' w_ixL ?hh ?ha ?_); (case hh => walk_at "hp"); (case ha => first | exact rfl | exact at_map (by omega) | exact atI_last _ _ | ((refine' at_of ?ae ?ah); (case ah => assumption); (case ae => omega))))
  | ((with_reducible refine' w_ixT ?hh ?ha ?_); (case hh => walk_at "hp"); (case ha => first | exact rfl | exact at_map (by omega) | exact atI_last _ _ | ((refine' at_of ?ae ?ah); (case ah => assumption); (case ae => omega))))
  | ((with_reducible refine' w_cat ?hh ?hh2 ?hz ?_); (case hh => walk_at "hp"); (case hh2 => walk_at "hp"))
  | ((with_reducible refine' w_setL ?hh ?ha ?_); (case hh => walk_at "hp"); (case ha => exact rfl))
  | (with_reducible refine' w_test ?_)
  | (with_reducible refine' w_tB ?_)
  | (with_reducible refine' w_bl ?_)
  | (with_reducible refine' w_and ?_)
  | (with_reducible refine' w_or ?_)
  | (with_reducible refine' w_not ?_)
  | (with_reducible refine' w_andV ?_)
  | (with_reducible refine' w_orV ?_)
  | (with_reducible refine' w_notV ?_)
  | (with_reducible refine' w_ifE ?_)
  | (with_reducible refine' w_for ?_)
  | ((with_reducible refine' w_nin ?hh ?_); (case hh => walk_at "hp"))
  | ((with_reducible refine' w_sorted ?hh ?_); (case hh => walk_at "hp"))
  | (with_reducible refine' w_tsadd ?_)
  | ((with_reducible refine' w_tsadd1 ?hh ?_); (case hh => walk_at "hp"))
  | ((with_reducible refine' w_sadd ?hh ?hr ?_); (case hh => walk_at "hp"); (case hr => omega))
  | (with_reducible refine' w_iZ ?_)
  | ((with_reducible refine' w_iZ1 ?hh ?hh2 ?_); (case hh => walk_at "hp"); (case hh2 => walk_at "hp"))
  | (with_reducible refine' w_iS ?_)
  | (with_reducible refine' w_iS1 ?_)
  | ((with_reducible refine' w_gtup ?hh ?hn ?_); (case hh => walk_at "hp"); (case hn => exact rfl))
  | (with_reducible refine' w_gcons ?_)
  | (with_reducible refine' w_gnil ?_)
  | (with_reducible refine' w_js ?_)
  | (with_reducible refine' w_jsn ?_)
  | ((with_reducible refine' w_js1 ?hl ?_); (case hl => decide +kernel))
  | (with_reducible refine' w_fmt ?_)
  | ((with_reducible refine' w_fmt1 ?hl ?_); (case hl => decide +kernel))
  | (with_reducible refine' w_callS ?_)
  | ((with_reducible refine' w_truL ?hh ?_); (case hh => walk_at "hp"))
  | (with_reducible refine' w_lc ?_)
  | (with_reducible refine' w_yes ?_)
  | ((with_reducible refine' w_wipe ?he ?_); (case he => exact rfl))
  | (with_reducible refine' w_iL ?_)
  | (with_reducible refine' w_iT ?_)
  | (with_reducible refine' w_iR ?_)
  | ((with_reducible refine' w_iL1 ?hh ?_); (case hh => walk_at "hp"))
  | ((with_reducible refine' w_iT1 ?hh ?_); (case hh => walk_at "hp"))
  | ((with_reducible refine' w_iR1 ?h1 ?h2 ?_); (case h1 => omega); (case h2 => omega))
  | ((with_reducible refine' w_aug ?hv ?_); (case hv => exact rfl))
  | (with_reducible refine' w_ipI ?_)
  | ((with_reducible refine' w_isi ?hy ?hk ?_); (case hy => walk_at "ty"); (case hk => walk_at "kit"))
  | ((with_reducible refine' w_int ?_))
  | ((with_reducible refine' w_intB ?_))
  | ((with_reducible refine' w_abs ?_))
  | ((with_reducible refine' w_lenL ?hh ?_); (case hh => walk_at "hp"))
  | ((with_reducible refine' w_lenT ?hh ?_); (case hh => walk_at "hp"))
  | ((with_reducible refine' w_tupL ?hh ?_); (case hh => walk_at "hp"))
  | ((with_reducible refine' w_tupT ?hh ?_); (case hh => walk_at "hp"))
  | ((with_reducible refine' w_catA ?hh ?hh2 ?hz ?_); (case hh => walk_at "hp"); (case hh2 => walk_at "hp"); (case hz => walk_at "len"))
  | ((with_reducible refine' w_repB ?hh ?hne ?h2 ?h3 ?hz ?_); (case hh => walk_at "hp"); (case hne => simp); (case h2 => omega); (case h3 => omega); (case hz => exact Nat.le_of_ble_eq_true rfl))
  | ((with_reducible refine' w_eqN ?hh ?hh2 ?n1 ?n2 ?_); (case hh => walk_at "hp"); (case hh2 => walk_at "hp"); (case n1 => walk_at "nd"); (case n2 => walk_at "nd"))
  | ((with_reducible refine' w_neN ?hh ?hh2 ?n1 ?n2 ?_); (case hh => walk_at "hp"); (case hh2 => walk_at "hp"); (case n1 => walk_at "nd"); (case n2 => walk_at "nd"))
  | ((with_reducible refine' w_eqL ?hh ?hh2 ?n1 ?n2 ?_); (case hh => walk_at "hp"); (case hh2 => walk_at "hp"); (case n1 => walk_at "nd"); (case n2 => walk_at "nd"))
  | ((with_reducible refine' w_neL ?hh ?hh2 ?n1 ?n2 ?_); (case hh => walk_at "hp"); (case hh2 => walk_at "hp"); (case n1 => walk_at "nd"); (case n2 => walk_at "nd"))
  | ((with_reducible refine' w_neNon ?hh2 ?n2 ?_); (case hh2 => walk_at "hp"); (case n2 => walk_at "nd"))
  | ((with_reducible refine' w_eqNon ?hh2 ?n2 ?_); (case hh2 => walk_at "hp"); (case n2 => walk_at "nd"))
  | ((with_reducible refine' w_slA ?hh ?_); (case hh => walk_at "hp"))
  | ((with_reducible refine' w_disp ?hz ?_); (case hz => exact sz_of (Nat.le_of_ble_eq_true rfl)))
  | ((with_reducible refine' w_tyL ?hh ?_); (case hh => walk_at "hp"))
  | (with_reducible refine' iteT ?_)
  | (with_reducible refine' iteF ?_)
  | (with_reducible refine' w_nT ?_)
  | (with_reducible refine' w_nn ?_)
  | (with_reducible refine' w_nnT ?_)
  | (with_reducible refine' w_nnR ?_)
  | (with_reducible refine' w_neG ?_)
  | (with_reducible refine' w_eqG ?_)
  | (with_reducible refine' w_neS ?_)
  | (with_reducible refine' w_eqS ?_)
  | (with_reducible refine' w_neSb ?_)
  | (with_reducible refine' w_eqSb ?_)
  | (with_reducible refine' w_deIS ?_)
  | (with_reducible refine' w_deSI ?_)
  | (with_reducible refine' w_deISn ?_)
  | ((with_reducible refine' w_deST ?he ?_); (case he => decide +kernel))
  | ((with_reducible refine' w_deSF ?he ?_); (case he => decide +kernel))
  | ((with_reducible refine' w_deSTn ?he ?_); (case he => decide +kernel))
  | ((with_reducible refine' w_deSFn ?he ?_); (case he => decide +kernel))
  | (with_reducible refine' w_nF ?_)
  | dsimp only [Bool.not_true, Bool.not_false])
local macro_rules | `(tactic| walk_at "ty") => `(tactic| first
  | exact .base (.int _) | exact .base (.str _) | exact .base (.bl _) | exact .base .non
  | ((refine' tyx_t ?hq); (case hq => walk_at "hp")) | ((refine' tyx_l ?hq); (case hq => walk_at "hp")) | ((refine' .base (.tup ?hq)); (case hq => walk_at "hp")) | assumption)
local macro_rules | `(tactic| walk_at "go") => `(tactic| repeat walk_at "go1")
local macro_rules | `(tactic| walk_at "st") => `(tactic| try dsimp only [cxOf, Cx.nox, Cx.wish])
local macro_rules | `(tactic| walk_at "kit") => `(tactic| with_reducible first | exact kit_int_int | exact kit_int_str | exact kit_int_bool | exact kit_int_tuple | exact kit_int_list | exact kit_str_int | exact kit_str_str | exact kit_str_bool | exact kit_str_tuple | exact kit_str_list | exact kit_bool_int | exact kit_bool_str | exact kit_bool_bool | exact kit_bool_tuple | exact kit_bool_list | exact kit_NoneType_int | exact kit_NoneType_str | exact kit_NoneType_bool | exact kit_NoneType_tuple | exact kit_NoneType_list | exact kit_list_int | exact kit_list_str | exact kit_list_bool | exact kit_list_tuple | exact kit_list_list | exact kit_tuple_int | exact kit_tuple_str | exact kit_tuple_bool | exact kit_tuple_tuple | exact kit_tuple_list)
local macro_rules | `(tactic| walk_at "nd") => `(tactic| first
  | assumption
  | exact Tm.nds _
  | exact Nds.nil
  | exact Nds.ofInts _
  | ((refine' Nds.cons ?na ?nb); (case na => first | exact Nds.I _ | exact Nds.L | exact Nds.A); (case nb => walk_at "nd"))
  | ((refine' Nds.app ?na ?nb); (case na => walk_at "nd"); (case nb => walk_at "nd"))
  | ((refine' Nds.rep ?na _); (case na => walk_at "nd")))
local macro_rules | `(tactic| walk_at "len") => `(tactic| first
  | exact ly_sz (by omega)
  | ((simp only [List.length_append, List.length_cons, List.length_nil, List.length_map, PyProof.Rows.lm_len_rep_flat]); exact ly_sz (by omega)))
local macro_rules | `(tactic| walk_at "go1") => `(tactic| first
  | (with_reducible refine' w_kget2 ?_)
  | (with_reducible refine' w_isRN ?_)
  | (with_reducible refine' w_isNN ?_)
  | (with_reducible refine' w_isIN ?_)
  | ((with_reducible refine' w_kg ?hd ?_); (case hd => assumption)))
local macro_rules | `(tactic| walk_at "go1") => `(tactic| first
  | ((with_reducible refine' w_extT ?hh ?hh2 ?hz ?_); (case hh => walk_at "hp"); (case hh2 => walk_at "hp"))
  | ((with_reducible refine' w_I ?hc ?_); (case hc => exact ⟨by decide, by decide, by decide⟩))
  | (with_reducible refine' w_sl ?_)
  | (with_reducible refine' w_noP ?_)
  | (with_reducible refine' w_part ?_)
  | (with_reducible refine' w_part1 ?_)
  | (with_reducible refine' w_it ?_)
  | (with_reducible refine' w_it1 ?_)
  | ((with_reducible refine' w_lenZ ?hz ?_); (case hz => omega))
  | ((with_reducible refine' w_addZb ?hz ?_); (case hz => omega))
  | ((with_reducible refine' w_addZf ?hz ?_); (case hz => omega))
  | ((with_reducible refine' w_addZa ?hz ?_); (case hz => omega))
  | ((with_reducible refine' w_inS ?hh ?_); (case hh => walk_at "hp"))
  | ((with_reducible refine' w_ixT ?hh ?ha ?_); (case hh => assumption); (case ha => exact atI_nat (by assumption))))
local macro_rules | `(tactic| walk_at "go1") => `(tactic| first
  | (with_reducible refine' w_iR2 ?_)
  | ((with_reducible refine' w_iR21 ?h1 ?h2 ?h3 ?h4 ?_); (case h1 => omega); (case h2 => omega); (case h3 => omega); (case h4 => omega))
  | (with_reducible refine' w_nnI ?_)
  | (with_reducible refine' w_max ?_)
  | (with_reducible refine' w_break ?_)
  | (with_reducible refine' w_cont ?_))
local macro_rules | `(tactic| walk_at "go1") => `(tactic| first
  | (with_reducible refine' w_tdget ?_)
  | (with_reducible refine' w_tdin ?_)
  | (with_reducible refine' w_tdnotin ?_)
  | (with_reducible refine' w_sdput ?_)
  | (with_reducible refine' w_tdsetd ?_)
  | (with_reducible refine' w_dnew ?_))
local macro_rules | `(tactic| walk_at "go1") => `(tactic| first
  | (with_reducible refine' w_iZL ?_)
  | (with_reducible refine' w_sfld ?_)
  | (with_reducible refine' w_tfld ?_)
  | (with_reducible refine' w_make ?_)
  | fail)
local macro_rules | `(tactic| walk_at "go1") => `(tactic| first
  | (with_reducible refine' w_sfa ?_)
  | (with_reducible refine' w_tmP ?_)
  | (with_reducible refine' w_tdget2 ?_))
section
variable {P : Program} {w : World} {K : PySem.W.Frag} {mg : Str → Option Value} {base : Heap} {tk : Nat → Tok} {cl : Nat → Addr}
def gk (sc ns : List Str) (i : Nat) (m : Str) : List V := nums ((posL m 0 sc).take ((posL m 0 sc).length - (ns.take i).count m))
theorem gk_zero (sc ns : List Str) (m : Str) : gk sc ns 0 m = pos0 sc m := by
  unfold gk pos0
  rw [List.take_zero, List.count_nil, Nat.sub_zero, List.take_length]
theorem gk_end (sc ns : List Str) (m : Str) : gk (sc ++ ns) ns ns.length m = pos0 sc m := by
  unfold gk pos0
  rw [List.take_length, posL_app, List.length_append, posL_len m ns, Nat.add_sub_cancel, List.take_left]
theorem gk_step {sc ns : List Str} {i : Nat} {n : Str} (hn : ns[i]? = some n) : (∀ m, m ≠ n → gk (sc ++ ns) ns (i + 1) m = gk (sc ++ ns) ns i m) ∧ ∃ xs y, gk (sc ++ ns) ns i n = xs ++ [y] ∧ gk (sc ++ ns) ns (i + 1) n = xs := by
  have tk : ns.take (i + 1) = ns.take i ++ [n] := by rw [List.take_add_one, hn]; rfl
  refine ⟨fun m hm => ?_, ?_⟩
  · unfold gk
    rw [tk, List.count_append, List.count_singleton, if_neg (by simpa using Ne.symm hm), Nat.add_zero]
  · have c1 : (ns.take (i + 1)).count n ≤ ns.count n := (List.take_sublist _ _).count_le n
    rw [tk, List.count_append, List.count_singleton_self] at c1
    have c2 : (posL n 0 (sc ++ ns)).length = sc.count n + ns.count n := by rw [posL_len, List.count_append]
    unfold gk
    rw [tk, List.count_append, List.count_singleton_self]
    generalize posL n 0 (sc ++ ns) = L at *
    generalize (ns.take i).count n = c at *
    have hl : L.length - c = (L.length - (c + 1)) + 1 := by omega
    have hlt : L.length - (c + 1) < L.length := by omega
    refine ⟨nums (L.take (L.length - (c + 1))), .int (L[L.length - (c + 1)] : Nat), ?_, rfl⟩
    have e : L.take (L.length - c) = L.take (L.length - (c + 1)) ++ [L[L.length - (c + 1)]] := by
      rw [hl, List.take_add_one, List.getElem?_eq_getElem hlt]
      rfl
    rw [e]
    show List.map _ _ = _
    rw [List.map_append]
    rfl
def spRdEnd (CR CL : Addr) : Sp := fun vs H Q _ => ∃ (x : Addr) (H0 : Hp) (fs : List Str) (N : Nat) (l p : Lv) (r : List Lv), vs = [.ref x] ∧ RdAt CR CL H0 H x fs N l (p :: r) ∧ N ≤ 100000 ∧ 0 < l.pt ∧ ∀ H', RdAt CR CL H0 H' x fs N (p.add l.all) r → Q .non H'
theorem ok_rdend {f : Addr} {fd : FuncData} (F : Fun K "end_level" "Reader.end_level" s_Reader_end_level f fd) (T : Txt w K mg tk cl)
    (M_Level_all_nodes : C8.Met P w K mg base 1 (cl 21) "all_nodes" (spLvAll (cl 21)) []) (M_Level_add_part : C8.Met P w K mg base 1 (cl 21) "add_part" (spLvAdd (cl 21)) []) : FnOk P w K mg base CX0 2 f fd ["self"] (spRdEnd (cl 22) (cl 21)) := by
  refine F.ok sc_Reader_end_level (fun vs H Q E h => ?_) (fun cdv A outer s H vs Q E hr h => ?_)
  · obtain ⟨_, _, _, _, _, _, _, rfl, _⟩ := h
    rfl
  · obtain ⟨x, H0, fs, N, l, p, r, rfl, ⟨dx, dn, db, ll, kn, kb, BA, a, as, h⟩, hN, hpt, q⟩ := h
    obtain ⟨ow, hlen, hnum, hbd, hsz, hbot⟩ := h
    have hbot' : Bot (p.add l.all) r := by
      cases r with
      | nil => exact hbot
      | cons _ _ => exact hbot
    cases as with
    | nil => simp at hlen
    | cons a2 as =>
      refine ⟨_, (pss_cons (ps_set (i := 1) sc_Reader_end_level.nd rfl (.inl rfl) (pe_bm0 PySem.F.plainAttrs_list PySem.F.slot_list_pop PySem.F.type_list_pop mt_pop (pe_fld (pv 0) rfl))) (pss_cons (ps_for PassesOwn.never rfl (pi_list (pe_fld (pv 1) rfl)) (pg_name (i := 2) sc_Reader_end_level.nd rfl (.inl rfl)) (pss_one (ps_expr (pe_bm0 PySem.F.plainAttrs_list PySem.F.slot_list_pop PySem.F.type_list_pop mt_pop (pe_dget (by exact Nat.lt_of_le_of_lt (Nat.add_le_add_left (by decide) _) hr.units) (pe_fld (pv 0) rfl) (pv 2) (fun _ _ => rfl)))))) (pss_cons (ps_fldaug (pv 0) (pe_callB call_len_seq (by rfl) T.n_len (by decide +kernel) (pa_cons (pe_fld (pv 1) rfl) pa_nil)) in_sub) (pss_one (ps_expr (C8.pe_mt M_Level_add_part hr (by first | decide | omega) (pe_ix ix_list (pe_fld (pv 0) rfl) (pe_un un_neg pe_int) (fun _ _ => rfl)) (pa_cons (C8.pe_mt0 M_Level_all_nodes hr (by first | decide | omega) (pv 1)) pa_nil))))))), ?_⟩
      refine sl_of (σ2 := [some _, none, none]) rfl ?_
      rw [lls_cons] at ow
      have hx : H x = some (.ins (cl 22) dx (rdFs dn db ll (scp (l :: p :: r)).length)) := ow.at (by simp)
      have hll : H ll = some (.lst (lls (a2 :: as) ++ [V.ref a.1])) := ow.at (by simp)
      walk_at "st"
      walk_at "go"
      refine ⟨x, cl 22, dx, _, _, rfl, hx, T.cls_Reader, T.nf_Reader_levels, rdF_fs.2.2.2, ?_⟩
      refine w_tyL (SqL.of hll) ?_
      walk_at "go"
      have ow := Own.set 3 (u := .lst (lls (a2 :: as))) ow (by rfl)
      generalize upd H ll (.lst (lls (a2 :: as))) = H1 at *
      have ow : Own H0 H1 (headFp (cl 22) x dx dn db ll kn kb (scp (l :: p :: r)).length (lls (a2 :: as)) ++ (lvFp (cl 21) a l ++ (lvsFp (cl 21) (a2 :: as) (p :: r) ++ bdFp (gk (scp (p :: r) ++ l.ns) l.ns 0) BA))) := by
        rw [bdFp_congr (g' := gk (scp (p :: r) ++ l.ns) l.ns 0) (g := pos0 (scp (l :: p :: r))) (fun m => gk_zero _ _ m)]
        exact ow
      have hax : H1 a.1 = some (.ins (cl 21) a.2.1 (lvFs l a.2.2.1 a.2.2.2)) := ow.at (by simp [lvFp])
      have hnl : H1 a.2.2.1 = some (.lst (txts l.ns)) := ow.at (by simp [lvFp])
      refine ⟨a.1, cl 21, a.2.1, _, _, rfl, hax, T.cls_Level, T.nf_Level_names, (by rfl : List.lookup ("names" : Str) (lvFs l a.2.2.1 a.2.2.2) = some (.ref a.2.2.1)), ?_⟩
      refine w_iL1 (SqL.of hnl) ?_
      refine for_list (K := K) (a := a.2.2.1) (xs := txts l.ns) (fun i σ H' => ∃ (y : Option V), σ = [some (.ref x), some (.ref a.1), y] ∧ Own H0 H' (headFp (cl 22) x dx dn db ll kn kb (scp (l :: p :: r)).length (lls (a2 :: as)) ++ (lvFp (cl 21) a l ++ (lvsFp (cl 21) (a2 :: as) (p :: r) ++ bdFp (gk (scp (p :: r) ++ l.ns) l.ns i) BA)))) ⟨none, rfl, ow⟩ (fun i σ H' _ ⟨_, _, h⟩ => SqL.of (h.at (by simp [lvFp]))) ?_ ?_
      · rintro i z σ H2 hi ⟨y, rfl, ow2⟩
        obtain ⟨n, hn, rfl⟩ : ∃ n, l.ns[i]? = some n ∧ z = V.str n := by
          rw [List.getElem?_map] at hi
          cases e : l.ns[i]? with
          | none => rw [e] at hi; cases hi
          | some n => rw [e] at hi; cases hi; exact ⟨n, rfl, rfl⟩
        obtain ⟨g1, xs, yy, g2, g3⟩ := gk_step (sc := scp (p :: r)) hn
        have hsc : n ∈ scp (l :: p :: r) := List.mem_append_right _ (List.mem_of_getElem? hn)
        have hcov := hbd.cov n hsc
        obtain ⟨b, hb⟩ := Option.isSome_iff_exists.mp hcov
        have hval : valV kb (.inr n) = some (.ref b) := by rw [hbd.val n, hb]; rfl
        have hx2 := ow2.at (a := x) (o := .ins (cl 22) dx (rdFs dn db ll (scp (l :: p :: r)).length)) (by simp)
        have hdb2 := ow2.at (a := db) (o := .dK kb) (by simp)
        walk_at "go"
        refine ⟨x, cl 22, dx, _, _, rfl, hx2, T.cls_Reader, T.nf_Reader_bound, rdF_fs.2.1, ?_⟩
        walk_at "go"
        refine w_dgetS hdb2 hval ?_
        obtain ⟨B1, B2, rfl⟩ := lookup_split hb
        rw [bdFp_split] at ow2
        have ow3 : Own H0 H2 ((headFp (cl 22) x dx dn db ll kn kb (scp (l :: p :: r)).length (lls (a2 :: as)) ++ (lvFp (cl 21) a l ++ (lvsFp (cl 21) (a2 :: as) (p :: r) ++ bdFp (gk (scp (p :: r) ++ l.ns) l.ns i) B1))) ++ (b, .lst (gk (scp (p :: r) ++ l.ns) l.ns i n)) :: bdFp (gk (scp (p :: r) ++ l.ns) l.ns i) B2) := by
          simpa only [List.append_assoc] using ow2
        rw [g2] at ow3
        have hb3 := ow3.at (a := b) (o := .lst (xs ++ [yy])) (by simp)
        refine w_tyL (SqL.of hb3) ?_
        walk_at "go"
        refine ⟨_, rfl, ?_⟩
        have ow4 := ow3.mid (u := .lst xs)
        rw [bdFp_upd hbd.nd g1, g3]
        simpa only [List.append_assoc] using ow4
      · rintro σ H2 ⟨y, rfl, ow2⟩
        rw [List.length_map, bdFp_congr (g' := gk (scp (p :: r) ++ l.ns) l.ns l.ns.length) (g := pos0 (scp (p :: r))) (fun m => gk_end _ _ m)] at ow2
        have hx2 := ow2.at (a := x) (o := .ins (cl 22) dx (rdFs dn db ll (scp (l :: p :: r)).length)) (by simp)
        have hax2 := ow2.at (a := a.1) (o := .ins (cl 21) a.2.1 (lvFs l a.2.2.1 a.2.2.2)) (by simp [lvFp])
        have hnl2 := ow2.at (a := a.2.2.1) (o := .lst (txts l.ns)) (by simp [lvFp])
        walk_at "go"
        refine ⟨x, cl 22, dx, _, _, rfl, hx2, T.cls_Reader, T.nf_Reader_depth, rdF_fs.2.2.1, ?_⟩
        walk_at "go"
        refine ⟨a.1, cl 21, a.2.1, _, _, rfl, hax2, T.cls_Level, T.nf_Level_names, (by rfl : List.lookup ("names" : Str) (lvFs l a.2.2.1 a.2.2.2) = some (.ref a.2.2.1)), ?_⟩
        walk_at "go"
        rw [List.length_map]
        refine ⟨_, _, rfl, rfl, ?_⟩
        refine ⟨dx, _, hx2, by show 4 < 1000; decide, ?_⟩
        have ow3 := Own.set 0 (u := .ins (cl 22) dx (putF "depth" (.int (((scp (l :: p :: r)).length : Int) - (l.ns.length : Int))) (rdFs dn db ll (scp (l :: p :: r)).length))) ow2 (by rfl)
        generalize upd H2 x (.ins (cl 22) dx (putF "depth" (.int (((scp (l :: p :: r)).length : Int) - (l.ns.length : Int))) (rdFs dn db ll (scp (l :: p :: r)).length))) = H3 at *
        have ed : putF "depth" (.int (((scp (l :: p :: r)).length : Int) - (l.ns.length : Int))) (rdFs dn db ll (scp (l :: p :: r)).length) = rdFs dn db ll (scp (p :: r)).length := by
          have e1 : ((scp (l :: p :: r)).length : Int) - (l.ns.length : Int) = ((scp (p :: r)).length : Int) := by
            rw [scp_cons l (p :: r), List.length_append]
            omega
          rw [e1]
          rfl
        have ow3 : Own H0 H3 (headFp (cl 22) x dx dn db ll kn kb (scp (p :: r)).length (lls (a2 :: as)) ++ (lvFp (cl 21) a l ++ (lvFp (cl 21) a2 p ++ (lvsFp (cl 21) as r ++ bdFp (pos0 (scp (p :: r))) BA)))) := by
          have := ow3
          rw [ed] at this
          simp only [lvsFp, List.append_assoc] at this
          exact this
        have hx3 := ow3.at (a := x) (o := .ins (cl 22) dx (rdFs dn db ll (scp (p :: r)).length)) (by simp)
        have hll3 := ow3.at (a := ll) (o := .lst (lls (a2 :: as))) (by simp)
        rw [lls_cons] at hll3
        have hax3 := ow3.at (a := a.1) (o := .ins (cl 21) a.2.1 (lvFs l a.2.2.1 a.2.2.2)) (by simp [lvFp])
        have hnl3 := ow3.at (a := a.2.2.1) (o := .lst (txts l.ns)) (by simp [lvFp])
        have hdl3 := ow3.at (a := a.2.2.2) (o := .lst l.nd) (by simp [lvFp])
        have ha23 := ow3.at (a := a2.1) (o := .ins (cl 21) a2.2.1 (lvFs p a2.2.2.1 a2.2.2.2)) (by simp [lvFp])
        have hz : l.size + (p.size + sizes r) ≤ 200000 := by
          have : sizes (l :: p :: r) = l.size + (p.size + sizes r) := rfl
          omega
        walk_at "go"
        refine ⟨x, cl 22, dx, _, _, rfl, hx3, T.cls_Reader, T.nf_Reader_levels, rdF_fs.2.2.2, ?_⟩
        walk_at "go"
        refine ⟨a2.1, a2.2.1, _, rfl, ha23, rfl, ?_⟩
        walk_at "go"
        refine ⟨a.1, a.2.1, _, rfl, hax3, rfl, ?_⟩
        walk_at "go"
        refine ⟨a.1, a.2.1, a.2.2.1, a.2.2.2, l, rfl, hax3, hnl3, hdl3, by omega, fun H4 qq e4 hq3 hq4 => ?_⟩
        have ow4 := ow3.mono e4
        have ow5 : Own H0 H4 (lvFp (cl 21) a2 p ++ (headFp (cl 22) x dx dn db ll kn kb (scp (p :: r)).length (lls (a2 :: as)) ++ (lvsFp (cl 21) as r ++ bdFp (pos0 (scp (p :: r))) BA))) := by
          have o1 := ow4.sub (G := headFp (cl 22) x dx dn db ll kn kb (scp (p :: r)).length (lls (a2 :: as)) ++ (lvFp (cl 21) a2 p ++ (lvsFp (cl 21) as r ++ bdFp (pos0 (scp (p :: r))) BA))) (List.Sublist.append_left (List.sublist_append_right _ _) _)
          exact o1.perm (List.perm_append_comm_assoc _ _ _)
        have hdl2 : H3 a2.2.2.2 = some (.lst p.nd) := ow3.at (by simp [lvFp])
        refine ⟨a2.1, a2.2.1, a2.2.2.1, a2.2.2.2, qq, p, l.all, H0, _, rfl, ow5, hq4, (ne_of_none hdl2 hq3).symm, ?_, fun H6 ow6 => ?_⟩
        · have h1 := all_len hpt
          have h2 : p.nd.length ≤ p.size := by unfold Lv.size; omega
          omega
        walk_at "go"
        refine q H6 ⟨dx, dn, db, ll, kn, kb, BA, a2, as, ow6.perm (List.perm_append_comm_assoc _ _ _), by simpa using hlen, hnum, ⟨hbd.nd, hbd.val, fun n hn => hbd.cov n (List.mem_append_left _ hn), hbd.len⟩, ?_, hbot'⟩
        have h1 := all_len hpt
        have h2 := size_add p l.all
        have h3 : sizes (l :: p :: r) = l.size + (p.size + sizes r) := rfl
        show (p.add l.all).size + sizes r ≤ 2 * N
        omega
end
end Ly
set_option Elab.async false
set_option linter.all false
set_option maxRecDepth 100000
set_option maxHeartbeats 8000000
namespace Ly
open PySem PySem.Spec PyProof.Rows L2 Evl
local macro_rules | `(tactic| walk_at "ne") => `(tactic| first
  | assumption
  | ((refine' Ne.symm ?hq); (case hq => assumption))
  | ((refine' ne_of_none ?nh1 ?nh2); (case nh2 => assumption); (case nh1 => walk_at "hp"))
  | ((refine' Ne.symm (ne_of_none ?nh1 ?nh2)); (case nh2 => assumption); (case nh1 => walk_at "hp")))
local macro_rules | `(tactic| walk_at "hp") => `(tactic| first
  | assumption
  | exact upd_same
  | ((refine' SqL.of ?hq); (case hq => walk_at "hp"))
  | ((refine' SqT.of ?hq); (case hq => walk_at "hp"))
  | ((refine' (upd_ne ?hne).trans ?hrest); (case hne => walk_at "ne"); (case hrest => walk_at "hp"))
  | ((refine' ly_at ?hex ?hh); (case hex => assumption); (case hh => walk_at "hp"))
  | ((refine' ly_atF ?hex ?hnn ?hh); (case hex => assumption); (case hh => walk_at "hp"); (case hnn => walk_at "ne"))
  | ((refine' ex_t ?hex ?hh); (case hh => assumption); (case hex => walk_at "ex"))
  | ((refine' ex_l ?hex ?hh); (case hh => assumption); (case hex => walk_at "ex")))
local macro_rules | `(tactic| walk_at "ex") => `(tactic| first
  | assumption
  | exact Ex.refl _
  | ((refine' ex_new ?xa ?xb); (case xb => assumption); (case xa => walk_at "ex"))
  | ((refine' ex_upd ?xa ?xb); (case xb => walk_at "free"); (case xa => walk_at "ex"))
  | ((refine' Ex.trans ?xa ?xb); (case xb => assumption); (case xa => walk_at "ex")))
local macro_rules | `(tactic| walk_at "free") => `(tactic| first
  | assumption
  | ((refine' fresh_back ?xa ?xb); (case xb => assumption); (case xa => walk_at "ex")))
local macro_rules | `(tactic| walk_at "fr") => `(tactic| first
  | assumption
  | exact Fr.refl _ _
  | ((refine' Fr.own ?hq); (case hq => walk_at "fr"))
  | ((refine' Fr.new ?xa ?xb); (case xb => assumption); (case xa => walk_at "fr"))
  | ((refine' Fr.mut ?xa ?xb); (case xb => assumption); (case xa => walk_at "fr"))
  | ((refine' Fr.trans ?xa ?xb); (case xb => assumption); (case xa => walk_at "fr"))
  | ((refine' Fr.trans ?xa (Fr.ex ?xb)); (case xb => assumption); (case xa => walk_at "fr")))
local macro_rules | `(tactic| walk_at "go1") => `(tactic| first
  | (with_reducible refine' w_seq ?_)
  | (with_reducible refine' w_asg ?_)
  | (with_reducible refine' w_ret ?_)
  | (with_reducible refine' w_drop ?_)
  | (with_reducible refine' w_if ?_)
  | (with_reducible refine' w_next ?_)
  | (with_reducible refine' w_name ?_)
  | (with_reducible refine' w_sub ?_)
  | ((with_reducible refine' w_var ?hv ?_); (case hv => exact rfl))
  | (with_reducible refine' w_c ?_)
  | (with_reducible refine' w_op ?_)
  | (with_reducible refine' w_un ?_)
  | (with_reducible refine' w_ch ?_)
  | (with_reducible refine' w_I0 ?_)
  | ((with_reducible refine' w_I ?hc ?_); (case hc => first | (exact ly_mulL (by decide) (by decide)) | (exact ly_mulR (by decide) (by decide)) | (exact ly_mulL (by omega) (by omega)) | (show (_ : Int) ≠ 0; decide) | (show (_ : Int) ≠ 0; omega) | (exact ⟨by decide, by decide⟩) | (exact ⟨by omega, by omega⟩)))
  | (with_reducible refine' w_U ?_)
  | ((with_reducible refine' w_eq ?hs ?_); (case hs => exact rfl))
  | ((with_reducible refine' w_ne ?hs ?_); (case hs => exact rfl))
  | (with_reducible refine' w_isB ?_)
  | (with_reducible refine' w_notB ?_)
  | (with_reducible refine' w_nil ?_)
  | (with_reducible refine' w_cons ?_)
  | (with_reducible refine' w_tup ?_)
  | (with_reducible refine' w_lst ?_)
  | (with_reducible refine' w_cb ?_)
  | (with_reducible refine' w_call ?_)
  | (with_reducible refine' w_bm ?_)
  | (with_reducible refine' w_bm0 ?_)
  | ((with_reducible refine' w_app ?hh ?hz ?_); (case hh => walk_at "hp"); (case hz => first | exact ly_lt (by omega) | exact ly_lt (by simp only [List.length_append, List.length_map, List.length_cons, List.length_nil]; omega)))
  | ((with_reducible refine' w_popA ?hh ?_); (case hh => walk_at "hp"))
  | ((with_reducible refine' w_ext ?hh ?hh2 ?hz ?_); (case hh => walk_at "hp"); (case hh2 => walk_at "hp"))
  | ((with_reducible refine' w_ixL ?hh ?ha ?_); (case hh => walk_at "hp"); (case ha => first | exact rfl | exact at_map (by omega) | exact atI_last _ _ | ((refine' at_of ?ae ?ah); (case ah => assumption); (case ae => omega))))
  | ((with_reducible refine' w_ixT ?hh ?ha ?_); (case hh => walk_at "hp"); (case ha => first | exact rfl | exact at_map (by omega) | exact atI_last _ _ | ((refine' at_of ?ae ?ah); (case ah => assumption); (case ae => omega))))
  | ((with_reducible refine' w_cat ?hh ?hh2 ?hz ?_); (case hh => walk_at "hp"); (case hh2 => walk_at "hp"))
  | ((with_reducible refine' w_setL ?hh ?ha ?_); (case hh => walk_at "hp"); (case ha => exact rfl))
  | (with_reducible refine' w_test ?_)
  | (with_reducible refine' w_tB ?_)
  | (with_reducible refine' w_bl ?_)
  | (with_reducible refine' w_and ?_)
  | (with_reducible refine' w_or ?_)
  | (with_reducible refine' w_not ?_)
  | (with_reducible refine' w_andV ?_)
  | (with_reducible refine' w_orV ?_)
  | (with_reducible refine' w_notV ?_)
  | (with_reducible refine' w_ifE ?_)
  | (with_reducible refine' w_for ?_)
  | ((with_reducible refine' w_nin ?hh ?_); (case hh => walk_at "hp"))
  | ((with_reducible refine' w_sorted ?hh ?_); (case hh => walk_at "hp"))
  | (with_reducible refine' w_tsadd ?_)
  | ((with_reducible refine' w_tsadd1 ?hh ?_); (case hh => walk_at "hp"))
  | ((with_reducible refine' w_sadd ?hh ?hr ?_); (case hh => walk_at "hp"); (case hr => omega))
  | (with_reducible refine' w_iZ ?_)
  | ((with_reducible refine' w_iZ1 ?hh ?hh2 ?_); (case hh => walk_at "hp"); (case hh2 => walk_at "hp"))
  | (with_reducible refine' w_iS ?_)
  | (with_reducible refine' w_iS1 ?_)
  | ((with_reducible refine' w_gtup ?hh ?hn ?_); (case hh => walk_at "hp"); (case hn => exact rfl))
  | (with_reducible refine' w_gcons ?_)
  | (with_reducible refine' w_gnil ?_)
  | (with_reducible refine' w_js ?_)
  | (with_reducible refine' w_jsn ?_)
  | ((with_reducible refine' w_js1 ?hl ?_); (case hl => decide +kernel))
  | (with_reducible refine' w_fmt ?_)
  | ((with_reducible refine' w_fmt1 ?hl ?_); (case hl => decide +kernel))
  | (with_reducible refine' w_callS ?_)
  | ((with_reducible refine' w_truL ?hh ?_); (case hh => walk_at "hp"))
  | (with_reducible refine' w_lc ?_)
  | (with_reducible refine' w_yes ?_)
  | ((with_reducible refine' w_wipe ?he ?_); (case he => exact rfl))
  | (with_reducible refine' w_iL ?_)
  | (with_reducible refine' w_iT ?_)
  | (with_reducible refine' w_iR ?_)
  | ((with_reducible refine' w_iL1 ?hh ?_); (case hh => walk_at "hp"))
  | ((with_reducible refine' w_iT1 ?hh ?_); (case hh => walk_at "hp"))
  | ((with_reducible refine' w_iR1 ?h1 ?h2 ?_); (case h1 => omega); (case h2 => omega))
  | ((with_reducible refine' w_aug ?hv ?_); (case hv => exact rfl))
  | (with_reducible refine' w_ipI ?_)
  | ((with_reducible refine' w_isi ?hy ?hk ?_); (case hy => walk_at "ty"); (case hk => walk_at "kit"))
  | ((with_reducible refine' w_int ?_))
  | ((with_reducible refine' w_intB ?_))
  | ((with_reducible refine' w_abs ?_))
  | ((with_reducible refine' w_lenL ?hh ?_); (case hh => walk_at "hp"))
  | ((with_reducible refine' w_lenT ?hh ?_); (case hh => walk_at "hp"))
  | ((with_reducible refine' w_tupL ?hh ?_); (case hh => walk_at "hp"))
  | ((with_reducible refine' w_tupT ?hh ?_); (case hh => walk_at "hp"))
  | ((with_reducible refine' w_catA ?hh ?hh2 ?hz ?_); (case hh => walk_at "hp"); (case hh2 => walk_at "hp"); (case hz => walk_at "len"))
  | ((with_reducible refine' w_repB ?hh ?hne ?h2 ?h3 ?hz ?_); (case hh => walk_at "hp"); (case hne => simp); (case h2 => omega); (case h3 => omega); (case hz => exact Nat.le_of_ble_eq_true rfl))
  | ((with_reducible refine' w_eqN ?hh ?hh2 ?n1 ?n2 ?_); (case hh => walk_at "hp"); (case hh2 => walk_at "hp"); (case n1 => walk_at "nd"); (case n2 => walk_at "nd"))
  | ((with_reducible refine' w_neN ?hh ?hh2 ?n1 ?n2 ?_); (case hh => walk_at "hp"); (case hh2 => walk_at "hp"); (case n1 => walk_at "nd"); (case n2 => walk_at "nd"))
  | ((with_reducible refine' w_eqL ?hh ?hh2 ?n1 ?n2 ?_); (case hh => walk_at "hp"); (case hh2 => walk_at "hp"); (case n1 => walk_at "nd"); (case n2 => walk_at "nd"))
  | ((with_reducible refine' w_neL ?hh ?hh2 ?n1 ?n2 ?_); (case hh => walk_at "hp"); (case hh2 => walk_at "hp"); (case n1 => walk_at "nd"); (case n2 => walk_at "nd"))
  | ((with_reducible refine' w_neNon ?hh2 ?n2 ?_); (case hh2 => walk_at "hp"); (case n2 => walk_at "nd"))
  | ((with_reducible refine' w_eqNon ?hh2 ?n2 ?_); (case hh2 => walk_at "hp"); (case n2 => walk_at "nd"))
  | ((with_reducible refine' w_slA ?hh ?_); (case hh => walk_at "hp"))
  | ((with_reducible refine' w_disp ?hz ?_); (case hz => exact sz_of (Nat.le_of_ble_eq_true rfl)))
  | ((with_reducible refine' w_tyL ?hh ?_); (case hh => walk_at "hp"))
  | (with_reducible refine' iteT ?_)
  | (with_reducible refine' iteF ?_)
  | (with_reducible refine' w_nT ?_)
  | (with_reducible refine' w_nn ?_)
  | (with_reducible refine' w_nnT ?_)
  | (with_reducible refine' w_nnR ?_)
  | (with_reducible refine' w_neG ?_)
  | (with_reducible refine' w_eqG ?_)
  | (with_reducible refine' w_neS ?_)
  | (with_reducible refine' w_eqS ?_)
  | (with_reducible refine' w_neSb ?_)
  | (with_reducible refine' w_eqSb ?_)
  | (with_reducible refine' w_deIS ?_)
  | (with_reducible refine' w_deSI ?_)
  | (with_reducible refine' w_deISn ?_)
  | ((with_reducible refine' w_deST ?he ?_); (case he => decide +kernel))
  | ((with_reducible refine' w_deSF ?he ?_); (case he => decide +kernel))
  | ((with_reducible refine' w_deSTn ?he ?_); (case he => decide +kernel))
  | ((with_reducible refine' w_deSFn ?he ?_); (case he => decide +kernel))
  | (with_reducible refine' w_nF ?_)
  | dsimp only [Bool.not_true, Bool.not_false])
local macro_rules | `(tactic| walk_at "ty") => `(tactic| first
  | exact .base (.int _) | exact .base (.str _) | exact .base (.bl _) | exact .base .non
  | ((refine' tyx_t ?hq); (case hq => walk_at "hp")) | ((refine' tyx_l ?hq); (case hq => walk_at "hp")) | ((refine' .base (.tup ?hq)); (case hq => walk_at "hp")) | assumption)
local macro_rules | `(tactic| walk_at "go") => `(tactic| repeat walk_at "go1")
local macro_rules | `(tactic| walk_at "st") => `(tactic| try dsimp only [cxOf, Cx.nox, Cx.wish])
local macro_rules | `(tactic| walk_at "kit") => `(tactic| with_reducible first | exact kit_int_int | exact kit_int_str | exact kit_int_bool | exact kit_int_tuple | exact kit_int_list | exact kit_str_int | exact kit_str_str | exact kit_str_bool | exact kit_str_tuple | exact kit_str_list | exact kit_bool_int | exact kit_bool_str | exact kit_bool_bool | exact kit_bool_tuple | exact kit_bool_list | exact kit_NoneType_int | exact kit_NoneType_str | exact kit_NoneType_bool | exact kit_NoneType_tuple | exact kit_NoneType_list | exact kit_list_int | exact kit_list_str | exact kit_list_bool | exact kit_list_tuple | exact kit_list_list | exact kit_tuple_int | exact kit_tuple_str | exact kit_tuple_bool | exact kit_tuple_tuple | exact kit_tuple_list)
local macro_rules | `(tactic| walk_at "nd") => `(tactic| first
  | assumption
  | exact Tm.nds _
  | exact Nds.nil
  | exact Nds.ofInts _
  | ((refine' Nds.cons ?na ?nb); (case na => first | exact Nds.I _ | exact Nds.L | exact Nds.A); (case nb => walk_at "nd"))
  | ((refine' Nds.app ?na ?nb); (case na => walk_at "nd"); (case nb => walk_at "nd"))
  | ((refine' Nds.rep ?na _); (case na => walk_at "nd")))
local macro_rules | `(tactic| walk_at "len") => `(tactic| first
  | exact ly_sz (by omega)
  | ((simp only [List.length_append, List.length_cons, List.length_nil, List.length_map, PyProof.Rows.lm_len_rep_flat]); exact ly_sz (by omega)))
local macro_rules | `(tactic| walk_at "go1") => `(tactic| first
  | (with_reducible refine' w_kget2 ?_)
  | (with_reducible refine' w_isRN ?_)
  | (with_reducible refine' w_isNN ?_)
  | (with_reducible refine' w_isIN ?_)
  | ((with_reducible refine' w_kg ?hd ?_); (case hd => assumption)))
local macro_rules | `(tactic| walk_at "go1") => `(tactic| first
  | ((with_reducible refine' w_extT ?hh ?hh2 ?hz ?_); (case hh => walk_at "hp"); (case hh2 => walk_at "hp"))
  | ((with_reducible refine' w_I ?hc ?_); (case hc => exact ⟨by decide, by decide, by decide⟩))
  | (with_reducible refine' w_sl ?_)
  | (with_reducible refine' w_noP ?_)
  | (with_reducible refine' w_part ?_)
  | (with_reducible refine' w_part1 ?_)
  | (with_reducible refine' w_it ?_)
  | (with_reducible refine' w_it1 ?_)
  | ((with_reducible refine' w_lenZ ?hz ?_); (case hz => omega))
  | ((with_reducible refine' w_addZb ?hz ?_); (case hz => omega))
  | ((with_reducible refine' w_addZf ?hz ?_); (case hz => omega))
  | ((with_reducible refine' w_addZa ?hz ?_); (case hz => omega))
  | ((with_reducible refine' w_inS ?hh ?_); (case hh => walk_at "hp"))
  | ((with_reducible refine' w_ixT ?hh ?ha ?_); (case hh => assumption); (case ha => exact atI_nat (by assumption))))
local macro_rules | `(tactic| walk_at "go1") => `(tactic| first
  | (with_reducible refine' w_iR2 ?_)
  | ((with_reducible refine' w_iR21 ?h1 ?h2 ?h3 ?h4 ?_); (case h1 => omega); (case h2 => omega); (case h3 => omega); (case h4 => omega))
  | (with_reducible refine' w_nnI ?_)
  | (with_reducible refine' w_max ?_)
  | (with_reducible refine' w_break ?_)
  | (with_reducible refine' w_cont ?_))
local macro_rules | `(tactic| walk_at "go1") => `(tactic| first
  | (with_reducible refine' w_tdget ?_)
  | (with_reducible refine' w_tdin ?_)
  | (with_reducible refine' w_tdnotin ?_)
  | (with_reducible refine' w_sdput ?_)
  | (with_reducible refine' w_tdsetd ?_)
  | (with_reducible refine' w_dnew ?_))
local macro_rules | `(tactic| walk_at "go1") => `(tactic| first
  | (with_reducible refine' w_iZL ?_)
  | (with_reducible refine' w_sfld ?_)
  | (with_reducible refine' w_tfld ?_)
  | (with_reducible refine' w_make ?_)
  | fail)
local macro_rules | `(tactic| walk_at "go1") => `(tactic| first
  | (with_reducible refine' w_sfa ?_)
  | (with_reducible refine' w_tmP ?_)
  | (with_reducible refine' w_tdget2 ?_))
section
variable {P : Program} {w : World} {K : PySem.W.Frag} {mg : Str → Option Value} {base : Heap} {tk : Nat → Tok} {cl : Nat → Addr}
def spRdAbs (CR CL : Addr) : Sp := fun vs H Q _ => ∃ (x : Addr) (i : Int) (H0 : Hp) (fs : List Str) (N : Nat) (l : Lv) (r : List Lv), vs = [.ref x, .int i] ∧ RdAt CR CL H0 H x fs N l r ∧ N ≤ 100000 ∧ l.whole = true ∧ ∀ H', RdAt CR CL H0 H' x fs N (closeAbs l r).1 (closeAbs l r).2 → Q .non H'
theorem whole_pt {l : Lv} (h : l.whole = true) : 0 < l.pt := by
  unfold Lv.whole at h
  rw [Bool.and_eq_true] at h
  exact of_decide_eq_true h.2
theorem ok_rdabs {f : Addr} {fd : FuncData} (F : Fun K "end_abstractions" "Reader.end_abstractions" s_Reader_end_abstractions f fd) (T : Txt w K mg tk cl)
    (M_Level_is_whole : C8.Met P w K mg base 1 (cl 21) "is_whole" (spLvWhole (cl 21)) []) (M_Reader_end_level : C8.Met P w K mg base 2 (cl 22) "end_level" (spRdEnd (cl 22) (cl 21)) []) : FnOk P w K mg base CX0 3 f fd ["self", "at"] (spRdAbs (cl 22) (cl 21)) := by
  refine F.ok sc_Reader_end_abstractions (fun vs H Q E h => ?_) (fun cdv A outer s H vs Q E hr h => ?_)
  · obtain ⟨_, _, _, _, _, _, _, rfl, _⟩ := h
    rfl
  · obtain ⟨x, i, H0, fs, N, l, r, rfl, h, hN, hw, q⟩ := h
    refine ⟨_, (pss_cons (ps_if (pt_not (pt_val (C8.pe_mt0 M_Level_is_whole hr (by first | decide | omega) (pe_ix ix_list (pe_fld (pv 0) rfl) (pe_un un_neg pe_int) (fun _ _ => rfl))))) (pss_one ps_dead) pss_nil) (pss_one (ps_while PassesOwn.never (pt_cmpR op_eq (pe_fld (pe_ix ix_list (pe_fld (pv 0) rfl) (pe_un un_neg pe_int) (fun _ _ => rfl)) rfl) pe_str (nomark _)) (pss_one (ps_expr (C8.pe_mt0 M_Reader_end_level hr (by first | decide | omega) (pv 0))))))), ?_⟩
    refine sl_of (σ2 := [some _, some _]) rfl ?_
    obtain ⟨dx, dn, db, ll, ax, adx, nl, dl, d, ys, hx, hll, hax, -, -, -⟩ := h.top
    walk_at "st"
    walk_at "go"
    refine ⟨x, cl 22, dx, _, _, rfl, hx, T.cls_Reader, T.nf_Reader_levels, rdF_fs.2.2.2, ?_⟩
    walk_at "go"
    refine ⟨ax, adx, _, rfl, hax, rfl, ?_⟩
    walk_at "go"
    refine ⟨ax, adx, nl, dl, l, rfl, hax, ?_⟩
    rw [hw]
    walk_at "go"
    refine w_while (fun m σ H' => ∃ (l' : Lv) (r' : List Lv), σ = [some (.ref x), some (.int i)] ∧ RdAt (cl 22) (cl 21) H0 H' x fs N l' r' ∧ closeAbs l' r' = closeAbs l r ∧ 0 < l'.pt ∧ m = r'.length) r.length ⟨l, r, rfl, h, rfl, whole_pt hw, rfl⟩ ?_
    rintro m σ H1 ⟨l', r', rfl, h1, hc, hp, rfl⟩
    clear hx hll hax
    obtain ⟨dx, dn, db, ll, ax, adx, nl, dl, d, ys, hx, hll, hax, -, -, -⟩ := h1.top
    walk_at "go"
    refine ⟨x, cl 22, dx, _, _, rfl, hx, T.cls_Reader, T.nf_Reader_levels, rdF_fs.2.2.2, ?_⟩
    walk_at "go"
    refine ⟨ax, cl 21, adx, _, _, rfl, hax, T.cls_Level, T.nf_Level_opener, (by rfl : List.lookup ("opener" : Str) (lvFs l' nl dl) = some (.str l'.op)), ?_⟩
    walk_at "go"
    refine w_brS (fun ho => ?_) (fun ho => ?_)
    · cases r' with
      | nil =>
        have := h1.bot
        rw [show l'.op = "" from this] at ho
        exact absurd ho (by decide +kernel)
      | cons p r2 =>
        refine ⟨fun σ' H' => ∃ (l' : Lv) (r' : List Lv), σ' = [some (.ref x), some (.int i)] ∧ RdAt (cl 22) (cl 21) H0 H' x fs N l' r' ∧ closeAbs l' r' = closeAbs l r ∧ 0 < l'.pt ∧ r2.length = r'.length, fun σ' H' ⟨l2, r3, a1, a2, a3, a4, a5⟩ => ⟨_, ?_, l2, r3, a1, a2, a3, a4, a5⟩, ?_⟩
        · simp
        walk_at "go"
        refine ⟨x, dx, _, rfl, hx, rfl, ?_⟩
        walk_at "go"
        refine ⟨x, H0, fs, N, l', p, r2, rfl, h1, hN, hp, fun H2 h2 => ?_⟩
        walk_at "go"
        exact ⟨_, r2, rfl, h2, by rw [← hc, close_go ho], Nat.succ_pos _, rfl⟩
    · walk_at "go"
      rw [close_stop ho] at hc
      rw [← hc] at q
      exact q H1 h1
def spRdOpen (CR CL : Addr) : Sp := fun vs H Q _ => ∃ (x : Addr) (o : Str) (i : Int) (H0 : Hp) (fs : List Str) (N : Nat) (l : Lv) (r : List Lv), vs = [.ref x, .str o, .int i] ∧ RdAt CR CL H0 H x fs N l r ∧ N ≤ 100000 ∧ l.nm = false ∧ r.length + 1 ≤ 60 ∧ ∀ H', RdAt CR CL H0 H' x fs N (Lv.new o) (l :: r) → Q .non H'
theorem ok_rdopen {f : Addr} {fd : FuncData} (F : Fun K "read_opener" "Reader.read_opener" s_Reader_read_opener f fd) (T : Txt w K mg tk cl)
    (D1 : DefC P w K mg base CX0 1 (cl 21) ["self", "opener"] (spLvInit (cl 21))) : FnOk P w K mg base CX0 3 f fd ["self", "token", "at"] (spRdOpen (cl 22) (cl 21)) := by
  obtain ⟨f1, fd1, M_Level, b_Level_init, G_Level_init⟩ := D1
  refine F.ok sc_Reader_read_opener (fun vs H Q E h => ?_) (fun cdv A outer s H vs Q E hr h => ?_)
  · obtain ⟨_, _, _, _, _, _, _, _, rfl, _⟩ := h
    rfl
  · obtain ⟨x, o, i, H0, fs, N, l, r, rfl, h, hN, hnm, hlen, q⟩ := h
    refine ⟨_, (pss_cons (ps_if (PW.pt (pw_or (pt_val (pe_fld (pe_ix ix_list (pe_fld (pv 0) rfl) (pe_un un_neg pe_int) (fun _ _ => rfl)) rfl)) (pw_or1 (pt_cmpR op_gt (pe_callB call_len_seq (by rfl) T.n_len (by decide +kernel) (pa_cons (pe_fld (pv 0) rfl) pa_nil)) (pe_glob (v := .int 60) rfl T.g_MOST_OPEN ⟨_, rfl⟩) (nomark _))))) (pss_one ps_dead) pss_nil) (pss_one (ps_expr (pe_bm PySem.F.plainAttrs_list PySem.F.slot_list_append PySem.F.type_list_append mt_append (pe_fld (pv 0) rfl) (pa_cons (pe_make M_Level G_Level_init (hr.mono (by first | decide | omega)) (by rfl) T.g_Level b_Level_init .nil pass0 (pa_cons (pv 1) pa_nil)) pa_nil))))), ?_⟩
    refine sl_of (σ2 := [some _, some _, some _]) rfl ?_
    obtain ⟨dx, dn, db, ll, ax, adx, nl, dl, d, ys, hx, hll, hax, -, -, hys⟩ := h.top
    walk_at "st"
    walk_at "go"
    refine ⟨x, cl 22, dx, _, _, rfl, hx, T.cls_Reader, T.nf_Reader_levels, rdF_fs.2.2.2, ?_⟩
    walk_at "go"
    refine ⟨ax, cl 21, adx, _, _, rfl, hax, T.cls_Level, T.nf_Level_naming, (by rfl : List.lookup ("naming" : Str) (lvFs l nl dl) = some (.bl l.nm)), ?_⟩
    rw [hnm]
    walk_at "go"
    refine ⟨x, cl 22, dx, _, _, rfl, hx, T.cls_Reader, T.nf_Reader_levels, rdF_fs.2.2.2, ?_⟩
    walk_at "go"
    refine w_br (fun z => ?_) (fun z => ?_)
    · rw [List.length_append, List.length_singleton, hys] at z
      omega
    walk_at "go"
    refine ⟨x, cl 22, dx, _, _, rfl, hx, T.cls_Reader, T.nf_Reader_levels, rdF_fs.2.2.2, ?_⟩
    refine w_tyL (SqL.of hll) ?_
    walk_at "go"
    intro lx ldx hlx hldx hne
    obtain ⟨dx, dn, db, ll2, kn, kb, BA, a, as, h⟩ := h
    have hx2 : H x = some (.ins (cl 22) dx (rdFs dn db ll2 (scp (l :: r)).length)) := h.own.at (by simp)
    have ell : ll = ll2 := by
      have := hx2.symm.trans hx
      simp only [Option.some.injEq, HO.ins.injEq, rdFs, List.cons.injEq, Prod.mk.injEq, V.ref.injEq] at this
      exact this.2.2.2.2.2.1.2.symm
    subst ell
    have hll2 : H ll = some (.lst (lls (a :: as))) := h.own.at (by simp)
    have eys : ys ++ [V.ref ax] = lls (a :: as) := by
      have := hll.symm.trans hll2
      simpa using this
    rw [eys] at hll
    have ow5 := h.own.new (u := .own lx) hldx
    have ow6 := ow5.new (a := lx) (u := .ins (cl 21) ldx []) (by rw [upd_ne hne.symm]; exact hlx)
    refine ⟨lx, ldx, o, H0, _, rfl, ow6, fun H7 nl dl ow7 => ⟨rfl, ?_⟩⟩
    walk_at "go"
    have ow8 : Own H0 H7 (lvFp (cl 21) (lx, ldx, nl, dl) (Lv.new o) ++ (headFp (cl 22) x dx dn db ll kn kb (scp (l :: r)).length (lls (a :: as)) ++ (lvFp (cl 21) a l ++ (lvsFp (cl 21) as r ++ bdFp (pos0 (scp (l :: r))) BA)))) := ow7.sub (List.Sublist.append_left (List.sublist_cons_self _ _) _)
    have hll8 := ow8.at (a := ll) (o := .lst (lls (a :: as))) (by simp [lvFp])
    refine w_app hll8 (ly_lt (by rw [lls, List.length_reverse, List.length_map, List.length_cons, h.len]; omega)) ?_
    have ow9 := Own.set 6 (u := .lst (lls (a :: as) ++ [V.ref lx])) ow8 (by rfl)
    refine q _ ⟨dx, dn, db, ll, kn, kb, BA, (lx, ldx, nl, dl), a :: as, ?_, by simp [h.len], h.num, ?_, ?_, h.bot⟩
    · have es : scp (Lv.new o :: l :: r) = scp (l :: r) := List.append_nil _
      have o2 := ow9.perm (List.perm_append_comm_assoc (lvFp (cl 21) (lx, ldx, nl, dl) (Lv.new o)) (headFp (cl 22) x dx dn db ll kn kb (scp (l :: r)).length (lls (a :: as) ++ [V.ref lx])) _)
      rw [es, show lls ((lx, ldx, nl, dl) :: a :: as) = lls (a :: as) ++ [V.ref lx] from lls_cons _ _]
      simp only [lvsFp, List.append_assoc] at o2 ⊢
      exact o2
    · have es : scp (Lv.new o :: l :: r) = scp (l :: r) := List.append_nil _
      rw [es]
      exact h.bd
    · have := h.sz
      show (Lv.new o).size + sizes (l :: r) ≤ 2 * N
      have e : (Lv.new o).size = 0 := rfl
      omega
end
end Ly
set_option Elab.async false
set_option linter.all false
set_option maxRecDepth 100000
set_option maxHeartbeats 8000000
namespace Ly
open PySem PySem.Spec PyProof.Rows L2 Evl
local macro_rules | `(tactic| walk_at "ne") => `(tactic| first
  | assumption
  | ((refine' Ne.symm ?hq); (case hq => assumption))
  | ((refine' ne_of_none ?nh1 ?nh2); (case nh2 => assumption); (case nh1 => walk_at "hp"))
  | ((refine' Ne.symm (ne_of_none ?nh1 ?nh2)); (case nh2 => assumption); (case nh1 => walk_at "hp")))
local macro_rules | `(tactic| walk_at "hp") => `(tactic| first
  | assumption
  | exact upd_same
  | ((refine' SqL.of ?hq); (case hq => walk_at "hp"))
  | ((refine' SqT.of ?hq); (case hq => walk_at "hp"))
  | ((refine' (upd_ne ?hne).trans ?hrest); (case hne => walk_at "ne"); (case hrest => walk_at "hp"))
  | ((refine' ly_at ?hex ?hh); (case hex => assumption); (case hh => walk_at "hp"))
  | ((refine' ly_atF ?hex ?hnn ?hh); (case hex => assumption); (case hh => walk_at "hp"); (case hnn => walk_at "ne"))
  | ((refine' ex_t ?hex ?hh); (case hh => assumption); (case hex => walk_at "ex"))
  | ((refine' ex_l ?hex ?hh); (case hh => assumption); (case hex => walk_at "ex")))
local macro_rules | `(tactic| walk_at "ex") => `(tactic| first
  | assumption
  | exact Ex.refl _
  | ((refine' ex_new ?xa ?xb); (case xb => assumption); (case xa => walk_at "ex"))
  | ((refine' ex_upd ?xa ?xb); (case xb => walk_at "free"); (case xa => walk_at "ex"))
  | ((refine' Ex.trans ?xa ?xb); (case xb => assumption); (case xa => walk_at "ex")))
local macro_rules | `(tactic| walk_at "free") => `(tactic| first
  | assumption
  | ((refine' fresh_back ?xa ?xb); (case xb => assumption); (case xa => walk_at "ex")))
local macro_rules | `(tactic| walk_at "fr") => `(tactic| first
  | assumption
  | exact Fr.refl _ _
  | ((refine' Fr.own ?hq); (case hq => walk_at "fr"))
  | ((refine' Fr.new ?xa ?xb); (case xb => assumption); (case xa => walk_at "fr"))
  | ((refine' Fr.mut ?xa ?xb); (case xb => assumption); (case xa => walk_at "fr"))
  | ((refine' Fr.trans ?xa ?xb); (case xb => assumption); (case xa => walk_at "fr"))
  | ((refine' Fr.trans ?xa (Fr.ex ?xb)); (case xb => assumption); (case xa => walk_at "fr")))
local macro_rules | `(tactic| walk_at "go1") => `(tactic| first
  | (with_reducible refine' w_seq ?_)
  | (with_reducible refine' w_asg ?_)
  | (with_reducible refine' w_ret ?_)
  | (with_reducible refine' w_drop ?_)
  | (with_reducible refine' w_if ?_)
  | (with_reducible refine' w_next ?_)
  | (with_reducible refine' w_name ?_)
  | (with_reducible refine' w_sub ?_)
  | ((with_reducible refine' w_var ?hv ?_); (case hv => exact rfl))
  | (with_reducible refine' w_c ?_)
  | (with_reducible refine' w_op ?_)
  | (with_reducible refine' w_un ?_)
  | (with_reducible refine' w_ch ?_)
  | (with_reducible refine' w_I0 ?_)
  | ((with_reducible refine' w_I ?hc ?_); (case hc => first | (exact ly_mulL (by decide) (by decide)) | (exact ly_mulR (by decide) (by decide)) | (exact ly_mulL (by omega) (by omega)) | (show (_ : Int) ≠ 0; decide) | (show (_ : Int) ≠ 0; omega) | (exact ⟨by decide, by decide⟩) | (exact ⟨by omega, by omega⟩)))
  | (with_reducible refine' w_U ?_)
  | ((with_reducible refine' w_eq ?hs ?_); (case hs => exact rfl))
  | ((with_reducible refine' w_ne ?hs ?_); (case hs => exact rfl))
  | (with_reducible refine' w_isB ?_)
  | (with_reducible refine' w_notB ?_)
  | (with_reducible refine' w_nil ?_)
  | (with_reducible refine' w_cons ?_)
  | (with_reducible refine' w_tup ?_)
  | (with_reducible refine' w_lst ?_)
  | (with_reducible refine' w_cb ?_)
  | (with_reducible refine' w_call ?_)
  | (with_reducible refine' w_bm ?_)
  | (with_reducible refine' w_bm0 ?_)
  | ((with_reducible refine' w_app ?hh ?hz ?_); (case hh => walk_at "hp"); (case hz => first | exact ly_lt (by omega) | exact ly_lt (by simp only [List.length_append, List.length_map, List.length_cons, List.length_nil]; omega)))
  | ((with_reducible refine' w_popA ?hh ?_); (case hh => walk_at "hp"))
  | ((with_reducible refine' w_ext ?hh ?hh2 ?hz ?_); (case hh => walk_at "hp"); (case hh2 => walk_at "hp"))
  | ((with_reducible refine' w_ixL ?hh ?ha ?_); (case hh => walk_at "hp"); (case ha => first | exact rfl | exact at_map (by omega) | exact atI_last _ _ | ((refine' at_of ?ae ?ah); (case ah => assumption); (case ae => omega))))
  | ((with_reducible refine' w_ixT ?hh ?ha ?_); (case hh => walk_at "hp"); (case ha => first | exact rfl | exact at_map (by omega) | exact atI_last _ _ | ((refine' at_of ?ae ?ah); (case ah => assumption); (case ae => omega))))
  | ((with_reducible refine' w_cat ?hh ?hh2 ?hz ?_); (case hh => walk_at "hp"); (case hh2 => walk_at "hp"))
  | ((with_reducible refine' w_setL ?hh ?ha ?_); (case hh => walk_at "hp"); (case ha => exact rfl))
  | (with_reducible refine' w_test ?_)
  | (with_reducible refine' w_tB ?_)
  | (with_reducible refine' w_bl ?_)
  | (with_reducible refine' w_and ?_)
  | (with_reducible refine' w_or ?_)
  | (with_reducible refine' w_not ?_)
  | (with_reducible refine' w_andV ?_)
  | (with_reducible refine' w_orV ?_)
  | (with_reducible refine' w_notV ?_)
  | (with_reducible refine' w_ifE ?_)
  | (with_reducible refine' w_for ?_)
  | ((with_reducible refine' w_nin ?hh ?_); (case hh => walk_at "hp"))
  | ((with_reducible refine' w_sorted ?hh ?_); (case hh => walk_at "hp"))
  | (with_reducible refine' w_tsadd ?_)
  | ((with_reducible refine' w_tsadd1 ?hh ?_); (case hh => walk_at "hp"))
  | ((with_reducible refine' w_sadd ?hh ?hr ?_); (case hh => walk_at "hp"); (case hr => omega))
  | (with_reducible refine' w_iZ ?_)
  | ((with_reducible refine' w_iZ1 ?hh ?hh2 ?_); (case hh => walk_at "hp"); (case hh2 => walk_at "hp"))
  | (with_reducible refine' w_iS ?_)
  | (with_reducible refine' w_iS1 ?_)
  | ((with_reducible refine' w_gtup ?hh ?hn ?_); (case hh => walk_at "hp"); (case hn => exact rfl))
  | (with_reducible refine' w_gcons ?_)
  | (with_reducible refine' w_gnil ?_)
  | (with_reducible refine' w_js ?_)
  | (with_reducible refine' w_jsn ?_)
  | ((with_reducible refine' w_js1 ?hl ?_); (case hl => decide +kernel))
  | (with_reducible refine' w_fmt ?_)
  | ((with_reducible refine' w_fmt1 ?hl ?_); (case hl => decide +kernel))
  | (with_reducible refine' w_callS ?_)
  | ((with_reducible refine' w_truL ?hh ?_); (case hh => walk_at "hp"))
  | (with_reducible refine' w_lc ?_)
  | (with_reducible refine' w_yes ?_)
  | ((with_reducible refine' w_wipe ?he ?_); (case he => exact rfl))
  | (with_reducible refine' w_iL ?_)
  | (with_reducible refine' w_iT ?_)
  | (with_reducible refine' w_iR ?_)
  | ((with_reducible refine' w_iL1 ?hh ?_); (case hh => walk_at "hp"))
  | ((with_reducible refine' w_iT1 ?hh ?_); (case hh => walk_at "hp"))
  | ((with_reducible refine' w_iR1 ?h1 ?h2 ?_); (case h1 => omega); (case h2 => omega))
  | ((with_reducible refine' w_aug ?hv ?_); (case hv => exact rfl))
  | (with_reducible refine' w_ipI ?_)
  | ((with_reducible refine' w_isi ?hy ?hk ?_); (case hy => walk_at "ty"); (case hk => walk_at "kit"))
  | ((with_reducible refine' w_int ?_))
  | ((with_reducible refine' w_intB ?_))
  | ((with_reducible refine' w_abs ?_))
  | ((with_reducible refine' w_lenL ?hh ?_); (case hh => walk_at "hp"))
  | ((with_reducible refine' w_lenT ?hh ?_); (case hh => walk_at "hp"))
  | ((with_reducible refine' w_tupL ?hh ?_); (case hh => walk_at "hp"))
  | ((with_reducible refine' w_tupT ?hh ?_); (case hh => walk_at "hp"))
  | ((with_reducible refine' w_catA ?hh ?hh2 ?hz ?_); (case hh => walk_at "hp"); (case hh2 => walk_at "hp"); (case hz => walk_at "len"))
  | ((with_reducible refine' w_repB ?hh ?hne ?h2 ?h3 ?hz ?_); (case hh => walk_at "hp"); (case hne => simp); (case h2 => omega); (case h3 => omega); (case hz => exact Nat.le_of_ble_eq_true rfl))
  | ((with_reducible refine' w_eqN ?hh ?hh2 ?n1 ?n2 ?_); (case hh => walk_at "hp"); (case hh2 => walk_at "hp"); (case n1 => walk_at "nd"); (case n2 => walk_at "nd"))
  | ((with_reducible refine' w_neN ?hh ?hh2 ?n1 ?n2 ?_); (case hh => walk_at "hp"); (case hh2 => walk_at "hp"); (case n1 => walk_at "nd"); (case n2 => walk_at "nd"))
  | ((with_reducible refine' w_eqL ?hh ?hh2 ?n1 ?n2 ?_); (case hh => walk_at "hp"); (case hh2 => walk_at "hp"); (case n1 => walk_at "nd"); (case n2 => walk_at "nd"))
  | ((with_reducible refine' w_neL ?hh ?hh2 ?n1 ?n2 ?_); (case hh => walk_at "hp"); (case hh2 => walk_at "hp"); (case n1 => walk_at "nd"); (case n2 => walk_at "nd"))
  | ((with_reducible refine' w_neNon ?hh2 ?n2 ?_); (case hh2 => walk_at "hp"); (case n2 => walk_at "nd"))
  | ((with_reducible refine' w_eqNon ?hh2 ?n2 ?_); (case hh2 => walk_at "hp"); (case n2 => walk_at "nd"))
  | ((with_reducible refine' w_slA ?hh ?_); (case hh => walk_at "hp"))
  | ((with_reducible refine' w_disp ?hz ?_); (case hz => exact sz_of (Nat.le_of_ble_eq_true rfl)))
  | ((with_reducible refine' w_tyL ?hh ?_); (case hh => walk_at "hp"))
  | (with_reducible refine' iteT ?_)
  | (with_reducible refine' iteF ?_)
  | (with_reducible refine' w_nT ?_)
  | (with_reducible refine' w_nn ?_)
  | (with_reducible refine' w_nnT ?_)
  | (with_reducible refine' w_nnR ?_)
  | (with_reducible refine' w_neG ?_)
  | (with_reducible refine' w_eqG ?_)
  | (with_reducible refine' w_neS ?_)
  | (with_reducible refine' w_eqS ?_)
  | (with_reducible refine' w_neSb ?_)
  | (with_reducible refine' w_eqSb ?_)
  | (with_reducible refine' w_deIS ?_)
  | (with_reducible refine' w_deSI ?_)
  | (with_reducible refine' w_deISn ?_)
  | ((with_reducible refine' w_deST ?he ?_); (case he => decide +kernel))
  | ((with_reducible refine' w_deSF ?he ?_); (case he => decide +kernel))
  | ((with_reducible refine' w_deSTn ?he ?_); (case he => decide +kernel))
  | ((with_reducible refine' w_deSFn ?he ?_); (case he => decide +kernel))
  | (with_reducible refine' w_nF ?_)
  | dsimp only [Bool.not_true, Bool.not_false])
local macro_rules | `(tactic| walk_at "ty") => `(tactic| first
  | exact .base (.int _) | exact .base (.str _) | exact .base (.bl _) | exact .base .non
  | ((refine' tyx_t ?hq); (case hq => walk_at "hp")) | ((refine' tyx_l ?hq); (case hq => walk_at "hp")) | ((refine' .base (.tup ?hq)); (case hq => walk_at "hp")) | assumption)
local macro_rules | `(tactic| walk_at "go") => `(tactic| repeat walk_at "go1")
local macro_rules | `(tactic| walk_at "st") => `(tactic| try dsimp only [cxOf, Cx.nox, Cx.wish])
local macro_rules | `(tactic| walk_at "kit") => `(tactic| with_reducible first | exact kit_int_int | exact kit_int_str | exact kit_int_bool | exact kit_int_tuple | exact kit_int_list | exact kit_str_int | exact kit_str_str | exact kit_str_bool | exact kit_str_tuple | exact kit_str_list | exact kit_bool_int | exact kit_bool_str | exact kit_bool_bool | exact kit_bool_tuple | exact kit_bool_list | exact kit_NoneType_int | exact kit_NoneType_str | exact kit_NoneType_bool | exact kit_NoneType_tuple | exact kit_NoneType_list | exact kit_list_int | exact kit_list_str | exact kit_list_bool | exact kit_list_tuple | exact kit_list_list | exact kit_tuple_int | exact kit_tuple_str | exact kit_tuple_bool | exact kit_tuple_tuple | exact kit_tuple_list)
local macro_rules | `(tactic| walk_at "nd") => `(tactic| first
  | assumption
  | exact Tm.nds _
  | exact Nds.nil
  | exact Nds.ofInts _
  | ((refine' Nds.cons ?na ?nb); (case na => first | exact Nds.I _ | exact Nds.L | exact Nds.A); (case nb => walk_at "nd"))
  | ((refine' Nds.app ?na ?nb); (case na => walk_at "nd"); (case nb => walk_at "nd"))
  | ((refine' Nds.rep ?na _); (case na => walk_at "nd")))
local macro_rules | `(tactic| walk_at "len") => `(tactic| first
  | exact ly_sz (by omega)
  | ((simp only [List.length_append, List.length_cons, List.length_nil, List.length_map, PyProof.Rows.lm_len_rep_flat]); exact ly_sz (by omega)))
local macro_rules | `(tactic| walk_at "go1") => `(tactic| first
  | (with_reducible refine' w_kget2 ?_)
  | (with_reducible refine' w_isRN ?_)
  | (with_reducible refine' w_isNN ?_)
  | (with_reducible refine' w_isIN ?_)
  | ((with_reducible refine' w_kg ?hd ?_); (case hd => assumption)))
local macro_rules | `(tactic| walk_at "go1") => `(tactic| first
  | ((with_reducible refine' w_extT ?hh ?hh2 ?hz ?_); (case hh => walk_at "hp"); (case hh2 => walk_at "hp"))
  | ((with_reducible refine' w_I ?hc ?_); (case hc => exact ⟨by decide, by decide, by decide⟩))
  | (with_reducible refine' w_sl ?_)
  | (with_reducible refine' w_noP ?_)
  | (with_reducible refine' w_part ?_)
  | (with_reducible refine' w_part1 ?_)
  | (with_reducible refine' w_it ?_)
  | (with_reducible refine' w_it1 ?_)
  | ((with_reducible refine' w_lenZ ?hz ?_); (case hz => omega))
  | ((with_reducible refine' w_addZb ?hz ?_); (case hz => omega))
  | ((with_reducible refine' w_addZf ?hz ?_); (case hz => omega))
  | ((with_reducible refine' w_addZa ?hz ?_); (case hz => omega))
  | ((with_reducible refine' w_inS ?hh ?_); (case hh => walk_at "hp"))
  | ((with_reducible refine' w_ixT ?hh ?ha ?_); (case hh => assumption); (case ha => exact atI_nat (by assumption))))
local macro_rules | `(tactic| walk_at "go1") => `(tactic| first
  | (with_reducible refine' w_iR2 ?_)
  | ((with_reducible refine' w_iR21 ?h1 ?h2 ?h3 ?h4 ?_); (case h1 => omega); (case h2 => omega); (case h3 => omega); (case h4 => omega))
  | (with_reducible refine' w_nnI ?_)
  | (with_reducible refine' w_max ?_)
  | (with_reducible refine' w_break ?_)
  | (with_reducible refine' w_cont ?_))
local macro_rules | `(tactic| walk_at "go1") => `(tactic| first
  | (with_reducible refine' w_tdget ?_)
  | (with_reducible refine' w_tdin ?_)
  | (with_reducible refine' w_tdnotin ?_)
  | (with_reducible refine' w_sdput ?_)
  | (with_reducible refine' w_tdsetd ?_)
  | (with_reducible refine' w_dnew ?_))
local macro_rules | `(tactic| walk_at "go1") => `(tactic| first
  | (with_reducible refine' w_iZL ?_)
  | (with_reducible refine' w_sfld ?_)
  | (with_reducible refine' w_tfld ?_)
  | (with_reducible refine' w_make ?_)
  | fail)
local macro_rules | `(tactic| walk_at "go1") => `(tactic| first
  | (with_reducible refine' w_sfa ?_)
  | (with_reducible refine' w_tmP ?_)
  | (with_reducible refine' w_tdget2 ?_))
section
variable {P : Program} {w : World} {K : PySem.W.Frag} {mg : Str → Option Value} {base : Heap} {tk : Nat → Tok} {cl : Nat → Addr}
def spRdPer (CR CL : Addr) : Sp := fun vs H Q _ => ∃ (x : Addr) (i : Int) (H0 : Hp) (fs : List Str) (N : Nat) (l : Lv) (r : List Lv), vs = [.ref x, .int i] ∧ RdAt CR CL H0 H x fs N l r ∧ l.nm = true ∧ l.ns ≠ [] ∧ ∀ H', RdAt CR CL H0 H' x fs N { l with nm := false } r → Q .non H'
theorem bot_nm {l l' : Lv} {r : List Lv} (h : Bot l r) (e : l'.op = l.op) : Bot l' r := by
  cases r with
  | nil => exact e.trans h
  | cons _ _ => exact h
theorem ok_rdper {f : Addr} {fd : FuncData} {k : Nat} (F : Fun K "read_period" "Reader.read_period" s_Reader_read_period f fd) (T : Txt w K mg tk cl) : FnOk P w K mg base CX0 (k + 1) f fd ["self", "at"] (spRdPer (cl 22) (cl 21)) := by
  refine F.ok sc_Reader_read_period (fun vs H Q E h => ?_) (fun cdv A outer s H vs Q E hr h => ?_)
  · obtain ⟨_, _, _, _, _, _, _, rfl, _⟩ := h
    rfl
  · obtain ⟨x, i, H0, fs, N, l, r, rfl, h, hnm, hns, q⟩ := h
    refine ⟨_, (pss_cons (ps_set (i := 2) sc_Reader_read_period.nd rfl (.inl rfl) (pe_ix ix_list (pe_fld (pv 0) rfl) (pe_un un_neg pe_int) (fun _ _ => rfl))) (pss_cons (ps_if (PW.pt (pw_or (pt_not (pt_val (pe_fld (pv 2) rfl))) (pw_or1 (pt_cmpR op_eq (pe_callB call_len_seq (by rfl) T.n_len (by decide +kernel) (pa_cons (pe_fld (pv 2) rfl) pa_nil)) pe_int (nomark _))))) (pss_one ps_dead) pss_nil) (pss_one (ps_fld (pv 2) pe_bl rfl)))), ?_⟩
    refine sl_of (σ2 := [some _, some _, none]) rfl ?_
    obtain ⟨dx, dn, db, ll, kn, kb, BA, a, as, h⟩ := h
    have hx : H x = some (.ins (cl 22) dx (rdFs dn db ll (scp (l :: r)).length)) := h.own.at (by simp)
    have hll : H ll = some (.lst (lls as ++ [V.ref a.1])) := h.own.at (by simp [lls_cons])
    have hax : H a.1 = some (.ins (cl 21) a.2.1 (lvFs l a.2.2.1 a.2.2.2)) := h.own.at (by simp [lvFp])
    have hnl : H a.2.2.1 = some (.lst (txts l.ns)) := h.own.at (by simp [lvFp])
    walk_at "st"
    walk_at "go"
    refine ⟨x, cl 22, dx, _, _, rfl, hx, T.cls_Reader, T.nf_Reader_levels, rdF_fs.2.2.2, ?_⟩
    walk_at "go"
    refine ⟨a.1, cl 21, a.2.1, _, _, rfl, hax, T.cls_Level, T.nf_Level_naming, (by rfl : List.lookup ("naming" : Str) (lvFs l a.2.2.1 a.2.2.2) = some (.bl l.nm)), ?_⟩
    rw [hnm]
    walk_at "go"
    refine ⟨a.1, cl 21, a.2.1, _, _, rfl, hax, T.cls_Level, T.nf_Level_names, (by rfl : List.lookup ("names" : Str) (lvFs l a.2.2.1 a.2.2.2) = some (.ref a.2.2.1)), ?_⟩
    walk_at "go"
    refine w_brI (fun z => ?_) (fun z => ?_)
    · rw [List.length_map] at z
      exact (hns (List.length_eq_zero_iff.mp (by omega))).elim
    walk_at "go"
    refine ⟨a.1, cl 21, a.2.1, _, rfl, hax, T.cls_Level, T.nf_Level_naming, by show 5 < 1000; decide, ?_⟩
    have ow := Own.set 4 (u := .ins (cl 21) a.2.1 (putF "naming" (.bl false) (lvFs l a.2.2.1 a.2.2.2))) h.own (by rfl)
    walk_at "go"
    exact q _ ⟨dx, dn, db, ll, kn, kb, BA, a, as, ow, h.len, h.num, h.bd, h.sz, bot_nm h.bot rfl⟩
def spRdClo (CR CL : Addr) : Sp := fun vs H Q _ => ∃ (x : Addr) (i : Int) (H0 : Hp) (fs : List Str) (N : Nat) (l p : Lv) (r r2 : List Lv), vs = [.ref x, .int i] ∧ RdAt CR CL H0 H x fs N l r ∧ N ≤ 100000 ∧ l.whole = true ∧ (closeAbs l r).1.op = "(" ∧ (closeAbs l r).2 = p :: r2 ∧ ∀ H', RdAt CR CL H0 H' x fs N (p.add (closeAbs l r).1.all) r2 → Q .non H'
theorem ok_rdclo {f : Addr} {fd : FuncData} (F : Fun K "read_closing" "Reader.read_closing" s_Reader_read_closing f fd) (T : Txt w K mg tk cl)
    (M_Reader_end_abstractions : C8.Met P w K mg base 3 (cl 22) "end_abstractions" (spRdAbs (cl 22) (cl 21)) []) (M_Reader_end_level : C8.Met P w K mg base 2 (cl 22) "end_level" (spRdEnd (cl 22) (cl 21)) []) : FnOk P w K mg base CX0 4 f fd ["self", "at"] (spRdClo (cl 22) (cl 21)) := by
  refine F.ok sc_Reader_read_closing (fun vs H Q E h => ?_) (fun cdv A outer s H vs Q E hr h => ?_)
  · obtain ⟨_, _, _, _, _, _, _, _, _, rfl, _⟩ := h
    rfl
  · obtain ⟨x, i, H0, fs, N, l, p, r, r2, rfl, h, hN, hw, hop, hcl, q⟩ := h
    refine ⟨_, (pss_cons (ps_expr (C8.pe_mt M_Reader_end_abstractions hr (by first | decide | omega) (pv 0) (pa_cons (pv 1) pa_nil))) (pss_cons (ps_if (pt_cmpR op_ne (pe_fld (pe_ix ix_list (pe_fld (pv 0) rfl) (pe_un un_neg pe_int) (fun _ _ => rfl)) rfl) pe_str (nomark _)) (pss_one ps_dead) pss_nil) (pss_one (ps_expr (C8.pe_mt0 M_Reader_end_level hr (by first | decide | omega) (pv 0)))))), ?_⟩
    refine sl_of (σ2 := [some _, some _]) rfl ?_
    obtain ⟨dx, dn, db, ll, ax, adx, nl, dl, d, ys, hx, hll, hax, -, -, hys⟩ := h.top
    walk_at "st"
    walk_at "go"
    refine ⟨x, dx, _, rfl, hx, rfl, ?_⟩
    walk_at "go"
    refine ⟨x, i, H0, fs, N, l, r, rfl, h, hN, hw, fun H1 h1 => ?_⟩
    clear hx hll hax
    have hpt := close_pt r l (whole_pt hw)
    rw [hcl] at h1
    generalize (closeAbs l r).1 = l' at *
    obtain ⟨dx, dn, db, ll, ax, adx, nl, dl, d, ys, hx, hll, hax, -, -, hys⟩ := h1.top
    walk_at "go"
    refine ⟨x, cl 22, dx, _, _, rfl, hx, T.cls_Reader, T.nf_Reader_levels, rdF_fs.2.2.2, ?_⟩
    walk_at "go"
    refine ⟨ax, cl 21, adx, _, _, rfl, hax, T.cls_Level, T.nf_Level_opener, (by rfl : List.lookup ("opener" : Str) (lvFs l' nl dl) = some (.str l'.op)), ?_⟩
    rw [hop]
    walk_at "go"
    refine ⟨x, dx, _, rfl, hx, rfl, ?_⟩
    walk_at "go"
    refine ⟨x, H0, fs, N, l', p, r2, rfl, h1, hN, hpt, fun H2 h2 => ?_⟩
    walk_at "go"
    exact q H2 h2
def spRdFin (CR CL : Addr) : Sp := fun vs H Q _ => ∃ (x : Addr) (i : Int) (H0 : Hp) (fs : List Str) (N : Nat) (l : Lv) (r : List Lv) (xs : List V), vs = [.ref x, .int i] ∧ RdAt CR CL H0 H x fs N l r ∧ N ≤ 100000 ∧ finT l r = some xs ∧ ∀ H' p, Ex H0 H' → H' p = some (.lst xs) → Q (.ref p) H'
theorem ok_rdfin {f : Addr} {fd : FuncData} (F : Fun K "finish" "Reader.finish" s_Reader_finish f fd) (T : Txt w K mg tk cl)
    (M_Reader_end_abstractions : C8.Met P w K mg base 3 (cl 22) "end_abstractions" (spRdAbs (cl 22) (cl 21)) []) (M_Level_all_nodes : C8.Met P w K mg base 1 (cl 21) "all_nodes" (spLvAll (cl 21)) []) : FnOk P w K mg base CX0 4 f fd ["self", "at"] (spRdFin (cl 22) (cl 21)) := by
  refine F.ok sc_Reader_finish (fun vs H Q E h => ?_) (fun cdv A outer s H vs Q E hr h => ?_)
  · obtain ⟨_, _, _, _, _, _, _, _, rfl, _⟩ := h
    rfl
  · obtain ⟨x, i, H0, fs, N, l, r, xs, rfl, h, hN, hf, q⟩ := h
    refine ⟨_, (pss_cons (ps_expr (C8.pe_mt M_Reader_end_abstractions hr (by first | decide | omega) (pv 0) (pa_cons (pv 1) pa_nil))) (pss_cons (ps_if (pt_cmpR op_gt (pe_callB call_len_seq (by rfl) T.n_len (by decide +kernel) (pa_cons (pe_fld (pv 0) rfl) pa_nil)) pe_int (nomark _)) (pss_one ps_dead) pss_nil) (pss_one (ps_ret (C8.pe_mt0 M_Level_all_nodes hr (by first | decide | omega) (pe_ix ix_list (pe_fld (pv 0) rfl) pe_int (fun _ _ => rfl))))))), ?_⟩
    refine sl_of (σ2 := [some _, some _]) rfl ?_
    obtain ⟨dx, dn, db, ll, ax, adx, nl, dl, d, ys, hx, hll, hax, -, -, hys⟩ := h.top
    obtain ⟨hw, hc2, rfl⟩ : l.whole = true ∧ (closeAbs l r).2 = [] ∧ xs = (closeAbs l r).1.all := by
      unfold finT at hf
      split at hf
      · cases hf
      · rename_i hw
        split at hf
        · rename_i e
          exact ⟨by simpa using hw, e, (Option.some.inj hf).symm⟩
        · cases hf
    walk_at "st"
    walk_at "go"
    refine ⟨x, dx, _, rfl, hx, rfl, ?_⟩
    walk_at "go"
    refine ⟨x, i, H0, fs, N, l, r, rfl, h, hN, hw, fun H1 h1 => ?_⟩
    clear hx hll hax
    rw [hc2] at h1
    generalize (closeAbs l r).1 = l' at *
    have hz := h1.size
    obtain ⟨dx, dn, db, ll, ax, adx, nl, dl, d, ys, hx, hll, hax, hnl, hdl, hys⟩ := h1.top
    obtain rfl : ys = [] := List.length_eq_zero_iff.mp hys
    walk_at "go"
    refine ⟨x, cl 22, dx, _, _, rfl, hx, T.cls_Reader, T.nf_Reader_levels, rdF_fs.2.2.2, ?_⟩
    walk_at "go"
    refine iteF ?_
    walk_at "go"
    refine ⟨x, cl 22, dx, _, _, rfl, hx, T.cls_Reader, T.nf_Reader_levels, rdF_fs.2.2.2, ?_⟩
    walk_at "go"
    refine ⟨ax, adx, _, rfl, hax, rfl, ?_⟩
    walk_at "go"
    refine ⟨ax, adx, nl, dl, l', rfl, hax, hnl, hdl, ?_, fun H2 p e2 _ h2 => ?_⟩
    · have : sizes [l'] = l'.size := rfl
      omega
    walk_at "go"
    exact q H2 p (h1.ex.trans e2) h2
end
end Ly
set_option Elab.async false
set_option linter.all false
set_option maxRecDepth 100000
set_option maxHeartbeats 8000000
namespace Ly
open PySem PySem.Spec PyProof.Rows L2 Evl
local macro_rules | `(tactic| walk_at "ne") => `(tactic| first
  | assumption
  | ((refine' Ne.symm ?hq); (case hq => assumption))
  | ((refine' ne_of_none ?nh1 ?nh2); (case nh2 => assumption); (case nh1 => walk_at "hp"))
  | ((refine' Ne.symm (ne_of_none ?nh1 ?nh2)); (case nh2 => assumption); (case nh1 => walk_at "hp")))
local macro_rules | `(tactic| walk_at "hp") => `(tactic| first
  | assumption
  | exact upd_same
  | ((refine' SqL.of ?hq); (case hq => walk_at "hp"))
  | ((refine' SqT.of ?hq); (case hq => walk_at "hp"))
  | ((refine' (upd_ne ?hne).trans ?hrest); (case hne => walk_at "ne"); (case hrest => walk_at "hp"))
  | ((refine' ly_at ?hex ?hh); (case hex => assumption); (case hh => walk_at "hp"))
  | ((refine' ly_atF ?hex ?hnn ?hh); (case hex => assumption); (case hh => walk_at "hp"); (case hnn => walk_at "ne"))
  | ((refine' ex_t ?hex ?hh); (case hh => assumption); (case hex => walk_at "ex"))
  | ((refine' ex_l ?hex ?hh); (case hh => assumption); (case hex => walk_at "ex")))
local macro_rules | `(tactic| walk_at "ex") => `(tactic| first
  | assumption
  | exact Ex.refl _
  | ((refine' ex_new ?xa ?xb); (case xb => assumption); (case xa => walk_at "ex"))
  | ((refine' ex_upd ?xa ?xb); (case xb => walk_at "free"); (case xa => walk_at "ex"))
  | ((refine' Ex.trans ?xa ?xb); (case xb => assumption); (case xa => walk_at "ex")))
local macro_rules | `(tactic| walk_at "free") => `(tactic| first
  | assumption
  | ((refine' fresh_back ?xa ?xb); (case xb => assumption); (case xa => walk_at "ex")))
local macro_rules | `(tactic| walk_at "fr") => `(tactic| first
  | assumption
  | exact Fr.refl _ _
  | ((refine' Fr.own ?hq); (case hq => walk_at "fr"))
  | ((refine' Fr.new ?xa ?xb); (case xb => assumption); (case xa => walk_at "fr"))
  | ((refine' Fr.mut ?xa ?xb); (case xb => assumption); (case xa => walk_at "fr"))
  | ((refine' Fr.trans ?xa ?xb); (case xb => assumption); (case xa => walk_at "fr"))
  | ((refine' Fr.trans ?xa (Fr.ex ?xb)); (case xb => assumption); (case xa => walk_at "fr")))
local macro_rules | `(tactic| walk_at "go1") => `(tactic| first
  | (with_reducible refine' w_seq ?_)
  | (with_reducible refine' w_asg ?_)
  | (with_reducible refine' w_ret ?_)
  | (with_reducible refine' w_drop ?_)
  | (with_reducible refine' w_if ?_)
  | (with_reducible refine' w_next ?_)
  | (with_reducible refine' w_name ?_)
  | (with_reducible refine' w_sub ?_)
  | ((with_reducible refine' w_var ?hv ?_); (case hv => exact rfl))
  | (with_reducible refine' w_c ?_)
  | (with_reducible refine' w_op ?_)
  | (with_reducible refine' w_un ?_)
  | (with_reducible refine' w_ch ?_)
  | (with_reducible refine' w_I0 ?_)
  | ((with_reducible refine' w_I ?hc ?_); (case hc => first | (exact ly_mulL (by decide) (by decide)) | (exact ly_mulR (by decide) (by decide)) | (exact ly_mulL (by omega) (by omega)) | (show (_ : Int) ≠ 0; decide) | (show (_ : Int) ≠ 0; omega) | (exact ⟨by decide, by decide⟩) | (exact ⟨by omega, by omega⟩)))
  | (with_reducible refine' w_U ?_)
  | ((with_reducible refine' w_eq ?hs ?_); (case hs => exact rfl))
  | ((with_reducible refine' w_ne ?hs ?_); (case hs => exact rfl))
  | (with_reducible refine' w_isB ?_)
  | (with_reducible refine' w_notB ?_)
  | (with_reducible refine' w_nil ?_)
  | (with_reducible refine' w_cons ?_)
  | (with_reducible refine' w_tup ?_)
  | (with_reducible refine' w_lst ?_)
  | (with_reducible refine' w_cb ?_)
  | (with_reducible refine' w_call ?_)
  | (with_reducible refine' w_bm ?_)
  | (with_reducible refine' w_bm0 ?_)
  | ((with_reducible refine' w_app ?hh ?hz ?_); (case hh => walk_at "hp"); (case hz => first | exact ly_lt (by omega) | exact ly_lt (by simp only [List.length_append, List.length_map, List.length_cons, List.length_nil]; omega)))
  | ((with_reducible refine' w_popA ?hh ?_); (case hh => walk_at "hp"))
  | ((with_reducible refine' w_ext ?hh ?hh2 ?hz ?_); (case hh => walk_at "hp"); (case hh2 => walk_at "hp"))
  | ((with_reducible refine' w_ixL ?hh ?ha ?_); (case hh => walk_at "hp"); (case ha => first | exact rfl | exact at_map (by omega) | exact atI_last _ _ | ((refine' at_of ?ae ?ah); (case ah => assumption); (case ae => omega))))
  | ((with_reducible refine' w_ixT ?hh ?ha ?_); (case hh => walk_at "hp"); (case ha => first | exact rfl | exact at_map (by omega) | exact atI_last _ _ | ((refine' at_of ?ae ?ah); (case ah => assumption); (case ae => omega))))
  | ((with_reducible refine' w_cat ?hh ?hh2 ?hz ?_); (case hh => walk_at "hp"); (case hh2 => walk_at "hp"))
  | ((with_reducible refine' w_setL ?hh ?ha ?_); (case hh => walk_at "hp"); (case ha => exact rfl))
  | (with_reducible refine' w_test ?_)
  | (with_reducible refine' w_tB ?_)
  | (with_reducible refine' w_bl ?_)
  | (with_reducible refine' w_and ?_)
  | (with_reducible refine' w_or ?_)
  | (with_reducible refine' w_not ?_)
  | (with_reducible refine' w_andV ?_)
  | (with_reducible refine' w_orV ?_)
  | (with_reducible refine' w_notV ?_)
  | (with_reducible refine' w_ifE ?_)
  | (with_reducible refine' w_for ?_)
  | ((with_reducible refine' w_nin ?hh ?_); (case hh => walk_at "hp"))
  | ((with_reducible refine' w_sorted ?hh ?_); (case hh => walk_at "hp"))
  | (with_reducible refine' w_tsadd ?_)
  | ((with_reducible refine' w_tsadd1 ?hh ?_); (case hh => walk_at "hp"))
  | ((with_reducible refine' w_sadd ?hh ?hr ?_); (case hh => walk_at "hp"); (case hr => omega))
  | (with_reducible refine' w_iZ ?_)
  | ((with_reducible refine' w_iZ1 ?hh ?hh2 ?_); (case hh => walk_at "hp"); (case hh2 => walk_at "hp"))
  | (with_reducible refine' w_iS ?_)
  | (with_reducible refine' w_iS1 ?_)
  | ((with_reducible refine' w_gtup ?hh ?hn ?_); (case hh => walk_at "hp"); (case hn => exact rfl))
  | (with_reducible refine' w_gcons ?_)
  | (with_reducible refine' w_gnil ?_)
  | (with_reducible refine' w_js ?_)
  | (with_reducible refine' w_jsn ?_)
  | ((with_reducible refine' w_js1 ?hl ?_); (case hl => decide +kernel))
  | (with_reducible refine' w_fmt ?_)
  | ((with_reducible refine' w_fmt1 ?hl ?_); (case hl => decide +kernel))
  | (with_reducible refine' w_callS ?_)
  | ((with_reducible refine' w_truL ?hh ?_); (case hh => walk_at "hp"))
  | (with_reducible refine' w_lc ?_)
  | (with_reducible refine' w_yes ?_)
  | ((with_reducible refine' w_wipe ?he ?_); (case he => exact rfl))
  | (with_reducible refine' w_iL ?_)
  | (with_reducible refine' w_iT ?_)
  | (with_reducible refine' w_iR ?_)
  | ((with_reducible refine' w_iL1 ?hh ?_); (case hh => walk_at "hp"))
  | ((with_reducible refine' w_iT1 ?hh ?_); (case hh => walk_at "hp"))
  | ((with_reducible refine' w_iR1 ?h1 ?h2 ?_); (case h1 => omega); (case h2 => omega))
  | ((with_reducible refine' w_aug ?hv ?_); (case hv => exact rfl))
  | (with_reducible refine' w_ipI ?_)
  | ((with_reducible refine' w_isi ?hy ?hk ?_); (case hy => walk_at "ty"); (case hk => walk_at "kit"))
  | ((with_reducible refine' w_int ?_))
  | ((with_reducible refine' w_intB ?_))
  | ((with_reducible refine' w_abs ?_))
  | ((with_reducible refine' w_lenL ?hh ?_); (case hh => walk_at "hp"))
  | ((with_reducible refine' w_lenT ?hh ?_); (case hh => walk_at "hp"))
  | ((with_reducible refine' w_tupL ?hh ?_); (case hh => walk_at "hp"))
  | ((with_reducible refine' w_tupT ?hh ?_); (case hh => walk_at "hp"))
  | ((with_reducible refine' w_catA ?hh ?hh2 ?hz ?_); (case hh => walk_at "hp"); (case hh2 => walk_at "hp"); (case hz => walk_at "len"))
  | ((with_reducible refine' w_repB ?hh ?hne ?h2 ?h3 ?hz ?_); (case hh => walk_at "hp"); (case hne => simp); (case h2 => omega); (case h3 => omega); (case hz => exact Nat.le_of_ble_eq_true rfl))
  | ((with_reducible refine' w_eqN ?hh ?hh2 ?n1 ?n2 ?_); (case hh => walk_at "hp"); (case hh2 => walk_at "hp"); (case n1 => walk_at "nd"); (case n2 => walk_at "nd"))
  | ((with_reducible refine' w_neN ?hh ?hh2 ?n1 ?n2 ?_); (case hh => walk_at "hp"); (case hh2 => walk_at "hp"); (case n1 => walk_at "nd"); (case n2 => walk_at "nd"))
  | ((with_reducible refine' w_eqL ?hh ?hh2 ?n1 ?n2 ?_); (case hh => walk_at "hp"); (case hh2 => walk_at "hp"); (case n1 => walk_at "nd"); (case n2 => walk_at "nd"))
  | ((with_reducible refine' w_neL ?hh ?hh2 ?n1 ?n2 ?_); (case hh => walk_at "hp"); (case hh2 => walk_at "hp"); (case n1 => walk_at "nd"); (case n2 => walk_at "nd"))
  | ((with_reducible refine' w_neNon ?hh2 ?n2 ?_); (case hh2 => walk_at "hp"); (case n2 => walk_at "nd"))
  | ((with_reducible refine' w_eqNon ?hh2 ?n2 ?_); (case hh2 => walk_at "hp"); (case n2 => walk_at "nd"))
  | ((with_reducible refine' w_slA ?hh ?_); (case hh => walk_at "hp"))
  | ((with_reducible refine' w_disp ?hz ?_); (case hz => exact sz_of (Nat.le_of_ble_eq_true rfl)))
  | ((with_reducible refine' w_tyL ?hh ?_); (case hh => walk_at "hp"))
  | (with_reducible refine' iteT ?_)
  | (with_reducible refine' iteF ?_)
  | (with_reducible refine' w_nT ?_)
  | (with_reducible refine' w_nn ?_)
  | (with_reducible refine' w_nnT ?_)
  | (with_reducible refine' w_nnR ?_)
  | (with_reducible refine' w_neG ?_)
  | (with_reducible refine' w_eqG ?_)
  | (with_reducible refine' w_neS ?_)
  | (with_reducible refine' w_eqS ?_)
  | (with_reducible refine' w_neSb ?_)
  | (with_reducible refine' w_eqSb ?_)
  | (with_reducible refine' w_deIS ?_)
  | (with_reducible refine' w_deSI ?_)
  | (with_reducible refine' w_deISn ?_)
  | ((with_reducible refine' w_deST ?he ?_); (case he => decide +kernel))
  | ((with_reducible refine' w_deSF ?he ?_); (case he => decide +kernel))
  | ((with_reducible refine' w_deSTn ?he ?_); (case he => decide +kernel))
  | ((with_reducible refine' w_deSFn ?he ?_); (case he => decide +kernel))
  | (with_reducible refine' w_nF ?_)
  | dsimp only [Bool.not_true, Bool.not_false])
local macro_rules | `(tactic| walk_at "ty") => `(tactic| first
  | exact .base (.int _) | exact .base (.str _) | exact .base (.bl _) | exact .base .non
  | ((refine' tyx_t ?hq); (case hq => walk_at "hp")) | ((refine' tyx_l ?hq); (case hq => walk_at "hp")) | ((refine' .base (.tup ?hq)); (case hq => walk_at "hp")) | assumption)
local macro_rules | `(tactic| walk_at "go") => `(tactic| repeat walk_at "go1")
local macro_rules | `(tactic| walk_at "st") => `(tactic| try dsimp only [cxOf, Cx.nox, Cx.wish])
local macro_rules | `(tactic| walk_at "kit") => `(tactic| with_reducible first | exact kit_int_int | exact kit_int_str | exact kit_int_bool | exact kit_int_tuple | exact kit_int_list | exact kit_str_int | exact kit_str_str | exact kit_str_bool | exact kit_str_tuple | exact kit_str_list | exact kit_bool_int | exact kit_bool_str | exact kit_bool_bool | exact kit_bool_tuple | exact kit_bool_list | exact kit_NoneType_int | exact kit_NoneType_str | exact kit_NoneType_bool | exact kit_NoneType_tuple | exact kit_NoneType_list | exact kit_list_int | exact kit_list_str | exact kit_list_bool | exact kit_list_tuple | exact kit_list_list | exact kit_tuple_int | exact kit_tuple_str | exact kit_tuple_bool | exact kit_tuple_tuple | exact kit_tuple_list)
local macro_rules | `(tactic| walk_at "nd") => `(tactic| first
  | assumption
  | exact Tm.nds _
  | exact Nds.nil
  | exact Nds.ofInts _
  | ((refine' Nds.cons ?na ?nb); (case na => first | exact Nds.I _ | exact Nds.L | exact Nds.A); (case nb => walk_at "nd"))
  | ((refine' Nds.app ?na ?nb); (case na => walk_at "nd"); (case nb => walk_at "nd"))
  | ((refine' Nds.rep ?na _); (case na => walk_at "nd")))
local macro_rules | `(tactic| walk_at "len") => `(tactic| first
  | exact ly_sz (by omega)
  | ((simp only [List.length_append, List.length_cons, List.length_nil, List.length_map, PyProof.Rows.lm_len_rep_flat]); exact ly_sz (by omega)))
local macro_rules | `(tactic| walk_at "go1") => `(tactic| first
  | (with_reducible refine' w_kget2 ?_)
  | (with_reducible refine' w_isRN ?_)
  | (with_reducible refine' w_isNN ?_)
  | (with_reducible refine' w_isIN ?_)
  | ((with_reducible refine' w_kg ?hd ?_); (case hd => assumption)))
local macro_rules | `(tactic| walk_at "go1") => `(tactic| first
  | ((with_reducible refine' w_extT ?hh ?hh2 ?hz ?_); (case hh => walk_at "hp"); (case hh2 => walk_at "hp"))
  | ((with_reducible refine' w_I ?hc ?_); (case hc => exact ⟨by decide, by decide, by decide⟩))
  | (with_reducible refine' w_sl ?_)
  | (with_reducible refine' w_noP ?_)
  | (with_reducible refine' w_part ?_)
  | (with_reducible refine' w_part1 ?_)
  | (with_reducible refine' w_it ?_)
  | (with_reducible refine' w_it1 ?_)
  | ((with_reducible refine' w_lenZ ?hz ?_); (case hz => omega))
  | ((with_reducible refine' w_addZb ?hz ?_); (case hz => omega))
  | ((with_reducible refine' w_addZf ?hz ?_); (case hz => omega))
  | ((with_reducible refine' w_addZa ?hz ?_); (case hz => omega))
  | ((with_reducible refine' w_inS ?hh ?_); (case hh => walk_at "hp"))
  | ((with_reducible refine' w_ixT ?hh ?ha ?_); (case hh => assumption); (case ha => exact atI_nat (by assumption))))
local macro_rules | `(tactic| walk_at "go1") => `(tactic| first
  | (with_reducible refine' w_iR2 ?_)
  | ((with_reducible refine' w_iR21 ?h1 ?h2 ?h3 ?h4 ?_); (case h1 => omega); (case h2 => omega); (case h3 => omega); (case h4 => omega))
  | (with_reducible refine' w_nnI ?_)
  | (with_reducible refine' w_max ?_)
  | (with_reducible refine' w_break ?_)
  | (with_reducible refine' w_cont ?_))
local macro_rules | `(tactic| walk_at "go1") => `(tactic| first
  | (with_reducible refine' w_tdget ?_)
  | (with_reducible refine' w_tdin ?_)
  | (with_reducible refine' w_tdnotin ?_)
  | (with_reducible refine' w_sdput ?_)
  | (with_reducible refine' w_tdsetd ?_)
  | (with_reducible refine' w_dnew ?_))
local macro_rules | `(tactic| walk_at "go1") => `(tactic| first
  | (with_reducible refine' w_iZL ?_)
  | (with_reducible refine' w_sfld ?_)
  | (with_reducible refine' w_tfld ?_)
  | (with_reducible refine' w_make ?_)
  | fail)
local macro_rules | `(tactic| walk_at "go1") => `(tactic| first
  | (with_reducible refine' w_sfa ?_)
  | (with_reducible refine' w_tmP ?_)
  | (with_reducible refine' w_tdget2 ?_))
section
variable {P : Program} {w : World} {K : PySem.W.Frag} {mg : Str → Option Value} {base : Heap} {tk : Nat → Tok} {cl : Nat → Addr}
def spRdName (CR CL : Addr) : Sp := fun vs H Q _ => ∃ (x : Addr) (n : Str) (i : Int) (H0 : Hp) (fs : List Str) (N : Nat) (l l' : Lv) (r : List Lv), vs = [.ref x, .str n, .int i] ∧ RdAt CR CL H0 H x fs N l r ∧ N ≤ 100000 ∧
  ((l.nm = true ∧ l' = { l with ns := l.ns ++ [n] }) ∨ (l.nm = false ∧ ∃ k : Nat, numOf fs (scp (l :: r)) n = some k ∧ l' = l.add [V.int (k : Int)])) ∧ ∀ H', RdAt CR CL H0 H' x fs (N + 1) l' r → Q .non H'
theorem pos0_new (sc : List Str) (n m : Str) : pos0 (sc ++ [n]) m = pos0 sc m ++ (if n = m then [V.int (sc.length : Int)] else []) := by
  unfold pos0
  rw [posL_app]
  show List.map _ (_ ++ _) = _
  rw [List.map_append]
  congr 1
  rw [Nat.zero_add]
  unfold posL
  split
  · rfl
  · rfl
theorem ok_rdname {f : Addr} {fd : FuncData} (F : Fun K "read_name" "Reader.read_name" s_Reader_read_name f fd) (T : Txt w K mg tk cl)
    (M_Reader_variable : C8.Met P w K mg base 1 (cl 22) "variable" (spRdVar (cl 22) (cl 21)) []) (M_Level_add_part : C8.Met P w K mg base 1 (cl 21) "add_part" (spLvAdd (cl 21)) []) : FnOk P w K mg base CX0 2 f fd ["self", "name", "at"] (spRdName (cl 22) (cl 21)) := by
  refine F.ok sc_Reader_read_name (fun vs H Q E h => ?_) (fun cdv A outer s H vs Q E hr h => ?_)
  · obtain ⟨_, _, _, _, _, _, _, _, _, rfl, _⟩ := h
    rfl
  · obtain ⟨x, n, i, H0, fs, N, l, l', r, rfl, h0, hN, hc, q⟩ := h
    refine ⟨_, (pss_cons (ps_set (i := 3) sc_Reader_read_name.nd rfl (.inl rfl) (pe_ix ix_list (pe_fld (pv 0) rfl) (pe_un un_neg pe_int) (fun _ _ => rfl))) (pss_one (ps_if (pt_val (pe_fld (pv 3) rfl)) (pss_cons (ps_expr (pe_bm PySem.F.plainAttrs_list PySem.F.slot_list_append PySem.F.type_list_append mt_append (pe_fld (pv 3) rfl) (pa_cons (pv 1) pa_nil))) (pss_cons (ps_expr (pe_bm PySem.F.plainAttrs_list PySem.F.slot_list_append PySem.F.type_list_append mt_append (pe_dsetd (pe_fld (pv 0) rfl) (pv 1) (pe_lst pa_nil) ⟨by rfl, by rfl, by rfl, by rfl⟩) (pa_cons (pe_fld (pv 0) rfl) pa_nil))) (pss_one (ps_fldaug (pv 0) pe_int in_add)))) (pss_one (ps_expr (C8.pe_mt M_Level_add_part hr (by first | decide | omega) (pv 3) (pa_cons (pe_lst (pa_cons (C8.pe_mt M_Reader_variable hr (by first | decide | omega) (pv 0) (pa_cons (pv 1) (pa_cons (pv 2) pa_nil))) pa_nil)) pa_nil))))))), ?_⟩
    refine sl_of (σ2 := [some _, some _, some _, none]) rfl ?_
    have hsz := h0.size
    obtain ⟨dx, dn, db, ll, kn, kb, BA, a, as, h⟩ := id h0
    have hx : H x = some (.ins (cl 22) dx (rdFs dn db ll (scp (l :: r)).length)) := h.own.at (by simp)
    have hll : H ll = some (.lst (lls as ++ [V.ref a.1])) := h.own.at (by simp [lls_cons])
    have hax : H a.1 = some (.ins (cl 21) a.2.1 (lvFs l a.2.2.1 a.2.2.2)) := h.own.at (by simp [lvFp])
    have hnl : H a.2.2.1 = some (.lst (txts l.ns)) := h.own.at (by simp [lvFp])
    have hlz : l.size ≤ 200000 := by
      have : sizes (l :: r) = l.size + sizes r := rfl
      omega
    walk_at "st"
    walk_at "go"
    refine ⟨x, cl 22, dx, _, _, rfl, hx, T.cls_Reader, T.nf_Reader_levels, rdF_fs.2.2.2, ?_⟩
    walk_at "go"
    refine ⟨a.1, cl 21, a.2.1, _, _, rfl, hax, T.cls_Level, T.nf_Level_naming, (by rfl : List.lookup ("naming" : Str) (lvFs l a.2.2.1 a.2.2.2) = some (.bl l.nm)), ?_⟩
    rcases hc with ⟨hnm, rfl⟩ | ⟨hnm, k, hk, rfl⟩
    · rw [hnm]
      walk_at "go"
      refine ⟨a.1, cl 21, a.2.1, _, _, rfl, hax, T.cls_Level, T.nf_Level_names, (by rfl : List.lookup ("names" : Str) (lvFs l a.2.2.1 a.2.2.2) = some (.ref a.2.2.1)), ?_⟩
      refine w_tyL (SqL.of hnl) ?_
      walk_at "go"
      have hnz : l.ns.length ≤ l.size := by
        unfold Lv.size
        omega
      refine w_app hnl (ly_lt (by rw [List.length_map]; omega)) ?_
      have ow1 := Own.set 5 (u := .lst (txts l.ns ++ [V.str n])) h.own (by rfl)
      generalize upd H a.2.2.1 (.lst (txts l.ns ++ [V.str n])) = H1 at *
      have ow1 : Own H0 H1 (headFp (cl 22) x dx dn db ll kn kb (scp (l :: r)).length (lls (a :: as)) ++ (lvFp (cl 21) a { l with ns := l.ns ++ [n] } ++ (lvsFp (cl 21) as r ++ bdFp (pos0 (scp (l :: r))) BA))) := by
        have e : txts (l.ns ++ [n]) = txts l.ns ++ [V.str n] := by simp
        unfold lvFp
        rw [e]
        exact ow1
      have hx1 : H1 x = some (.ins (cl 22) dx (rdFs dn db ll (scp (l :: r)).length)) := ow1.at (by simp)
      have hdb1 : H1 db = some (.dK kb) := ow1.at (by simp)
      walk_at "go"
      refine ⟨x, cl 22, dx, _, _, rfl, hx1, T.cls_Reader, T.nf_Reader_bound, rdF_fs.2.1, ?_⟩
      refine ⟨db, rfl, isD hdb1, ?_⟩
      walk_at "go"
      intro p hp
      have ex2 : Ex H1 (upd H1 p (.lst [])) := Ex.new hp
      have ow2 := ow1.new (u := .lst []) hp
      generalize upd H1 p (.lst []) = H2 at *
      have hx2 := ex2 _ _ hx1
      have hdb2 := ex2 _ _ hdb1
      have esc : scp ({ l with ns := l.ns ++ [n] } :: r) = scp (l :: r) ++ [n] := by
        show scp r ++ (l.ns ++ [n]) = _
        rw [← List.append_assoc]
        rfl
      have elen : (scp (l :: r) ++ [n]).length = (scp (l :: r)).length + 1 := by simp
      have hsz2 : sizes ({ l with ns := l.ns ++ [n] } :: r) ≤ 2 * (N + 1) := by
        have h2 : sizes (l :: r) = l.size + sizes r := rfl
        have h3 : sizes ({ l with ns := l.ns ++ [n] } :: r) = (({ l with ns := l.ns ++ [n] } : Lv).size) + sizes r := rfl
        have h4 : ({ l with ns := l.ns ++ [n] } : Lv).size = l.size + 1 := by
          unfold Lv.size
          simp
          omega
        omega
      have fin : ∀ (kb' : List (L2.Key × V)) (BA' : List (Str × Addr)) (H4 : Hp), Own H0 H4 (headFp (cl 22) x dx dn db ll kn kb' (scp (l :: r)).length (lls (a :: as)) ++ (lvFp (cl 21) a { l with ns := l.ns ++ [n] } ++ (lvsFp (cl 21) as r ++ bdFp (pos0 (scp (l :: r) ++ [n])) BA'))) → Bnd BA' kb' (scp (l :: r) ++ [n]) (N + 1) →
          H4 x = some (.ins (cl 22) dx (rdFs dn db ll (scp (l :: r)).length)) ∧ Q V.non (upd H4 x (.ins (cl 22) dx (putF "depth" (.int (((scp (l :: r)).length : Int) + 1)) (rdFs dn db ll (scp (l :: r)).length)))) := fun kb' BA' H4 ow4 bd4 => by
        refine ⟨ow4.at (by simp), q _ ⟨dx, dn, db, ll, kn, kb', BA', a, as, ?_, h.len, h.num, ?_, hsz2, bot_nm h.bot rfl⟩⟩
        · have := Own.set 0 (u := .ins (cl 22) dx (putF "depth" (.int (((scp (l :: r)).length : Int) + 1)) (rdFs dn db ll (scp (l :: r)).length))) ow4 (by rfl)
          rw [esc, elen]
          exact this
        · rw [esc]
          exact bd4
      have bnd1 := h.bd
      refine ⟨kb, .inr n, hdb2, rfl, ly_lt (by have := bnd1.len; omega), fun v hv => ?_, fun hv => ?_⟩
      · rw [bnd1.val n] at hv
        cases hb : BA.lookup n with
        | none => rw [hb] at hv; cases hv
        | some b =>
          rw [hb] at hv
          cases hv
          obtain ⟨B1, B2, rfl⟩ := lookup_split hb
          have ow3 := ow2.sub (List.sublist_cons_self _ _)
          rw [bdFp_split] at ow3
          have ow3 : Own H0 H2 ((headFp (cl 22) x dx dn db ll kn kb (scp (l :: r)).length (lls (a :: as)) ++ (lvFp (cl 21) a { l with ns := l.ns ++ [n] } ++ (lvsFp (cl 21) as r ++ bdFp (pos0 (scp (l :: r))) B1))) ++ (b, .lst (pos0 (scp (l :: r)) n)) :: bdFp (pos0 (scp (l :: r))) B2) := by
            simpa only [List.append_assoc] using ow3
          have hb3 := ow3.at (a := b) (o := .lst (pos0 (scp (l :: r)) n)) (by simp)
          refine w_tyL (SqL.of hb3) ?_
          walk_at "go"
          refine ⟨x, cl 22, dx, _, _, rfl, hx2, T.cls_Reader, T.nf_Reader_depth, rdF_fs.2.2.1, ?_⟩
          have hpl : (pos0 (scp (l :: r)) n).length ≤ 200000 := by
            rw [List.length_map, posL_len]
            refine Nat.le_trans List.count_le_length ?_
            have := scp_len (l :: r)
            omega
          walk_at "go"
          have ow4 := ow3.mid (u := .lst (pos0 (scp (l :: r)) n ++ [V.int ((scp (l :: r)).length : Int)]))
          generalize upd H2 b (.lst (pos0 (scp (l :: r)) n ++ [V.int ((scp (l :: r)).length : Int)])) = H4 at *
          obtain ⟨hx4, fin4⟩ := fin kb (B1 ++ (n, b) :: B2) H4 (by
            rw [bdFp_upd (g := pos0 (scp (l :: r))) bnd1.nd (fun m hm => by rw [pos0_new, if_neg (Ne.symm hm), List.append_nil]), pos0_new, if_pos rfl]
            simpa only [List.append_assoc] using ow4) ⟨bnd1.nd, bnd1.val, fun m hm => by
              rcases List.mem_append.mp hm with hm | hm
              · exact bnd1.cov m hm
              · rw [List.mem_singleton.mp hm, hb]
                rfl, Nat.le_succ_of_le bnd1.len⟩
          refine ⟨x, cl 22, dx, _, _, rfl, hx4, T.cls_Reader, T.nf_Reader_depth, rdF_fs.2.2.1, ?_⟩
          walk_at "go"
          refine ⟨_, _, rfl, rfl, ?_⟩
          refine ⟨dx, _, hx4, by show 4 < 1000; decide, ?_⟩
          walk_at "go"
          exact fin4
      · rw [bnd1.val n] at hv
        have hb : BA.lookup n = none := by
          cases hb : BA.lookup n with
          | none => rfl
          | some b => rw [hb] at hv; cases hv
        have hn0 : n ∉ scp (l :: r) := fun z => by
          have := bnd1.cov n z
          rw [hb] at this
          cases this
        have hnb : n ∉ BA.map (·.1) := fun z => by
          obtain ⟨c, hc, e⟩ := List.mem_map.mp z
          have : (BA.lookup n).isSome = true := by
            rw [List.lookup_isSome_iff]
            exact ⟨c, hc, by simp [e]⟩
          rw [hb] at this
          cases this
        have hne : p ≠ x := (ne_of_none hx1 hp).symm
        have ow3 : Own H0 (upd H2 db (.dK (putK kb (.inr n) (.ref p)))) ((p, .lst []) :: (headFp (cl 22) x dx dn db ll kn (putK kb (.inr n) (.ref p)) (scp (l :: r)).length (lls (a :: as)) ++ (lvFp (cl 21) a { l with ns := l.ns ++ [n] } ++ (lvsFp (cl 21) as r ++ bdFp (pos0 (scp (l :: r))) BA)))) := Own.set 3 ow2 (by rfl)
        generalize upd H2 db (.dK (putK kb (.inr n) (.ref p))) = H3 at *
        have hp3 := ow3.at (a := p) (o := .lst []) List.mem_cons_self
        have hx3 : H3 x = some (.ins (cl 22) dx (rdFs dn db ll (scp (l :: r)).length)) := ow3.at (by simp)
        refine w_tyL (SqL.of hp3) ?_
        walk_at "go"
        refine ⟨x, cl 22, dx, _, _, rfl, hx3, T.cls_Reader, T.nf_Reader_depth, rdF_fs.2.2.1, ?_⟩
        walk_at "go"
        have ow4 := ow3.put (u := .lst ([] ++ [V.int ((scp (l :: r)).length : Int)]))
        generalize upd H3 p (.lst ([] ++ [V.int ((scp (l :: r)).length : Int)])) = H4 at *
        obtain ⟨hx4, fin4⟩ := fin (putK kb (.inr n) (.ref p)) ((n, p) :: BA) H4 (by
          have e1 : bdFp (pos0 (scp (l :: r) ++ [n])) ((n, p) :: BA) = (p, .lst ([] ++ [V.int ((scp (l :: r)).length : Int)])) :: bdFp (pos0 (scp (l :: r))) BA := by
            show (p, HO.lst (pos0 (scp (l :: r) ++ [n]) n)) :: bdFp (pos0 (scp (l :: r) ++ [n])) BA = _
            rw [pos0_new, if_pos rfl, show pos0 (scp (l :: r)) n = [] by unfold pos0; rw [posL_nil hn0]; rfl]
            congr 1
            exact List.map_congr_left fun c hc => by
              have ne : ¬ n = c.1 := fun z => hnb (by rw [z]; exact List.mem_map.mpr ⟨c, hc, rfl⟩)
              rw [pos0_new, if_neg ne, List.append_nil]
          rw [e1]
          have := ow4.perm (List.perm_middle (l₁ := headFp (cl 22) x dx dn db ll kn (putK kb (.inr n) (.ref p)) (scp (l :: r)).length (lls (a :: as)) ++ (lvFp (cl 21) a { l with ns := l.ns ++ [n] } ++ lvsFp (cl 21) as r)) (l₂ := bdFp (pos0 (scp (l :: r))) BA)).symm
          simpa only [List.append_assoc] using this) ⟨List.nodup_cons.mpr ⟨hnb, bnd1.nd⟩, fun m => by
            rw [valV_put, List.lookup_cons]
            by_cases e : m = n
            · subst e
              simp
            · have e2 : ¬ ((.inr m : L2.Key) = .inr n) := fun z => e (Sum.inr.inj z)
              have e3 : (m == n) = false := beq_eq_false_iff_ne.mpr e
              rw [if_neg e2, e3]
              exact bnd1.val m, fun m hm => by
            rw [List.lookup_cons]
            by_cases e : m = n
            · subst e
              simp
            · have e3 : (m == n) = false := beq_eq_false_iff_ne.mpr e
              rw [e3]
              rcases List.mem_append.mp hm with hm | hm
              · exact bnd1.cov m hm
              · exact absurd (List.mem_singleton.mp hm) e, by
            have hv2 : valV kb (.inr n) = none := by rw [bnd1.val n, hb]; rfl
            rw [putK_new _ hv2, List.length_append, List.length_singleton]
            have := bnd1.len
            omega⟩
        refine ⟨x, cl 22, dx, _, _, rfl, hx4, T.cls_Reader, T.nf_Reader_depth, rdF_fs.2.2.1, ?_⟩
        walk_at "go"
        refine ⟨_, _, rfl, rfl, ?_⟩
        refine ⟨dx, _, hx4, by show 4 < 1000; decide, ?_⟩
        walk_at "go"
        exact fin4
    · rw [hnm]
      walk_at "go"
      refine ⟨a.1, a.2.1, _, rfl, hax, rfl, ?_⟩
      walk_at "go"
      refine ⟨x, dx, _, rfl, hx, rfl, ?_⟩
      walk_at "go"
      refine ⟨x, n, i, H0, fs, N, l, r, k, rfl, h0, hN, hk, fun H1 e1 => ?_⟩
      have ow1 := h.own.mono e1
      walk_at "go"
      intro p hp
      have ow2 := ow1.mono (Ex.new hp (o := .lst [V.int (k : Int)]))
      have hp2 : upd H1 p (.lst [V.int (k : Int)]) p = some (.lst [V.int (k : Int)]) := upd_same
      have hdl1 : H1 a.2.2.2 = some (.lst l.nd) := ow1.at (by simp [lvFp])
      have hpd : p ≠ a.2.2.2 := (ne_of_none hdl1 hp).symm
      generalize upd H1 p (.lst [V.int (k : Int)]) = H2 at *
      walk_at "go"
      refine ⟨a.1, a.2.1, a.2.2.1, a.2.2.2, p, l, [V.int (k : Int)], H0, _, rfl, ow2.perm (List.perm_append_comm_assoc _ _ _), hp2, hpd, ?_, fun H3 ow3 => ?_⟩
      · have : l.nd.length ≤ l.size := by unfold Lv.size; omega
        simp
        omega
      walk_at "go"
      refine q H3 ⟨dx, dn, db, ll, kn, kb, BA, a, as, ow3.perm (List.perm_append_comm_assoc _ _ _), h.len, h.num, ⟨h.bd.nd, h.bd.val, h.bd.cov, Nat.le_succ_of_le h.bd.len⟩, ?_, bot_nm h.bot rfl⟩
      have h1 := size_add l [V.int (k : Int)]
      have h2 : sizes (l :: r) = l.size + sizes r := rfl
      show (l.add [V.int (k : Int)]).size + sizes r ≤ 2 * (N + 1)
      rw [h1, List.length_singleton]
      omega
end
end Ly
set_option Elab.async false
set_option linter.all false
set_option maxRecDepth 100000
set_option maxHeartbeats 8000000
namespace Ly
open PySem PySem.Spec PyProof.Rows L2 Evl
local macro_rules | `(tactic| walk_at "ne") => `(tactic| first
  | assumption
  | ((refine' Ne.symm ?hq); (case hq => assumption))
  | ((refine' ne_of_none ?nh1 ?nh2); (case nh2 => assumption); (case nh1 => walk_at "hp"))
  | ((refine' Ne.symm (ne_of_none ?nh1 ?nh2)); (case nh2 => assumption); (case nh1 => walk_at "hp")))
local macro_rules | `(tactic| walk_at "hp") => `(tactic| first
  | assumption
  | exact upd_same
  | ((refine' SqL.of ?hq); (case hq => walk_at "hp"))
  | ((refine' SqT.of ?hq); (case hq => walk_at "hp"))
  | ((refine' (upd_ne ?hne).trans ?hrest); (case hne => walk_at "ne"); (case hrest => walk_at "hp"))
  | ((refine' ly_at ?hex ?hh); (case hex => assumption); (case hh => walk_at "hp"))
  | ((refine' ly_atF ?hex ?hnn ?hh); (case hex => assumption); (case hh => walk_at "hp"); (case hnn => walk_at "ne"))
  | ((refine' ex_t ?hex ?hh); (case hh => assumption); (case hex => walk_at "ex"))
  | ((refine' ex_l ?hex ?hh); (case hh => assumption); (case hex => walk_at "ex")))
local macro_rules | `(tactic| walk_at "ex") => `(tactic| first
  | assumption
  | exact Ex.refl _
  | ((refine' ex_new ?xa ?xb); (case xb => assumption); (case xa => walk_at "ex"))
  | ((refine' ex_upd ?xa ?xb); (case xb => walk_at "free"); (case xa => walk_at "ex"))
  | ((refine' Ex.trans ?xa ?xb); (case xb => assumption); (case xa => walk_at "ex")))
local macro_rules | `(tactic| walk_at "free") => `(tactic| first
  | assumption
  | ((refine' fresh_back ?xa ?xb); (case xb => assumption); (case xa => walk_at "ex")))
local macro_rules | `(tactic| walk_at "fr") => `(tactic| first
  | assumption
  | exact Fr.refl _ _
  | ((refine' Fr.own ?hq); (case hq => walk_at "fr"))
  | ((refine' Fr.new ?xa ?xb); (case xb => assumption); (case xa => walk_at "fr"))
  | ((refine' Fr.mut ?xa ?xb); (case xb => assumption); (case xa => walk_at "fr"))
  | ((refine' Fr.trans ?xa ?xb); (case xb => assumption); (case xa => walk_at "fr"))
  | ((refine' Fr.trans ?xa (Fr.ex ?xb)); (case xb => assumption); (case xa => walk_at "fr")))
local macro_rules | `(tactic| walk_at "go1") => `(tactic| first
  | (with_reducible refine' w_seq ?_)
  | (with_reducible refine' w_asg ?_)
  | (with_reducible refine' w_ret ?_)
  | (with_reducible refine' w_drop ?_)
  | (with_reducible refine' w_if ?_)
  | (with_reducible refine' w_next ?_)
  | (with_reducible refine' w_name ?_)
  | (with_reducible refine' w_sub ?_)
  | ((with_reducible refine' w_var ?hv ?_); (case hv => exact rfl))
  | (with_reducible refine' w_c ?_)
  | (with_reducible refine' w_op ?_)
  | (with_reducible refine' w_un ?_)
  | (with_reducible refine' w_ch ?_)
  | (with_reducible refine' w_I0 ?_)
  | ((with_reducible refine' w_I ?hc ?_); (case hc => first | (exact ly_mulL (by decide) (by decide)) | (exact ly_mulR (by decide) (by decide)) | (exact ly_mulL (by omega) (by omega)) | (show (_ : Int) ≠ 0; decide) | (show (_ : Int) ≠ 0; omega) | (exact ⟨by decide, by decide⟩) | (exact ⟨by omega, by omega⟩)))
  | (with_reducible refine' w_U ?_)
  | ((with_reducible refine' w_eq ?hs ?_); (case hs => exact rfl))
  | ((with_reducible refine' w_ne ?hs ?_); (case hs => exact rfl))
  | (with_reducible refine' w_isB ?_)
  | (with_reducible refine' w_notB ?_)
  | (with_reducible refine' w_nil ?_)
  | (with_reducible refine' w_cons ?_)
  | (with_reducible refine' w_tup ?_)
  | (with_reducible refine' w_lst ?_)
  | (with_reducible refine' w_cb ?_)
  | (with_reducible refine' w_call ?_)
  | (with_reducible refine' w_bm ?_)
  | (with_reducible refine' w_bm0 ?_)
  | ((with_reducible refine' w_app ?hh ?hz ?_); (case hh => walk_at "hp"); (case hz => first | exact ly_lt (by omega) | exact ly_lt (by simp only [List.length_append, List.length_map, List.length_cons, List.length_nil]; omega)))
  | ((with_reducible refine' w_popA ?hh ?_); (case hh => walk_at "hp"))
  | ((with_reducible refine' w_ext ?hh ?hh2 ?hz ?_); (case hh => walk_at "hp"); (case hh2 => walk_at "hp"))
  | ((with_reducible refine' w_ixL ?hh ?ha ?_); (case hh => walk_at "hp"); (case ha => first | exact rfl | exact at_map (by omega) | exact atI_last _ _ | ((refine' at_of ?ae ?ah); (case ah => assumption); (case ae => omega))))
  | ((with_reducible refine' w_ixT ?hh ?ha ?_); (case hh => walk_at "hp"); (case ha => first | exact rfl | exact at_map (by omega) | exact atI_last _ _ | ((refine' at_of ?ae ?ah); (case ah => assumption); (case ae => omega))))
  | ((with_reducible refine' w_cat ?hh ?hh2 ?hz ?_); (case hh => walk_at "hp"); (case hh2 => walk_at "hp"))
  | ((with_reducible refine' w_setL ?hh ?ha ?_); (case hh => walk_at "hp"); (case ha => exact rfl))
  | (with_reducible refine' w_test ?_)
  | (with_reducible refine' w_tB ?_)
  | (with_reducible refine' w_bl ?_)
  | (with_reducible refine' w_and ?_)
  | (with_reducible refine' w_or ?_)
  | (with_reducible refine' w_not ?_)
  | (with_reducible refine' w_andV ?_)
  | (with_reducible refine' w_orV ?_)
  | (with_reducible refine' w_notV ?_)
  | (with_reducible refine' w_ifE ?_)
  | (with_reducible refine' w_for ?_)
  | ((with_reducible refine' w_nin ?hh ?_); (case hh => walk_at "hp"))
  | ((with_reducible refine' w_sorted ?hh ?_); (case hh => walk_at "hp"))
  | (with_reducible refine' w_tsadd ?_)
  | ((with_reducible refine' w_tsadd1 ?hh ?_); (case hh => walk_at "hp"))
  | ((with_reducible refine' w_sadd ?hh ?hr ?_); (case hh => walk_at "hp"); (case hr => omega))
  | (with_reducible refine' w_iZ ?_)
  | ((with_reducible refine' w_iZ1 ?hh ?hh2 ?_); (case hh => walk_at "hp"); (case hh2 => walk_at "hp"))
  | (with_reducible refine' w_iS ?_)
  | (with_reducible refine' w_iS1 ?_)
  | ((with_reducible refine' w_gtup ?hh ?hn ?_); (case hh => walk_at "hp"); (case hn => exact rfl))
  | (with_reducible refine' w_gcons ?_)
  | (with_reducible refine' w_gnil ?_)
  | (with_reducible refine' w_js ?_)
  | (with_reducible refine' w_jsn ?_)
  | ((with_reducible refine' w_js1 ?hl ?_); (case hl => decide +kernel))
  | (with_reducible refine' w_fmt ?_)
  | ((with_reducible refine' w_fmt1 ?hl ?_); (case hl => decide +kernel))
  | (with_reducible refine' w_callS ?_)
  | ((with_reducible refine' w_truL ?hh ?_); (case hh => walk_at "hp"))
  | (with_reducible refine' w_lc ?_)
  | (with_reducible refine' w_yes ?_)
  | ((with_reducible refine' w_wipe ?he ?_); (case he => exact rfl))
  | (with_reducible refine' w_iL ?_)
  | (with_reducible refine' w_iT ?_)
  | (with_reducible refine' w_iR ?_)
  | ((with_reducible refine' w_iL1 ?hh ?_); (case hh => walk_at "hp"))
  | ((with_reducible refine' w_iT1 ?hh ?_); (case hh => walk_at "hp"))
  | ((with_reducible refine' w_iR1 ?h1 ?h2 ?_); (case h1 => omega); (case h2 => omega))
  | ((with_reducible refine' w_aug ?hv ?_); (case hv => exact rfl))
  | (with_reducible refine' w_ipI ?_)
  | ((with_reducible refine' w_isi ?hy ?hk ?_); (case hy => walk_at "ty"); (case hk => walk_at "kit"))
  | ((with_reducible refine' w_int ?_))
  | ((with_reducible refine' w_intB ?_))
  | ((with_reducible refine' w_abs ?_))
  | ((with_reducible refine' w_lenL ?hh ?_); (case hh => walk_at "hp"))
  | ((with_reducible refine' w_lenT ?hh ?_); (case hh => walk_at "hp"))
  | ((with_reducible refine' w_tupL ?hh ?_); (case hh => walk_at "hp"))
  | ((with_reducible refine' w_tupT ?hh ?_); (case hh => walk_at "hp"))
  | ((with_reducible refine' w_catA ?hh ?hh2 ?hz ?_); (case hh => walk_at "hp"); (case hh2 => walk_at "hp"); (case hz => walk_at "len"))
  | ((with_reducible refine' w_repB ?hh ?hne ?h2 ?h3 ?hz ?_); (case hh => walk_at "hp"); (case hne => simp); (case h2 => omega); (case h3 => omega); (case hz => exact Nat.le_of_ble_eq_true rfl))
  | ((with_reducible refine' w_eqN ?hh ?hh2 ?n1 ?n2 ?_); (case hh => walk_at "hp"); (case hh2 => walk_at "hp"); (case n1 => walk_at "nd"); (case n2 => walk_at "nd"))
  | ((with_reducible refine' w_neN ?hh ?hh2 ?n1 ?n2 ?_); (case hh => walk_at "hp"); (case hh2 => walk_at "hp"); (case n1 => walk_at "nd"); (case n2 => walk_at "nd"))
  | ((with_reducible refine' w_eqL ?hh ?hh2 ?n1 ?n2 ?_); (case hh => walk_at "hp"); (case hh2 => walk_at "hp"); (case n1 => walk_at "nd"); (case n2 => walk_at "nd"))
  | ((with_reducible refine' w_neL ?hh ?hh2 ?n1 ?n2 ?_); (case hh => walk_at "hp"); (case hh2 => walk_at "hp"); (case n1 => walk_at "nd"); (case n2 => walk_at "nd"))
  | ((with_reducible refine' w_neNon ?hh2 ?n2 ?_); (case hh2 => walk_at "hp"); (case n2 => walk_at "nd"))
  | ((with_reducible refine' w_eqNon ?hh2 ?n2 ?_); (case hh2 => walk_at "hp"); (case n2 => walk_at "nd"))
  | ((with_reducible refine' w_slA ?hh ?_); (case hh => walk_at "hp"))
  | ((with_reducible refine' w_disp ?hz ?_); (case hz => exact sz_of (Nat.le_of_ble_eq_true rfl)))
  | ((with_reducible refine' w_tyL ?hh ?_); (case hh => walk_at "hp"))
  | (with_reducible refine' iteT ?_)
  | (with_reducible refine' iteF ?_)
  | (with_reducible refine' w_nT ?_)
  | (with_reducible refine' w_nn ?_)
  | (with_reducible refine' w_nnT ?_)
  | (with_reducible refine' w_nnR ?_)
  | (with_reducible refine' w_neG ?_)
  | (with_reducible refine' w_eqG ?_)
  | (with_reducible refine' w_neS ?_)
  | (with_reducible refine' w_eqS ?_)
  | (with_reducible refine' w_neSb ?_)
  | (with_reducible refine' w_eqSb ?_)
  | (with_reducible refine' w_deIS ?_)
  | (with_reducible refine' w_deSI ?_)
  | (with_reducible refine' w_deISn ?_)
  | ((with_reducible refine' w_deST ?he ?_); (case he => decide +kernel))
  | ((with_reducible refine' w_deSF ?he ?_); (case he => decide +kernel))
  | ((with_reducible refine' w_deSTn ?he ?_); (case he => decide +kernel))
  | ((with_reducible refine' w_deSFn ?he ?_); (case he => decide +kernel))
  | (with_reducible refine' w_nF ?_)
  | dsimp only [Bool.not_true, Bool.not_false])
local macro_rules | `(tactic| walk_at "ty") => `(tactic| first
  | exact .base (.int _) | exact .base (.str _) | exact .base (.bl _) | exact .base .non
  | ((refine' tyx_t ?hq); (case hq => walk_at "hp")) | ((refine' tyx_l ?hq); (case hq => walk_at "hp")) | ((refine' .base (.tup ?hq)); (case hq => walk_at "hp")) | assumption)
local macro_rules | `(tactic| walk_at "go") => `(tactic| repeat walk_at "go1")
local macro_rules | `(tactic| walk_at "st") => `(tactic| try dsimp only [cxOf, Cx.nox, Cx.wish])
local macro_rules | `(tactic| walk_at "kit") => `(tactic| with_reducible first | exact kit_int_int | exact kit_int_str | exact kit_int_bool | exact kit_int_tuple | exact kit_int_list | exact kit_str_int | exact kit_str_str | exact kit_str_bool | exact kit_str_tuple | exact kit_str_list | exact kit_bool_int | exact kit_bool_str | exact kit_bool_bool | exact kit_bool_tuple | exact kit_bool_list | exact kit_NoneType_int | exact kit_NoneType_str | exact kit_NoneType_bool | exact kit_NoneType_tuple | exact kit_NoneType_list | exact kit_list_int | exact kit_list_str | exact kit_list_bool | exact kit_list_tuple | exact kit_list_list | exact kit_tuple_int | exact kit_tuple_str | exact kit_tuple_bool | exact kit_tuple_tuple | exact kit_tuple_list)
local macro_rules | `(tactic| walk_at "nd") => `(tactic| first
  | assumption
  | exact Tm.nds _
  | exact Nds.nil
  | exact Nds.ofInts _
  | ((refine' Nds.cons ?na ?nb); (case na => first | exact Nds.I _ | exact Nds.L | exact Nds.A); (case nb => walk_at "nd"))
  | ((refine' Nds.app ?na ?nb); (case na => walk_at "nd"); (case nb => walk_at "nd"))
  | ((refine' Nds.rep ?na _); (case na => walk_at "nd")))
local macro_rules | `(tactic| walk_at "len") => `(tactic| first
  | exact ly_sz (by omega)
  | ((simp only [List.length_append, List.length_cons, List.length_nil, List.length_map, PyProof.Rows.lm_len_rep_flat]); exact ly_sz (by omega)))
local macro_rules | `(tactic| walk_at "go1") => `(tactic| first
  | (with_reducible refine' w_kget2 ?_)
  | (with_reducible refine' w_isRN ?_)
  | (with_reducible refine' w_isNN ?_)
  | (with_reducible refine' w_isIN ?_)
  | ((with_reducible refine' w_kg ?hd ?_); (case hd => assumption)))
local macro_rules | `(tactic| walk_at "go1") => `(tactic| first
  | ((with_reducible refine' w_extT ?hh ?hh2 ?hz ?_); (case hh => walk_at "hp"); (case hh2 => walk_at "hp"))
  | ((with_reducible refine' w_I ?hc ?_); (case hc => exact ⟨by decide, by decide, by decide⟩))
  | (with_reducible refine' w_sl ?_)
  | (with_reducible refine' w_noP ?_)
  | (with_reducible refine' w_part ?_)
  | (with_reducible refine' w_part1 ?_)
  | (with_reducible refine' w_it ?_)
  | (with_reducible refine' w_it1 ?_)
  | ((with_reducible refine' w_lenZ ?hz ?_); (case hz => omega))
  | ((with_reducible refine' w_addZb ?hz ?_); (case hz => omega))
  | ((with_reducible refine' w_addZf ?hz ?_); (case hz => omega))
  | ((with_reducible refine' w_addZa ?hz ?_); (case hz => omega))
  | ((with_reducible refine' w_inS ?hh ?_); (case hh => walk_at "hp"))
  | ((with_reducible refine' w_ixT ?hh ?ha ?_); (case hh => assumption); (case ha => exact atI_nat (by assumption))))
local macro_rules | `(tactic| walk_at "go1") => `(tactic| first
  | (with_reducible refine' w_iR2 ?_)
  | ((with_reducible refine' w_iR21 ?h1 ?h2 ?h3 ?h4 ?_); (case h1 => omega); (case h2 => omega); (case h3 => omega); (case h4 => omega))
  | (with_reducible refine' w_nnI ?_)
  | (with_reducible refine' w_max ?_)
  | (with_reducible refine' w_break ?_)
  | (with_reducible refine' w_cont ?_))
local macro_rules | `(tactic| walk_at "go1") => `(tactic| first
  | (with_reducible refine' w_tdget ?_)
  | (with_reducible refine' w_tdin ?_)
  | (with_reducible refine' w_tdnotin ?_)
  | (with_reducible refine' w_sdput ?_)
  | (with_reducible refine' w_tdsetd ?_)
  | (with_reducible refine' w_dnew ?_))
local macro_rules | `(tactic| walk_at "go1") => `(tactic| first
  | (with_reducible refine' w_iZL ?_)
  | (with_reducible refine' w_sfld ?_)
  | (with_reducible refine' w_tfld ?_)
  | (with_reducible refine' w_make ?_)
  | fail)
local macro_rules | `(tactic| walk_at "go1") => `(tactic| first
  | (with_reducible refine' w_sfa ?_)
  | (with_reducible refine' w_tmP ?_)
  | (with_reducible refine' w_tdget2 ?_))
section
variable {P : Program} {w : World} {K : PySem.W.Frag} {mg : Str → Option Value} {base : Heap} {tk : Nat → Tok} {cl : Nat → Addr}
def spRdRead (CR CL : Addr) : Sp := fun vs H Q _ => ∃ (x : Addr) (tok : Str) (i : Int) (H0 : Hp) (fs : List Str) (N : Nat) (l l' : Lv) (r r' : List Lv), vs = [.ref x, .str tok, .int i] ∧ RdAt CR CL H0 H x fs N l r ∧ N ≤ 100000 ∧ stepT fs l r tok = some (l', r') ∧ ∀ H', RdAt CR CL H0 H' x fs (N + 1) l' r' → Q .non H'
theorem ok_rdread {f : Addr} {fd : FuncData} (F : Fun K "read" "Reader.read" s_Reader_read f fd) (T : Txt w K mg tk cl)
    (M_Reader_read_opener : C8.Met P w K mg base 3 (cl 22) "read_opener" (spRdOpen (cl 22) (cl 21)) []) (M_Reader_read_period : C8.Met P w K mg base 1 (cl 22) "read_period" (spRdPer (cl 22) (cl 21)) [])
    (M_Reader_read_closing : C8.Met P w K mg base 4 (cl 22) "read_closing" (spRdClo (cl 22) (cl 21)) []) (M_Reader_read_name : C8.Met P w K mg base 2 (cl 22) "read_name" (spRdName (cl 22) (cl 21)) []) : FnOk P w K mg base CX0 5 f fd ["self", "token", "at"] (spRdRead (cl 22) (cl 21)) := by
  refine F.ok sc_Reader_read (fun vs H Q E h => ?_) (fun cdv A outer s H vs Q E hr h => ?_)
  · obtain ⟨_, _, _, _, _, _, _, _, _, _, rfl, _⟩ := h
    rfl
  · obtain ⟨x, tok, i, H0, fs, N, l, l', r, r', rfl, h, hN, hk, q⟩ := h
    refine ⟨_, (pss_one (ps_if (PW.pt (pw_or (pt_cmpR op_eq (pv 1) pe_str (nomark _)) (pw_or1 (pt_cmpR op_eq (pv 1) pe_str (nomark _))))) (pss_one (ps_expr (C8.pe_mt M_Reader_read_opener hr (by first | decide | omega) (pv 0) (pa_cons (pv 1) (pa_cons (pv 2) pa_nil))))) (pss_one (ps_if (pt_cmpR op_eq (pv 1) pe_str (nomark _)) (pss_one (ps_expr (C8.pe_mt M_Reader_read_period hr (by first | decide | omega) (pv 0) (pa_cons (pv 2) pa_nil)))) (pss_one (ps_if (pt_cmpR op_eq (pv 1) pe_str (nomark _)) (pss_one (ps_expr (C8.pe_mt M_Reader_read_closing hr (by first | decide | omega) (pv 0) (pa_cons (pv 2) pa_nil)))) (pss_one (ps_expr (C8.pe_mt M_Reader_read_name hr (by first | decide | omega) (pv 0) (pa_cons (pv 1) (pa_cons (pv 2) pa_nil))))))))))), ?_⟩
    refine sl_of (σ2 := [some _, some _, some _]) rfl ?_
    obtain ⟨dx, dn, db, ll, ax, adx, nl, dl, d, ys, hx, -, -, -, -, -⟩ := h.top
    have open1 : (tok = "(" ∨ tok = "\\") → l.nm = false ∧ r.length + 1 ≤ 60 ∧ l' = Lv.new tok ∧ r' = l :: r := fun ht => by
      unfold stepT at hk
      rw [if_pos ht] at hk
      split at hk
      · cases hk
      · rename_i hn
        have e := Option.some.inj hk
        rw [not_or] at hn
        exact ⟨by simpa using hn.1, by omega, (congrArg Prod.fst e).symm, (congrArg Prod.snd e).symm⟩
    have goO : (tok = "(" ∨ tok = "\\") → spRdOpen (cl 22) (cl 21) ([.ref x, .str tok, .int i] ++ []) H (fun _ H1 => Q .non H1) C8.E0 := fun ht => by
      obtain ⟨a1, a2, rfl, rfl⟩ := open1 ht
      exact ⟨x, tok, i, H0, fs, N, l, r, rfl, h, hN, a1, a2, fun H1 h1 => q H1 (h1.more (Nat.le_succ _))⟩
    walk_at "st"
    walk_at "go"
    refine w_brS (fun h1 => ?_) (fun h1 => ?_)
    · walk_at "go"
      refine ⟨x, dx, _, rfl, hx, rfl, ?_⟩
      walk_at "go"
      exact goO (.inl h1)
    walk_at "go"
    refine w_brS (fun h2 => ?_) (fun h2 => ?_)
    · walk_at "go"
      refine ⟨x, dx, _, rfl, hx, rfl, ?_⟩
      walk_at "go"
      exact goO (.inr h2)
    unfold stepT at hk
    rw [if_neg (fun z => z.elim h1 h2)] at hk
    walk_at "go"
    refine w_brS (fun h3 => ?_) (fun h3 => ?_)
    · rw [if_pos h3] at hk
      walk_at "go"
      refine ⟨x, dx, _, rfl, hx, rfl, ?_⟩
      walk_at "go"
      split at hk
      · cases hk
      · rename_i hn
        rw [not_or] at hn
        have e := Option.some.inj hk
        refine ⟨x, i, H0, fs, N, l, r, rfl, h, by simpa using hn.1, hn.2, fun H1 h1 => ?_⟩
        walk_at "go"
        have e1 := (congrArg Prod.fst e).symm
        have e2 := (congrArg Prod.snd e).symm
        simp only at e1 e2
        subst e1 e2
        exact q H1 (h1.more (Nat.le_succ _))
    rw [if_neg h3] at hk
    walk_at "go"
    refine w_brS (fun h4 => ?_) (fun h4 => ?_)
    · rw [if_pos h4] at hk
      walk_at "go"
      refine ⟨x, dx, _, rfl, hx, rfl, ?_⟩
      walk_at "go"
      split at hk
      · cases hk
      · rename_i hw
        split at hk
        · rename_i ho
          split at hk
          · cases hk
          · rename_i p r2 hc
            have e := Option.some.inj hk
            refine ⟨x, i, H0, fs, N, l, p, r, r2, rfl, h, hN, by simpa using hw, ho, hc, fun H1 h1 => ?_⟩
            walk_at "go"
            have e1 := (congrArg Prod.fst e).symm
            have e2 := (congrArg Prod.snd e).symm
            simp only at e1 e2
            subst e1 e2
            exact q H1 (h1.more (Nat.le_succ _))
        · cases hk
    rw [if_neg h4] at hk
    walk_at "go"
    refine ⟨x, dx, _, rfl, hx, rfl, ?_⟩
    walk_at "go"
    refine ⟨x, tok, i, H0, fs, N, l, l', r, rfl, h, hN, ?_, fun H1 h1 => ?_⟩
    · split at hk
      · rename_i hn
        exact .inl ⟨hn, (congrArg Prod.fst (Option.some.inj hk)).symm⟩
      · rename_i hn
        split at hk
        · cases hk
        · rename_i k ek
          exact .inr ⟨by simpa using hn, k, ek, (congrArg Prod.fst (Option.some.inj hk)).symm⟩
    · have er : r' = r := by
        split at hk
        · exact (congrArg Prod.snd (Option.some.inj hk)).symm
        · split at hk
          · cases hk
          · exact (congrArg Prod.snd (Option.some.inj hk)).symm
      subst er
      walk_at "go"
      exact q H1 h1
end
end Ly
set_option Elab.async false
set_option linter.all false
set_option maxRecDepth 100000
set_option maxHeartbeats 8000000
namespace Ly
open PySem PySem.Spec PyProof.Rows L2 Evl
local macro_rules | `(tactic| walk_at "ne") => `(tactic| first
  | assumption
  | ((refine' Ne.symm ?hq); (case hq => assumption))
  | ((refine' ne_of_none ?nh1 ?nh2); (case nh2 => assumption); (case nh1 => walk_at "hp"))
  | ((refine' Ne.symm (ne_of_none ?nh1 ?nh2)); (case nh2 => assumption); (case nh1 => walk_at "hp")))
local macro_rules | `(tactic| walk_at "hp") => `(tactic| first
  | assumption
  | exact upd_same
  | ((refine' SqL.of ?hq); (case hq => walk_at "hp"))
  | ((refine' SqT.of ?hq); (case hq => walk_at "hp"))
  | ((refine' (upd_ne ?hne).trans ?hrest); (case hne => walk_at "ne"); (case hrest => walk_at "hp"))
  | ((refine' ly_at ?hex ?hh); (case hex => assumption); (case hh => walk_at "hp"))
  | ((refine' ly_atF ?hex ?hnn ?hh); (case hex => assumption); (case hh => walk_at "hp"); (case hnn => walk_at "ne"))
  | ((refine' ex_t ?hex ?hh); (case hh => assumption); (case hex => walk_at "ex"))
  | ((refine' ex_l ?hex ?hh); (case hh => assumption); (case hex => walk_at "ex")))
local macro_rules | `(tactic| walk_at "ex") => `(tactic| first
  | assumption
  | exact Ex.refl _
  | ((refine' ex_new ?xa ?xb); (case xb => assumption); (case xa => walk_at "ex"))
  | ((refine' ex_upd ?xa ?xb); (case xb => walk_at "free"); (case xa => walk_at "ex"))
  | ((refine' Ex.trans ?xa ?xb); (case xb => assumption); (case xa => walk_at "ex")))
local macro_rules | `(tactic| walk_at "free") => `(tactic| first
  | assumption
  | ((refine' fresh_back ?xa ?xb); (case xb => assumption); (case xa => walk_at "ex")))
local macro_rules | `(tactic| walk_at "fr") => `(tactic| first
  | assumption
  | exact Fr.refl _ _
  | ((refine' Fr.own ?hq); (case hq => walk_at "fr"))
  | ((refine' Fr.new ?xa ?xb); (case xb => assumption); (case xa => walk_at "fr"))
  | ((refine' Fr.mut ?xa ?xb); (case xb => assumption); (case xa => walk_at "fr"))
  | ((refine' Fr.trans ?xa ?xb); (case xb => assumption); (case xa => walk_at "fr"))
  | ((refine' Fr.trans ?xa (Fr.ex ?xb)); (case xb => assumption); (case xa => walk_at "fr")))
local macro_rules | `(tactic| walk_at "go1") => `(tactic| first
  | (with_reducible refine' w_seq ?_)
  | (with_reducible refine' w_asg ?_)
  | (with_reducible refine' w_ret ?_)
  | (with_reducible refine' w_drop ?_)
  | (with_reducible refine' w_if ?_)
  | (with_reducible refine' w_next ?_)
  | (with_reducible refine' w_name ?_)
  | (with_reducible refine' w_sub ?_)
  | ((with_reducible refine' w_var ?hv ?_); (case hv => exact rfl))
  | (with_reducible refine' w_c ?_)
  | (with_reducible refine' w_op ?_)
  | (with_reducible refine' w_un ?_)
  | (with_reducible refine' w_ch ?_)
  | (with_reducible refine' w_I0 ?_)
  | ((with_reducible refine' w_I ?hc ?_); (case hc => first | (exact ly_mulL (by decide) (by decide)) | (exact ly_mulR (by decide) (by decide)) | (exact ly_mulL (by omega) (by omega)) | (show (_ : Int) ≠ 0; decide) | (show (_ : Int) ≠ 0; omega) | (exact ⟨by decide, by decide⟩) | (exact ⟨by omega, by omega⟩)))
  | (with_reducible refine' w_U ?_)
  | ((with_reducible refine' w_eq ?hs ?_); (case hs => exact rfl))
  | ((with_reducible refine' w_ne ?hs ?_); (case hs => exact rfl))
  | (with_reducible refine' w_isB ?_)
  | (with_reducible refine' w_notB ?_)
  | (with_reducible refine' w_nil ?_)
  | (with_reducible refine' w_cons ?_)
  | (with_reducible refine' w_tup ?_)
  | (with_reducible refine' w_lst ?_)
  | (with_reducible refine' w_cb ?_)
  | (with_reducible refine' w_call ?_)
  | (with_reducible refine' w_bm ?_)
  | (with_reducible refine' w_bm0 ?_)
  | ((with_reducible refine' w_app ?hh ?hz ?_); (case hh => walk_at "hp"); (case hz => first | exact ly_lt (by omega) | exact ly_lt (by simp only [List.length_append, List.length_map, List.length_cons, List.length_nil]; omega)))
  | ((with_reducible refine' w_popA ?hh ?_); (case hh => walk_at "hp"))
  | ((with_reducible refine' w_ext ?hh ?hh2 ?hz ?_); (case hh => walk_at "hp"); (case hh2 => walk_at "hp"))
  | ((with_reducible refine' w_ixL ?hh ?ha ?_); (case hh => walk_at "hp"); (case ha => first | exact rfl | exact at_map (by omega) | exact atI_last _ _ | ((refine' at_of ?ae ?ah); (case ah => assumption); (case ae => omega))))
  | ((with_reducible refine' w_ixT ?hh ?ha ?_); (case hh => walk_at "hp"); (case ha => first | exact rfl | exact at_map (by omega) | exact atI_last _ _ | ((refine' at_of ?ae ?ah); (case ah => assumption); (case ae => omega))))
  | ((with_reducible refine' w_cat ?hh ?hh2 ?hz ?_); (case hh => walk_at "hp"); (case hh2 => walk_at "hp"))
  | ((with_reducible refine' w_setL ?hh ?ha ?_); (case hh => walk_at "hp"); (case ha => exact rfl))
  | (with_reducible refine' w_test ?_)
  | (with_reducible refine' w_tB ?_)
  | (with_reducible refine' w_bl ?_)
  | (with_reducible refine' w_and ?_)
  | (with_reducible refine' w_or ?_)
  | (with_reducible refine' w_not ?_)
  | (with_reducible refine' w_andV ?_)
  | (with_reducible refine' w_orV ?_)
  | (with_reducible refine' w_notV ?_)
  | (with_reducible refine' w_ifE ?_)
  | (with_reducible refine' w_for ?_)
  | ((with_reducible refine' w_nin ?hh ?_); (case hh => walk_at "hp"))
  | ((with_reducible refine' w_sorted ?hh ?_); (case hh => walk_at "hp"))
  | (with_reducible refine' w_tsadd ?_)
  | ((with_reducible refine' w_tsadd1 ?hh ?_); (case hh => walk_at "hp"))
  | ((with_reducible refine' w_sadd ?hh ?hr ?_); (case hh => walk_at "hp"); (case hr => omega))
  | (with_reducible refine' w_iZ ?_)
  | ((with_reducible refine' w_iZ1 ?hh ?hh2 ?_); (case hh => walk_at "hp"); (case hh2 => walk_at "hp"))
  | (with_reducible refine' w_iS ?_)
  | (with_reducible refine' w_iS1 ?_)
  | ((with_reducible refine' w_gtup ?hh ?hn ?_); (case hh => walk_at "hp"); (case hn => exact rfl))
  | (with_reducible refine' w_gcons ?_)
  | (with_reducible refine' w_gnil ?_)
  | (with_reducible refine' w_js ?_)
  | (with_reducible refine' w_jsn ?_)
  | ((with_reducible refine' w_js1 ?hl ?_); (case hl => decide +kernel))
  | (with_reducible refine' w_fmt ?_)
  | ((with_reducible refine' w_fmt1 ?hl ?_); (case hl => decide +kernel))
  | (with_reducible refine' w_callS ?_)
  | ((with_reducible refine' w_truL ?hh ?_); (case hh => walk_at "hp"))
  | (with_reducible refine' w_lc ?_)
  | (with_reducible refine' w_yes ?_)
  | ((with_reducible refine' w_wipe ?he ?_); (case he => exact rfl))
  | (with_reducible refine' w_iL ?_)
  | (with_reducible refine' w_iT ?_)
  | (with_reducible refine' w_iR ?_)
  | ((with_reducible refine' w_iL1 ?hh ?_); (case hh => walk_at "hp"))
  | ((with_reducible refine' w_iT1 ?hh ?_); (case hh => walk_at "hp"))
  | ((with_reducible refine' w_iR1 ?h1 ?h2 ?_); (case h1 => omega); (case h2 => omega))
  | ((with_reducible refine' w_aug ?hv ?_); (case hv => exact rfl))
  | (with_reducible refine' w_ipI ?_)
  | ((with_reducible refine' w_isi ?hy ?hk ?_); (case hy => walk_at "ty"); (case hk => walk_at "kit"))
  | ((with_reducible refine' w_int ?_))
  | ((with_reducible refine' w_intB ?_))
  | ((with_reducible refine' w_abs ?_))
  | ((with_reducible refine' w_lenL ?hh ?_); (case hh => walk_at "hp"))
  | ((with_reducible refine' w_lenT ?hh ?_); (case hh => walk_at "hp"))
  | ((with_reducible refine' w_tupL ?hh ?_); (case hh => walk_at "hp"))
  | ((with_reducible refine' w_tupT ?hh ?_); (case hh => walk_at "hp"))
  | ((with_reducible refine' w_catA ?hh ?hh2 ?hz ?_); (case hh => walk_at "hp"); (case hh2 => walk_at "hp"); (case hz => walk_at "len"))
  | ((with_reducible refine' w_repB ?hh ?hne ?h2 ?h3 ?hz ?_); (case hh => walk_at "hp"); (case hne => simp); (case h2 => omega); (case h3 => omega); (case hz => exact Nat.le_of_ble_eq_true rfl))
  | ((with_reducible refine' w_eqN ?hh ?hh2 ?n1 ?n2 ?_); (case hh => walk_at "hp"); (case hh2 => walk_at "hp"); (case n1 => walk_at "nd"); (case n2 => walk_at "nd"))
  | ((with_reducible refine' w_neN ?hh ?hh2 ?n1 ?n2 ?_); (case hh => walk_at "hp"); (case hh2 => walk_at "hp"); (case n1 => walk_at "nd"); (case n2 => walk_at "nd"))
  | ((with_reducible refine' w_eqL ?hh ?hh2 ?n1 ?n2 ?_); (case hh => walk_at "hp"); (case hh2 => walk_at "hp"); (case n1 => walk_at "nd"); (case n2 => walk_at "nd"))
  | ((with_reducible refine' w_neL ?hh ?hh2 ?n1 ?n2 ?_); (case hh => walk_at "hp"); (case hh2 => walk_at "hp"); (case n1 => walk_at "nd"); (case n2 => walk_at "nd"))
  | ((with_reducible refine' w_neNon ?hh2 ?n2 ?_); (case hh2 => walk_at "hp"); (case n2 => walk_at "nd"))
  | ((with_reducible refine' w_eqNon ?hh2 ?n2 ?_); (case hh2 => walk_at "hp"); (case n2 => walk_at "nd"))
  | ((with_reducible refine' w_slA ?hh ?_); (case hh => walk_at "hp"))
  | ((with_reducible refine' w_disp ?hz ?_); (case hz => exact sz_of (Nat.le_of_ble_eq_true rfl)))
  | ((with_reducible refine' w_tyL ?hh ?_); (case hh => walk_at "hp"))
  | (with_reducible refine' iteT ?_)
  | (with_reducible refine' iteF ?_)
  | (with_reducible refine' w_nT ?_)
  | (with_reducible refine' w_nn ?_)
  | (with_reducible refine' w_nnT ?_)
  | (with_reducible refine' w_nnR ?_)
  | (with_reducible refine' w_neG ?_)
  | (with_reducible refine' w_eqG ?_)
  | (with_reducible refine' w_neS ?_)
  | (with_reducible refine' w_eqS ?_)
  | (with_reducible refine' w_neSb ?_)
  | (with_reducible refine' w_eqSb ?_)
  | (with_reducible refine' w_deIS ?_)
  | (with_reducible refine' w_deSI ?_)
  | (with_reducible refine' w_deISn ?_)
  | ((with_reducible refine' w_deST ?he ?_); (case he => decide +kernel))
  | ((with_reducible refine' w_deSF ?he ?_); (case he => decide +kernel))
  | ((with_reducible refine' w_deSTn ?he ?_); (case he => decide +kernel))
  | ((with_reducible refine' w_deSFn ?he ?_); (case he => decide +kernel))
  | (with_reducible refine' w_nF ?_)
  | dsimp only [Bool.not_true, Bool.not_false])
local macro_rules | `(tactic| walk_at "ty") => `(tactic| first
  | exact .base (.int _) | exact .base (.str _) | exact .base (.bl _) | exact .base .non
  | ((refine' tyx_t ?hq); (case hq => walk_at "hp")) | ((refine' tyx_l ?hq); (case hq => walk_at "hp")) | ((refine' .base (.tup ?hq)); (case hq => walk_at "hp")) | assumption)
local macro_rules | `(tactic| walk_at "go") => `(tactic| repeat walk_at "go1")
local macro_rules | `(tactic| walk_at "st") => `(tactic| try dsimp only [cxOf, Cx.nox, Cx.wish])
local macro_rules | `(tactic| walk_at "kit") => `(tactic| with_reducible first | exact kit_int_int | exact kit_int_str | exact kit_int_bool | exact kit_int_tuple | exact kit_int_list | exact kit_str_int | exact kit_str_str | exact kit_str_bool | exact kit_str_tuple | exact kit_str_list | exact kit_bool_int | exact kit_bool_str | exact kit_bool_bool | exact kit_bool_tuple | exact kit_bool_list | exact kit_NoneType_int | exact kit_NoneType_str | exact kit_NoneType_bool | exact kit_NoneType_tuple | exact kit_NoneType_list | exact kit_list_int | exact kit_list_str | exact kit_list_bool | exact kit_list_tuple | exact kit_list_list | exact kit_tuple_int | exact kit_tuple_str | exact kit_tuple_bool | exact kit_tuple_tuple | exact kit_tuple_list)
local macro_rules | `(tactic| walk_at "nd") => `(tactic| first
  | assumption
  | exact Tm.nds _
  | exact Nds.nil
  | exact Nds.ofInts _
  | ((refine' Nds.cons ?na ?nb); (case na => first | exact Nds.I _ | exact Nds.L | exact Nds.A); (case nb => walk_at "nd"))
  | ((refine' Nds.app ?na ?nb); (case na => walk_at "nd"); (case nb => walk_at "nd"))
  | ((refine' Nds.rep ?na _); (case na => walk_at "nd")))
local macro_rules | `(tactic| walk_at "len") => `(tactic| first
  | exact ly_sz (by omega)
  | ((simp only [List.length_append, List.length_cons, List.length_nil, List.length_map, PyProof.Rows.lm_len_rep_flat]); exact ly_sz (by omega)))
local macro_rules | `(tactic| walk_at "go1") => `(tactic| first
  | (with_reducible refine' w_kget2 ?_)
  | (with_reducible refine' w_isRN ?_)
  | (with_reducible refine' w_isNN ?_)
  | (with_reducible refine' w_isIN ?_)
  | ((with_reducible refine' w_kg ?hd ?_); (case hd => assumption)))
local macro_rules | `(tactic| walk_at "go1") => `(tactic| first
  | ((with_reducible refine' w_extT ?hh ?hh2 ?hz ?_); (case hh => walk_at "hp"); (case hh2 => walk_at "hp"))
  | ((with_reducible refine' w_I ?hc ?_); (case hc => exact ⟨by decide, by decide, by decide⟩))
  | (with_reducible refine' w_sl ?_)
  | (with_reducible refine' w_noP ?_)
  | (with_reducible refine' w_part ?_)
  | (with_reducible refine' w_part1 ?_)
  | (with_reducible refine' w_it ?_)
  | (with_reducible refine' w_it1 ?_)
  | ((with_reducible refine' w_lenZ ?hz ?_); (case hz => omega))
  | ((with_reducible refine' w_addZb ?hz ?_); (case hz => omega))
  | ((with_reducible refine' w_addZf ?hz ?_); (case hz => omega))
  | ((with_reducible refine' w_addZa ?hz ?_); (case hz => omega))
  | ((with_reducible refine' w_inS ?hh ?_); (case hh => walk_at "hp"))
  | ((with_reducible refine' w_ixT ?hh ?ha ?_); (case hh => assumption); (case ha => exact atI_nat (by assumption))))
local macro_rules | `(tactic| walk_at "go1") => `(tactic| first
  | (with_reducible refine' w_iR2 ?_)
  | ((with_reducible refine' w_iR21 ?h1 ?h2 ?h3 ?h4 ?_); (case h1 => omega); (case h2 => omega); (case h3 => omega); (case h4 => omega))
  | (with_reducible refine' w_nnI ?_)
  | (with_reducible refine' w_max ?_)
  | (with_reducible refine' w_break ?_)
  | (with_reducible refine' w_cont ?_))
local macro_rules | `(tactic| walk_at "go1") => `(tactic| first
  | (with_reducible refine' w_tdget ?_)
  | (with_reducible refine' w_tdin ?_)
  | (with_reducible refine' w_tdnotin ?_)
  | (with_reducible refine' w_sdput ?_)
  | (with_reducible refine' w_tdsetd ?_)
  | (with_reducible refine' w_dnew ?_))
local macro_rules | `(tactic| walk_at "go1") => `(tactic| first
  | (with_reducible refine' w_iZL ?_)
  | (with_reducible refine' w_sfld ?_)
  | (with_reducible refine' w_tfld ?_)
  | (with_reducible refine' w_make ?_)
  | fail)
local macro_rules | `(tactic| walk_at "go1") => `(tactic| first
  | (with_reducible refine' w_sfa ?_)
  | (with_reducible refine' w_tmP ?_)
  | (with_reducible refine' w_tdget2 ?_))
section
variable {P : Program} {w : World} {K : PySem.W.Frag} {mg : Str → Option Value} {base : Heap} {tk : Nat → Tok} {cl : Nat → Addr}
theorem digs : ("0123456789" : Str).cps.toList = [48, 49, 50, 51, 52, 53, 54, 55, 56, 57] := by decide +kernel
theorem lows : ("abcdefghijklmnopqrstuvwxyz" : Str).cps.toList = [97, 98, 99, 100, 101, 102, 103, 104, 105, 106, 107, 108, 109, 110, 111, 112, 113, 114, 115, 116, 117, 118, 119, 120, 121, 122] := by decide +kernel
theorem sgns : ("\\.()" : Str).cps.toList = [92, 46, 40, 41] := by decide +kernel
theorem in_digs (c : Nat) : decide (c ∈ ("0123456789" : Str).cps.toList) = isDig c := by
  rw [digs]
  unfold isDig
  apply decide_eq_decide.mpr
  simp
  omega
theorem in_lows (c : Nat) : decide (c ∈ ("abcdefghijklmnopqrstuvwxyz" : Str).cps.toList) = isLow c := by
  rw [lows]
  unfold isLow
  apply decide_eq_decide.mpr
  simp
  omega
theorem in_sgns (c : Nat) : decide (c ∈ ("\\.()" : Str).cps.toList) = isSgn c := by
  rw [sgns]
  unfold isSgn
  apply Bool.eq_iff_iff.mpr
  simp only [decide_eq_true_eq, List.mem_cons, List.not_mem_nil, or_false, Bool.or_eq_true, beq_iff_eq]
  omega
theorem tokL_cons (c : Nat) (r : List Nat) : tokL (c :: r) = if isLow c = true then (if 10 ≤ (r.takeWhile isDig).length then .inr 10 else .inl (1 + (r.takeWhile isDig).length)) else if isSgn c = true then .inl 1 else .inr 0 := rfl
theorem tw_lt {p : Nat → Bool} : ∀ {xs : List Nat} {j : Nat}, j < (xs.takeWhile p).length → ∃ c, xs[j]? = some c ∧ p c = true
  | [], j, h => by simp at h
  | x :: xs, j, h => by
    rw [List.takeWhile_cons] at h
    split at h
    · rename_i hx
      cases j with
      | zero => exact ⟨x, rfl, hx⟩
      | succ j => exact tw_lt (xs := xs) (by simpa using h)
    · simp at h
theorem tw_ge {p : Nat → Bool} : ∀ {xs : List Nat} {c : Nat}, xs[(xs.takeWhile p).length]? = some c → p c = false
  | [], c, h => by simp at h
  | x :: xs, c, h => by
    rw [List.takeWhile_cons] at h
    split at h
    · exact tw_ge (xs := xs) (by simpa using h)
    · rename_i hx
      simp at h
      rw [← h]
      simpa using hx
theorem tw_le {p : Nat → Bool} (xs : List Nat) : (xs.takeWhile p).length ≤ xs.length := (List.takeWhile_sublist p).length_le
theorem w_ixPl {p : List Nat} {i c : Nat} {H : Hp} {Q : VK} (z : p.length ≤ 1000000) (h : p[i]? = some c) (q : Q (.str (pl [c])) H) : rIxS (.str (pl p)) (.int (i : Int)) H Q :=
  ⟨pl p, _, c, rfl, rfl, by rw [pl_len]; exact Nat.le_of_lt (ly_lt (by omega)), atI_nat (by simpa [pl] using h), q⟩
def spNameEnd : Sp := fun vs H Q _ => ∃ (cs : List Nat) (s : Nat), vs = [.str (pl cs), .int (s : Int)] ∧ cs.length ≤ 100000 ∧ s < cs.length ∧ ((cs.drop (s + 1)).takeWhile isDig).length < 10 ∧ Q (.int ((s + (1 + ((cs.drop (s + 1)).takeWhile isDig).length) : Nat) : Int)) H
theorem ok_nameend {f : Addr} {fd : FuncData} {k : Nat} (F : Fun K "name_end" "name_end" s_name_end f fd) (T : Txt w K mg tk cl) : FnOk P w K mg base CX0 (k + 1) f fd ["text", "start"] spNameEnd := by
  refine F.ok sc_name_end (fun vs H Q E h => ?_) (fun cdv A outer s H vs Q E hr h => ?_)
  · obtain ⟨_, _, rfl, _⟩ := h
    rfl
  · obtain ⟨cs, s, rfl, hz, hs, hd, q⟩ := h
    refine ⟨_, (pss_cons (ps_set (i := 2) sc_name_end.nd rfl (.inl rfl) (pe_op op_add (pv 1) pe_int)) (pss_cons (ps_while PassesOwn.never (PW.pt (pw_and (pt_cmpR op_lt (pv 2) (pe_callB call_lenZ (by rfl) T.n_len (by decide +kernel) (pa_cons (pv 0) pa_nil)) (nomark _)) (pw_and1 (pt_cmpR op_in_sign (pe_ix ix_str (pv 0) (pv 2) (fun _ _ => rfl)) (pe_glob (v := .str "0123456789") (by rfl) T.g_DIGITS ⟨_, rfl⟩) rfl)))) (pss_cons (ps_if (pt_cmpR op_eq (pe_op op_sub (pv 2) (pv 1)) (pe_glob (v := .int 10) rfl T.g_MOST_LENGTH ⟨_, rfl⟩) (nomark _)) (pss_one ps_dead) pss_nil) (pss_one (ps_aug (i := 2) sc_name_end.nd rfl (.inl rfl) pe_int ip_add)))) (pss_one (ps_ret (pv 2))))), ?_⟩
    refine sl_of (σ2 := [some _, some _, none]) rfl ?_
    have hle := tw_le (p := isDig) (cs.drop (s + 1))
    rw [List.length_drop] at hle
    generalize hD : ((cs.drop (s + 1)).takeWhile isDig).length = d at *
    walk_at "st"
    walk_at "go"
    refine w_while (fun m σ H' => ∃ j : Nat, σ = [some (.str (pl cs)), some (.int (s : Int)), some (.int ((s + (1 + j) : Nat) : Int))] ∧ H' = H ∧ j ≤ d ∧ m = d - j) d ⟨0, rfl, rfl, Nat.zero_le _, rfl⟩ ?_
    rintro m σ H1 ⟨j, rfl, rfl, hj, rfl⟩
    walk_at "go"
    refine w_br (fun h1 => ?_) (fun h1 => ?_)
    · have hlt : s + (1 + j) < cs.length := by omega
      have hc : cs[s + (1 + j)]? = some cs[s + (1 + j)] := List.getElem?_eq_getElem hlt
      have hcd : (cs.drop (s + 1))[j]? = some cs[s + (1 + j)] := by rw [List.getElem?_drop, ← hc]; congr 1; omega
      generalize cs[s + (1 + j)] = c at *
      walk_at "go"
      refine w_ixPl (p := cs) (by omega) hc ?_
      walk_at "go"
      refine ⟨c, _, rfl, rfl, ?_⟩
      rw [in_digs]
      by_cases hjd : j < d
      · obtain ⟨c', e1, e2⟩ := tw_lt (p := isDig) (xs := cs.drop (s + 1)) (by rw [hD]; exact hjd)
        rw [hcd] at e1
        cases e1
        rw [e2]
        refine ⟨_, rfl, ?_⟩
        refine iteT ?_
        refine ⟨fun σ' H' => ∃ j2 : Nat, σ' = [some (.str (pl cs)), some (.int (s : Int)), some (.int ((s + (1 + j2) : Nat) : Int))] ∧ H' = H1 ∧ j2 ≤ d ∧ d - (j + 1) = d - j2, fun σ' H' ⟨j2, a1, a2, a3, a4⟩ => ⟨_, ?_, j2, a1, a2, a3, a4⟩, ?_⟩
        · omega
        walk_at "go"
        refine w_brI (fun z => by omega) (fun _ => ?_)
        walk_at "go"
        exact ⟨j + 1, by rw [show ((s + (1 + j) : Nat) : Int) + 1 = ((s + (1 + (j + 1)) : Nat) : Int) by omega]; rfl, rfl, hjd, rfl⟩
      · obtain rfl : j = d := by omega
        have e2 : isDig c = false := tw_ge (p := isDig) (xs := cs.drop (s + 1)) (by rw [hD]; exact hcd)
        rw [e2]
        refine ⟨_, rfl, iteF ?_⟩
        walk_at "go"
        exact q
    · have hjd : j = d := by
        refine Nat.le_antisymm hj ?_
        omega
      subst hjd
      walk_at "go"
      exact q
def spTokEnd : Sp := fun vs H Q _ => ∃ (cs : List Nat) (s k : Nat), vs = [.str (pl cs), .int (s : Int)] ∧ cs.length ≤ 100000 ∧ tokL (cs.drop s) = .inl k ∧ Q (.int ((s + k : Nat) : Int)) H
theorem ok_tokend {f : Addr} {fd : FuncData} (F : Fun K "token_end" "token_end" s_token_end f fd) (T : Txt w K mg tk cl)
    (D1 : Def P w K mg base CX0 1 "name_end" ["text", "start"] spNameEnd) : FnOk P w K mg base CX0 2 f fd ["text", "start"] spTokEnd := by
  obtain ⟨f1, fd1, g_name_end, kp_name_end, b_name_end, G_name_end⟩ := D1
  refine F.ok sc_token_end (fun vs H Q E h => ?_) (fun cdv A outer s H vs Q E hr h => ?_)
  · obtain ⟨_, _, _, rfl, _⟩ := h
    rfl
  · obtain ⟨cs, s, k, rfl, hz, hk, q⟩ := h
    refine ⟨_, (pss_cons (ps_if (pt_cmpR op_in_sign (pe_ix ix_str (pv 0) (pv 1) (fun _ _ => rfl)) (pe_glob (v := .str "abcdefghijklmnopqrstuvwxyz") (by rfl) T.g_LETTERS ⟨_, rfl⟩) rfl) (pss_one (ps_ret (pe_call G_name_end (hr.mono (by first | decide | omega)) (by rfl) g_name_end kp_name_end b_name_end .nil pass0 (pa_cons (pv 0) (pa_cons (pv 1) pa_nil))))) pss_nil) (pss_cons (ps_if (pt_cmpR op_in_sign (pe_ix ix_str (pv 0) (pv 1) (fun _ _ => rfl)) (pe_glob (v := .str "\\.()") (by rfl) T.g_SIGNS ⟨_, rfl⟩) rfl) (pss_one (ps_ret (pe_op op_add (pv 1) pe_int))) pss_nil) (pss_one ps_dead))), ?_⟩
    refine sl_of (σ2 := [some _, some _]) rfl ?_
    cases hd : cs.drop s with
    | nil =>
      rw [hd] at hk
      cases hk
    | cons c r =>
      rw [hd] at hk
      have hlt : s < cs.length := by
        have := congrArg List.length hd
        rw [List.length_drop, List.length_cons] at this
        omega
      have hc : cs[s]? = some c := by
        have := congrArg (fun l => l[0]?) hd
        simpa using this
      have hr : cs.drop (s + 1) = r := by
        have := congrArg List.tail hd
        simpa using this
      rw [tokL_cons] at hk
      walk_at "st"
      walk_at "go"
      refine w_ixPl (p := cs) (by omega) hc ?_
      walk_at "go"
      refine ⟨c, _, rfl, rfl, ?_⟩
      rw [in_lows]
      by_cases h1 : isLow c = true
      · rw [if_pos h1] at hk
        rw [h1]
        split at hk
        · cases hk
        · rename_i h2
          cases hk
          walk_at "go"
          refine ⟨cs, s, rfl, hz, hlt, by rw [hr]; omega, ?_⟩
          walk_at "go"
          rw [hr]
          exact q
      · rw [if_neg h1] at hk
        rw [Bool.eq_false_iff.mpr h1]
        walk_at "go"
        refine w_ixPl (p := cs) (by omega) hc ?_
        walk_at "go"
        refine ⟨c, _, rfl, rfl, ?_⟩
        rw [in_sgns]
        split at hk
        · rename_i h2
          cases hk
          rw [h2]
          walk_at "go"
          exact q
        · cases hk
end
end Ly
set_option Elab.async false
set_option linter.all false
set_option maxRecDepth 100000
set_option maxHeartbeats 8000000
namespace Ly
open PySem PySem.Spec PyProof.Rows L2 Evl
local macro_rules | `(tactic| walk_at "ne") => `(tactic| first
  | assumption
  | ((refine' Ne.symm ?hq); (case hq => assumption))
  | ((refine' ne_of_none ?nh1 ?nh2); (case nh2 => assumption); (case nh1 => walk_at "hp"))
  | ((refine' Ne.symm (ne_of_none ?nh1 ?nh2)); (case nh2 => assumption); (case nh1 => walk_at "hp")))
local macro_rules | `(tactic| walk_at "hp") => `(tactic| first
  | assumption
  | exact upd_same
  | ((refine' SqL.of ?hq); (case hq => walk_at "hp"))
  | ((refine' SqT.of ?hq); (case hq => walk_at "hp"))
  | ((refine' (upd_ne ?hne).trans ?hrest); (case hne => walk_at "ne"); (case hrest => walk_at "hp"))
  | ((refine' ly_at ?hex ?hh); (case hex => assumption); (case hh => walk_at "hp"))
  | ((refine' ly_atF ?hex ?hnn ?hh); (case hex => assumption); (case hh => walk_at "hp"); (case hnn => walk_at "ne"))
  | ((refine' ex_t ?hex ?hh); (case hh => assumption); (case hex => walk_at "ex"))
  | ((refine' ex_l ?hex ?hh); (case hh => assumption); (case hex => walk_at "ex")))
local macro_rules | `(tactic| walk_at "ex") => `(tactic| first
  | assumption
  | exact Ex.refl _
  | ((refine' ex_new ?xa ?xb); (case xb => assumption); (case xa => walk_at "ex"))
  | ((refine' ex_upd ?xa ?xb); (case xb => walk_at "free"); (case xa => walk_at "ex"))
  | ((refine' Ex.trans ?xa ?xb); (case xb => assumption); (case xa => walk_at "ex")))
local macro_rules | `(tactic| walk_at "free") => `(tactic| first
  | assumption
  | ((refine' fresh_back ?xa ?xb); (case xb => assumption); (case xa => walk_at "ex")))
local macro_rules | `(tactic| walk_at "fr") => `(tactic| first
  | assumption
  | exact Fr.refl _ _
  | ((refine' Fr.own ?hq); (case hq => walk_at "fr"))
  | ((refine' Fr.new ?xa ?xb); (case xb => assumption); (case xa => walk_at "fr"))
  | ((refine' Fr.mut ?xa ?xb); (case xb => assumption); (case xa => walk_at "fr"))
  | ((refine' Fr.trans ?xa ?xb); (case xb => assumption); (case xa => walk_at "fr"))
  | ((refine' Fr.trans ?xa (Fr.ex ?xb)); (case xb => assumption); (case xa => walk_at "fr")))
local macro_rules | `(tactic| walk_at "go1") => `(tactic| first
  | (with_reducible refine' w_seq ?_)
  | (with_reducible refine' w_asg ?_)
  | (with_reducible refine' w_ret ?_)
  | (with_reducible refine' w_drop ?_)
  | (with_reducible refine' w_if ?_)
  | (with_reducible refine' w_next ?_)
  | (with_reducible refine' w_name ?_)
  | (with_reducible refine' w_sub ?_)
  | ((with_reducible refine' w_var ?hv ?_); (case hv => exact rfl))
  | (with_reducible refine' w_c ?_)
  | (with_reducible refine' w_op ?_)
  | (with_reducible refine' w_un ?_)
  | (with_reducible refine' w_ch ?_)
  | (with_reducible refine' w_I0 ?_)
  | ((with_reducible refine' w_I ?hc ?_); (case hc => first | (exact ly_mulL (by decide) (by decide)) | (exact ly_mulR (by decide) (by decide)) | (exact ly_mulL (by omega) (by omega)) | (show (_ : Int) ≠ 0; decide) | (show (_ : Int) ≠ 0; omega) | (exact ⟨by decide, by decide⟩) | (exact ⟨by omega, by omega⟩)))
  | (with_reducible refine' w_U ?_)
  | ((with_reducible refine' w_eq ?hs ?_); (case hs => exact rfl))
  | ((with_reducible refine' w_ne ?hs ?_); (case hs => exact rfl))
  | (with_reducible refine' w_isB ?_)
  | (with_reducible refine' w_notB ?_)
  | (with_reducible refine' w_nil ?_)
  | (with_reducible refine' w_cons ?_)
  | (with_reducible refine' w_tup ?_)
  | (with_reducible refine' w_lst ?_)
  | (with_reducible refine' w_cb ?_)
  | (with_reducible refine' w_call ?_)
  | (with_reducible refine' w_bm ?_)
  | (with_reducible refine' w_bm0 ?_)
  | ((with_reducible refine' w_app ?hh ?hz ?_); (case hh => walk_at "hp"); (case hz => first | exact ly_lt (by omega) | exact ly_lt (by simp only [List.length_append, List.length_map, List.length_cons, List.length_nil]; omega)))
  | ((with_reducible refine' w_popA ?hh ?_); (case hh => walk_at "hp"))
  | ((with_reducible refine' w_ext ?hh ?hh2 ?hz ?_); (case hh => walk_at "hp"); (case hh2 => walk_at "hp"))
  | ((with_reducible refine' w_ixL ?hh ?ha ?_); (case hh => walk_at "hp"); (case ha => first | exact rfl | exact at_map (by omega) | exact atI_last _ _ | ((refine' at_of ?ae ?ah); (case ah => assumption); (case ae => omega))))
  | ((with_reducible refine' w_ixT ?hh ?ha ?_); (case hh => walk_at "hp"); (case ha => first | exact rfl | exact at_map (by omega) | exact atI_last _ _ | ((refine' at_of ?ae ?ah); (case ah => assumption); (case ae => omega))))
  | ((with_reducible refine' w_cat ?hh ?hh2 ?hz ?_); (case hh => walk_at "hp"); (case hh2 => walk_at "hp"))
  | ((with_reducible refine' w_setL ?hh ?ha ?_); (case hh => walk_at "hp"); (case ha => exact rfl))
  | (with_reducible refine' w_test ?_)
  | (with_reducible refine' w_tB ?_)
  | (with_reducible refine' w_bl ?_)
  | (with_reducible refine' w_and ?_)
  | (with_reducible refine' w_or ?_)
  | (with_reducible refine' w_not ?_)
  | (with_reducible refine' w_andV ?_)
  | (with_reducible refine' w_orV ?_)
  | (with_reducible refine' w_notV ?_)
  | (with_reducible refine' w_ifE ?_)
  | (with_reducible refine' w_for ?_)
  | ((with_reducible refine' w_nin ?hh ?_); (case hh => walk_at "hp"))
  | ((with_reducible refine' w_sorted ?hh ?_); (case hh => walk_at "hp"))
  | (with_reducible refine' w_tsadd ?_)
  | ((with_reducible refine' w_tsadd1 ?hh ?_); (case hh => walk_at "hp"))
  | ((with_reducible refine' w_sadd ?hh ?hr ?_); (case hh => walk_at "hp"); (case hr => omega))
  | (with_reducible refine' w_iZ ?_)
  | ((with_reducible refine' w_iZ1 ?hh ?hh2 ?_); (case hh => walk_at "hp"); (case hh2 => walk_at "hp"))
  | (with_reducible refine' w_iS ?_)
  | (with_reducible refine' w_iS1 ?_)
  | ((with_reducible refine' w_gtup ?hh ?hn ?_); (case hh => walk_at "hp"); (case hn => exact rfl))
  | (with_reducible refine' w_gcons ?_)
  | (with_reducible refine' w_gnil ?_)
  | (with_reducible refine' w_js ?_)
  | (with_reducible refine' w_jsn ?_)
  | ((with_reducible refine' w_js1 ?hl ?_); (case hl => decide +kernel))
  | (with_reducible refine' w_fmt ?_)
  | ((with_reducible refine' w_fmt1 ?hl ?_); (case hl => decide +kernel))
  | (with_reducible refine' w_callS ?_)
  | ((with_reducible refine' w_truL ?hh ?_); (case hh => walk_at "hp"))
  | (with_reducible refine' w_lc ?_)
  | (with_reducible refine' w_yes ?_)
  | ((with_reducible refine' w_wipe ?he ?_); (case he => exact rfl))
  | (with_reducible refine' w_iL ?_)
  | (with_reducible refine' w_iT ?_)
  | (with_reducible refine' w_iR ?_)
  | ((with_reducible refine' w_iL1 ?hh ?_); (case hh => walk_at "hp"))
  | ((with_reducible refine' w_iT1 ?hh ?_); (case hh => walk_at "hp"))
  | ((with_reducible refine' w_iR1 ?h1 ?h2 ?_); (case h1 => omega); (case h2 => omega))
  | ((with_reducible refine' w_aug ?hv ?_); (case hv => exact rfl))
  | (with_reducible refine' w_ipI ?_)
  | ((with_reducible refine' w_isi ?hy ?hk ?_); (case hy => walk_at "ty"); (case hk => walk_at "kit"))
  | ((with_reducible refine' w_int ?_))
  | ((with_reducible refine' w_intB ?_))
  | ((with_reducible refine' w_abs ?_))
  | ((with_reducible refine' w_lenL ?hh ?_); (case hh => walk_at "hp"))
  | ((with_reducible refine' w_lenT ?hh ?_); (case hh => walk_at "hp"))
  | ((with_reducible refine' w_tupL ?hh ?_); (case hh => walk_at "hp"))
  | ((with_reducible refine' w_tupT ?hh ?_); (case hh => walk_at "hp"))
  | ((with_reducible refine' w_catA ?hh ?hh2 ?hz ?_); (case hh => walk_at "hp"); (case hh2 => walk_at "hp"); (case hz => walk_at "len"))
  | ((with_reducible refine' w_repB ?hh ?hne ?h2 ?h3 ?hz ?_); (case hh => walk_at "hp"); (case hne => simp); (case h2 => omega); (case h3 => omega); (case hz => exact Nat.le_of_ble_eq_true rfl))
  | ((with_reducible refine' w_eqN ?hh ?hh2 ?n1 ?n2 ?_); (case hh => walk_at "hp"); (case hh2 => walk_at "hp"); (case n1 => walk_at "nd"); (case n2 => walk_at "nd"))
  | ((with_reducible refine' w_neN ?hh ?hh2 ?n1 ?n2 ?_); (case hh => walk_at "hp"); (case hh2 => walk_at "hp"); (case n1 => walk_at "nd"); (case n2 => walk_at "nd"))
  | ((with_reducible refine' w_eqL ?hh ?hh2 ?n1 ?n2 ?_); (case hh => walk_at "hp"); (case hh2 => walk_at "hp"); (case n1 => walk_at "nd"); (case n2 => walk_at "nd"))
  | ((with_reducible refine' w_neL ?hh ?hh2 ?n1 ?n2 ?_); (case hh => walk_at "hp"); (case hh2 => walk_at "hp"); (case n1 => walk_at "nd"); (case n2 => walk_at "nd"))
  | ((with_reducible refine' w_neNon ?hh2 ?n2 ?_); (case hh2 => walk_at "hp"); (case n2 => walk_at "nd"))
  | ((with_reducible refine' w_eqNon ?hh2 ?n2 ?_); (case hh2 => walk_at "hp"); (case n2 => walk_at "nd"))
  | ((with_reducible refine' w_slA ?hh ?_); (case hh => walk_at "hp"))
  | ((with_reducible refine' w_disp ?hz ?_); (case hz => exact sz_of (Nat.le_of_ble_eq_true rfl)))
  | ((with_reducible refine' w_tyL ?hh ?_); (case hh => walk_at "hp"))
  | (with_reducible refine' iteT ?_)
  | (with_reducible refine' iteF ?_)
  | (with_reducible refine' w_nT ?_)
  | (with_reducible refine' w_nn ?_)
  | (with_reducible refine' w_nnT ?_)
  | (with_reducible refine' w_nnR ?_)
  | (with_reducible refine' w_neG ?_)
  | (with_reducible refine' w_eqG ?_)
  | (with_reducible refine' w_neS ?_)
  | (with_reducible refine' w_eqS ?_)
  | (with_reducible refine' w_neSb ?_)
  | (with_reducible refine' w_eqSb ?_)
  | (with_reducible refine' w_deIS ?_)
  | (with_reducible refine' w_deSI ?_)
  | (with_reducible refine' w_deISn ?_)
  | ((with_reducible refine' w_deST ?he ?_); (case he => decide +kernel))
  | ((with_reducible refine' w_deSF ?he ?_); (case he => decide +kernel))
  | ((with_reducible refine' w_deSTn ?he ?_); (case he => decide +kernel))
  | ((with_reducible refine' w_deSFn ?he ?_); (case he => decide +kernel))
  | (with_reducible refine' w_nF ?_)
  | dsimp only [Bool.not_true, Bool.not_false])
local macro_rules | `(tactic| walk_at "ty") => `(tactic| first
  | exact .base (.int _) | exact .base (.str _) | exact .base (.bl _) | exact .base .non
  | ((refine' tyx_t ?hq); (case hq => walk_at "hp")) | ((refine' tyx_l ?hq); (case hq => walk_at "hp")) | ((refine' .base (.tup ?hq)); (case hq => walk_at "hp")) | assumption)
local macro_rules | `(tactic| walk_at "go") => `(tactic| repeat walk_at "go1")
local macro_rules | `(tactic| walk_at "st") => `(tactic| try dsimp only [cxOf, Cx.nox, Cx.wish])
local macro_rules | `(tactic| walk_at "kit") => `(tactic| with_reducible first | exact kit_int_int | exact kit_int_str | exact kit_int_bool | exact kit_int_tuple | exact kit_int_list | exact kit_str_int | exact kit_str_str | exact kit_str_bool | exact kit_str_tuple | exact kit_str_list | exact kit_bool_int | exact kit_bool_str | exact kit_bool_bool | exact kit_bool_tuple | exact kit_bool_list | exact kit_NoneType_int | exact kit_NoneType_str | exact kit_NoneType_bool | exact kit_NoneType_tuple | exact kit_NoneType_list | exact kit_list_int | exact kit_list_str | exact kit_list_bool | exact kit_list_tuple | exact kit_list_list | exact kit_tuple_int | exact kit_tuple_str | exact kit_tuple_bool | exact kit_tuple_tuple | exact kit_tuple_list)
local macro_rules | `(tactic| walk_at "nd") => `(tactic| first
  | assumption
  | exact Tm.nds _
  | exact Nds.nil
  | exact Nds.ofInts _
  | ((refine' Nds.cons ?na ?nb); (case na => first | exact Nds.I _ | exact Nds.L | exact Nds.A); (case nb => walk_at "nd"))
  | ((refine' Nds.app ?na ?nb); (case na => walk_at "nd"); (case nb => walk_at "nd"))
  | ((refine' Nds.rep ?na _); (case na => walk_at "nd")))
local macro_rules | `(tactic| walk_at "len") => `(tactic| first
  | exact ly_sz (by omega)
  | ((simp only [List.length_append, List.length_cons, List.length_nil, List.length_map, PyProof.Rows.lm_len_rep_flat]); exact ly_sz (by omega)))
local macro_rules | `(tactic| walk_at "go1") => `(tactic| first
  | (with_reducible refine' w_kget2 ?_)
  | (with_reducible refine' w_isRN ?_)
  | (with_reducible refine' w_isNN ?_)
  | (with_reducible refine' w_isIN ?_)
  | ((with_reducible refine' w_kg ?hd ?_); (case hd => assumption)))
local macro_rules | `(tactic| walk_at "go1") => `(tactic| first
  | ((with_reducible refine' w_extT ?hh ?hh2 ?hz ?_); (case hh => walk_at "hp"); (case hh2 => walk_at "hp"))
  | ((with_reducible refine' w_I ?hc ?_); (case hc => exact ⟨by decide, by decide, by decide⟩))
  | (with_reducible refine' w_sl ?_)
  | (with_reducible refine' w_noP ?_)
  | (with_reducible refine' w_part ?_)
  | (with_reducible refine' w_part1 ?_)
  | (with_reducible refine' w_it ?_)
  | (with_reducible refine' w_it1 ?_)
  | ((with_reducible refine' w_lenZ ?hz ?_); (case hz => omega))
  | ((with_reducible refine' w_addZb ?hz ?_); (case hz => omega))
  | ((with_reducible refine' w_addZf ?hz ?_); (case hz => omega))
  | ((with_reducible refine' w_addZa ?hz ?_); (case hz => omega))
  | ((with_reducible refine' w_inS ?hh ?_); (case hh => walk_at "hp"))
  | ((with_reducible refine' w_ixT ?hh ?ha ?_); (case hh => assumption); (case ha => exact atI_nat (by assumption))))
local macro_rules | `(tactic| walk_at "go1") => `(tactic| first
  | (with_reducible refine' w_iR2 ?_)
  | ((with_reducible refine' w_iR21 ?h1 ?h2 ?h3 ?h4 ?_); (case h1 => omega); (case h2 => omega); (case h3 => omega); (case h4 => omega))
  | (with_reducible refine' w_nnI ?_)
  | (with_reducible refine' w_max ?_)
  | (with_reducible refine' w_break ?_)
  | (with_reducible refine' w_cont ?_))
local macro_rules | `(tactic| walk_at "go1") => `(tactic| first
  | (with_reducible refine' w_tdget ?_)
  | (with_reducible refine' w_tdin ?_)
  | (with_reducible refine' w_tdnotin ?_)
  | (with_reducible refine' w_sdput ?_)
  | (with_reducible refine' w_tdsetd ?_)
  | (with_reducible refine' w_dnew ?_))
local macro_rules | `(tactic| walk_at "go1") => `(tactic| first
  | (with_reducible refine' w_iZL ?_)
  | (with_reducible refine' w_sfld ?_)
  | (with_reducible refine' w_tfld ?_)
  | (with_reducible refine' w_make ?_)
  | fail)
local macro_rules | `(tactic| walk_at "go1") => `(tactic| first
  | (with_reducible refine' w_sfa ?_)
  | (with_reducible refine' w_tmP ?_)
  | (with_reducible refine' w_tdget2 ?_))
section
variable {P : Program} {w : World} {K : PySem.W.Frag} {mg : Str → Option Value} {base : Heap} {tk : Nat → Tok} {cl : Nat → Addr}
theorem readT_nil (fs : List Str) (n : Nat) (l : Lv) (r : List Lv) (i : Nat) : readT fs n l r i [] = .ok (l, r) := by cases n <;> rfl
theorem cutS_mid (p : List Nat) (i k : Nat) (h : i + k ≤ p.length) : cutS (pl p) (some (i : Int)) (some ((i + k : Nat) : Int)) = pl ((p.drop i).take k) := by
  unfold cutS
  rw [HT.sIx_nat, HT.sIx_nat, pl_len]
  show pl ((p.drop (min i p.length)).take (min (i + k) p.length - min i p.length)) = _
  rw [Nat.min_eq_left (show i ≤ p.length by omega), Nat.min_eq_left h, Nat.add_sub_cancel_left]
theorem tokL_le {cs : List Nat} {k : Nat} (h : tokL cs = .inl k) : 0 < k ∧ k ≤ cs.length := by
  cases cs with
  | nil => cases h
  | cons c r =>
    rw [tokL_cons] at h
    have hle := tw_le (p := isDig) r
    split at h
    · split at h
      · cases h
      · cases h
        simp
        omega
    · split at h
      · cases h
        simp
      · cases h
def spParse (K : PySem.W.Frag) (C : Addr) : Sp := fun vs H Q E => ∃ (cs : List Nat) (p : Addr) (fs : List Str) (xs : List V), vs = [.str (pl cs), .ref p] ∧ H p = some (.lst (txts fs)) ∧ cs.length ≤ 50000 ∧ fs.length ≤ 1000 ∧ parseT fs cs = .ok xs ∧ Flat xs ∧
  (fitsV xs = true → ∀ H' q, Ex H H' → SqX H' q xs → Q (.ref q) H') ∧ (fitsV xs = false → ∀ H', Ex H H' → E (.ref C) none H')
theorem ok_parse {f : Addr} {fd : FuncData} (F : Fun K "parse" "parse" s_parse f fd) (T : Txt w K mg tk cl)
    (D1 : DefC P w K mg base CX0 3 (cl 22) ["self", "names"] (spRdInit (cl 22) (cl 21))) (D2 : Def P w K mg base CX0 2 "token_end" ["text", "start"] spTokEnd)
    (M_Reader_read : C8.Met P w K mg base 5 (cl 22) "read" (spRdRead (cl 22) (cl 21)) []) (M_Reader_finish : C8.Met P w K mg base 4 (cl 22) "finish" (spRdFin (cl 22) (cl 21)) [])
    (D5 : Def P w K mg base (L2.CX P w) 2 "checked" ["term"] (spChecked K (cl 1))) : FnOk P w K mg base (L2.CX P w) 6 f fd ["text", "names"] (spParse K (cl 1)) := by
  obtain ⟨f1, fd1, M_Reader, b_Reader_init, G_Reader_init⟩ := D1
  obtain ⟨f2, fd2, g_token_end, kp_token_end, b_token_end, G_token_end⟩ := D2
  obtain ⟨f5, fd5, g_checked, kp_checked, b_checked, G_checked⟩ := D5
  refine F.okX sc_parse (fun vs H Q E h => ?_) (fun cdv A outer s H vs Q E hr h => ?_)
  · obtain ⟨_, _, _, _, rfl, _⟩ := h
    rfl
  · obtain ⟨cs, p, fs, xs, rfl, hp, hz, hfz, hpar, hfl, q, xq⟩ := h
    refine ⟨_, (pss_cons (ps_set (i := 2) sc_parse.nd rfl (.inl rfl) (pe_make M_Reader G_Reader_init (hr.mono (by first | decide | omega)) (by rfl) T.g_Reader b_Reader_init .nil pass0 (pa_cons (pv 1) pa_nil))) (pss_cons (ps_set (i := 3) sc_parse.nd rfl (.inl rfl) pe_int) (pss_cons (ps_while (passes_of rfl) (pt_cmpR op_lt (pv 3) (pe_callB call_lenZ (by rfl) T.n_len (by decide +kernel) (pa_cons (pv 0) pa_nil)) (nomark _)) (pss_one (ps_if (pt_cmpR op_eq (pe_ix ix_str (pv 0) (pv 3) (fun _ _ => rfl)) pe_str (nomark _)) (pss_one (ps_aug (i := 3) sc_parse.nd rfl (.inl rfl) pe_int ip_add)) (pss_cons (ps_set (i := 4) sc_parse.nd rfl (.inl rfl) (pe_call G_token_end (hr.mono (by first | decide | omega)) (by rfl) g_token_end kp_token_end b_token_end .nil pass0 (pa_cons (pv 0) (pa_cons (pv 3) pa_nil)))) (pss_cons (ps_expr (C8.pe_mt M_Reader_read hr (by first | decide | omega) (pv 2) (pa_cons (pe_slice sl_str (pv 0) (po_some (pv 3)) (po_some (pv 4))) (pa_cons (pv 3) pa_nil)))) (pss_one (ps_set (i := 3) sc_parse.nd rfl (.inl rfl) (pv 4)))))))) (pss_one (ps_ret (pe_call G_checked (hr.mono (by first | decide | omega)) (by rfl) g_checked kp_checked b_checked .nil (passes_call (takes_of rfl rfl rfl rfl) (fun _ _ _ _ h => h)) (pa_cons (pe_callTy call_tupleF (by rfl) T.n_tuple (by decide +kernel) (pa_cons (C8.pe_mt M_Reader_finish hr (by first | decide | omega) (pv 2) (pa_cons (pe_callB call_lenZ (by rfl) T.n_len (by decide +kernel) (pa_cons (pv 0) pa_nil)) pa_nil)) pa_nil)) pa_nil))))))), ?_⟩
    refine sl_of (σ2 := [some _, some _, none, none, none]) rfl ?_
    obtain ⟨l0, r0, hread, hfin⟩ : ∃ l0 r0, readT fs cs.length (Lv.new "") [] 0 cs = .ok (l0, r0) ∧ finT l0 r0 = some xs := by
      unfold parseT at hpar
      split at hpar
      · cases hpar
      · rename_i l r e
        split at hpar
        · cases hpar
        · rename_i ys e2
          cases hpar
          exact ⟨l, r, e, e2⟩
    walk_at "st"
    walk_at "go"
    intro x dx hx hdx hne
    have ow1 := (Own.nil (Ex.refl H)).new (u := .own x) hdx
    have ow2 := (ow1.new (a := x) (u := .ins (cl 22) dx []) (by rw [upd_ne hne.symm]; exact hx)).sub (G := [(x, .ins (cl 22) dx [])]) (List.Sublist.cons_cons _ (List.nil_sublist _))
    refine ⟨x, dx, p, fs, H, rfl, ow2, hp, by omega, fun H1 h1 => ⟨rfl, ?_⟩⟩
    walk_at "go"
    refine w_while (fun m σ H' => ∃ (i n : Nat) (l : Lv) (r : List Lv) (y : Option V), σ = [some (.str (pl cs)), some (.ref p), some (.ref x), some (.int (i : Int)), y] ∧ RdAt (cl 22) (cl 21) H H' x fs i l r ∧ i ≤ cs.length ∧ cs.length - i ≤ n ∧ readT fs n l r i (cs.drop i) = .ok (l0, r0) ∧ m = cs.length - i) cs.length ⟨0, cs.length, _, _, none, rfl, h1, Nat.zero_le _, Nat.le_refl _, by rw [List.drop_zero]; exact hread, rfl⟩ ?_
    rintro m σ H2 ⟨i, n, l, r, y, rfl, h2, hi, hn, hrd, rfl⟩
    walk_at "go"
    refine w_br (fun hlt => ?_) (fun hlt => ?_)
    · have hlt : i < cs.length := by omega
      have hc : cs[i]? = some cs[i] := List.getElem?_eq_getElem hlt
      have hd : cs.drop i = cs[i] :: cs.drop (i + 1) := List.drop_eq_getElem_cons hlt
      generalize cs[i] = c at *
      obtain ⟨n, rfl⟩ : ∃ n', n = n' + 1 := ⟨n - 1, by omega⟩
      rw [hd, readT] at hrd
      refine ⟨fun σ' H' => ∃ (i2 n : Nat) (l : Lv) (r : List Lv) (y : Option V), σ' = [some (.str (pl cs)), some (.ref p), some (.ref x), some (.int (i2 : Int)), y] ∧ RdAt (cl 22) (cl 21) H H' x fs i2 l r ∧ i < i2 ∧ i2 ≤ cs.length ∧ cs.length - i2 ≤ n ∧ readT fs n l r i2 (cs.drop i2) = .ok (l0, r0), fun σ' H' ⟨i2, n, l, r, y, a1, a2, a3, a4, a5, a6⟩ => ⟨cs.length - i2, by omega, i2, n, l, r, y, a1, a2, a4, a5, a6, rfl⟩, ?_⟩
      walk_at "go"
      refine w_ixPl (p := cs) (by omega) hc ?_
      walk_at "go"
      by_cases hs : c = 32
      · rw [if_pos hs] at hrd
        have e : decide (V.str (pl [c]) = V.str " ") = true := by
          rw [hs]
          decide +kernel
        rw [e]
        walk_at "go"
        refine ⟨i + 1, n, l, r, y, by rw [show ((i : Int) + 1) = ((i + 1 : Nat) : Int) from rfl]; rfl, h2.more (Nat.le_succ _), Nat.lt_succ_self _, hlt, by omega, hrd⟩
      · rw [if_neg hs] at hrd
        have e : decide (V.str (pl [c]) = V.str " ") = false := by
          apply decide_eq_false
          intro z
          have z2 := V.str.inj z
          rw [show (" " : Str) = pl [32] by decide +kernel] at z2
          have := pl_inj z2
          simp at this
          exact hs this
        rw [e]
        cases ht : tokL (c :: cs.drop (i + 1)) with
        | inr k =>
          rw [ht] at hrd
          cases hrd
        | inl k =>
          rw [ht] at hrd
          simp only at hrd
          obtain ⟨k0, k1⟩ := tokL_le ht
          have hk : i + k ≤ cs.length := by
            rw [← hd, List.length_drop] at k1
            omega
          walk_at "go"
          refine ⟨cs, i, k, rfl, by omega, by rw [hd]; exact ht, ?_⟩
          walk_at "go"
          obtain ⟨dx2, _, _, _, _, _, _, _, _, _, hx2, -, -, -, -, -⟩ := h2.top
          refine ⟨x, dx2, _, rfl, hx2, rfl, ?_⟩
          walk_at "go"
          refine w_slS (by omega) ?_
          rw [cutS_mid cs i k hk, hd]
          walk_at "go"
          cases hst : stepT fs l r (⟨((c :: cs.drop (i + 1)).take k).toArray⟩) with
          | none =>
            rw [hst] at hrd
            cases hrd
          | some lr =>
            obtain ⟨l2, r2⟩ := lr
            rw [hst] at hrd
            simp only at hrd
            refine ⟨x, _, _, H, fs, i, l, l2, r, r2, rfl, h2, by omega, hst, fun H3 h3 => ?_⟩
            walk_at "go"
            refine ⟨i + k, n, l2, r2, _, rfl, h3.more (by omega), by omega, hk, by omega, ?_⟩
            rw [← hrd, ← hd, List.drop_drop]
    · have hie : i = cs.length := by omega
      subst hie
      rw [List.drop_length, readT_nil] at hrd
      cases hrd
      obtain ⟨dx2, _, _, _, _, _, _, _, _, _, hx2, -, -, -, -, -⟩ := h2.top
      walk_at "go"
      refine ⟨x, dx2, _, rfl, hx2, rfl, ?_⟩
      walk_at "go"
      refine ⟨x, _, H, fs, _, l0, r0, xs, rfl, h2, by omega, hfin, fun H3 pp e3 hp3 => ?_⟩
      walk_at "go"
      refine w_tupF (SqL.of hp3) fun p4 H4 e4 _ hS => ?_
      walk_at "go"
      have e4 := e3.trans e4
      exact ⟨p4, xs, rfl, hS.t, hfl, fun h => q h _ p4 e4 hS, fun h => xq h _ e4⟩
end
end Ly
set_option Elab.async false
set_option linter.all false
set_option maxRecDepth 100000
set_option maxHeartbeats 8000000
namespace Ly
open PySem PySem.Spec PyProof.Rows L2 Evl
local macro_rules | `(tactic| walk_at "ne") => `(tactic| first
  | assumption
  | ((refine' Ne.symm ?hq); (case hq => assumption))
  | ((refine' ne_of_none ?nh1 ?nh2); (case nh2 => assumption); (case nh1 => walk_at "hp"))
  | ((refine' Ne.symm (ne_of_none ?nh1 ?nh2)); (case nh2 => assumption); (case nh1 => walk_at "hp")))
local macro_rules | `(tactic| walk_at "hp") => `(tactic| first
  | assumption
  | exact upd_same
  | ((refine' SqL.of ?hq); (case hq => walk_at "hp"))
  | ((refine' SqT.of ?hq); (case hq => walk_at "hp"))
  | ((refine' (upd_ne ?hne).trans ?hrest); (case hne => walk_at "ne"); (case hrest => walk_at "hp"))
  | ((refine' ly_at ?hex ?hh); (case hex => assumption); (case hh => walk_at "hp"))
  | ((refine' ly_atF ?hex ?hnn ?hh); (case hex => assumption); (case hh => walk_at "hp"); (case hnn => walk_at "ne"))
  | ((refine' ex_t ?hex ?hh); (case hh => assumption); (case hex => walk_at "ex"))
  | ((refine' ex_l ?hex ?hh); (case hh => assumption); (case hex => walk_at "ex")))
local macro_rules | `(tactic| walk_at "ex") => `(tactic| first
  | assumption
  | exact Ex.refl _
  | ((refine' ex_new ?xa ?xb); (case xb => assumption); (case xa => walk_at "ex"))
  | ((refine' ex_upd ?xa ?xb); (case xb => walk_at "free"); (case xa => walk_at "ex"))
  | ((refine' Ex.trans ?xa ?xb); (case xb => assumption); (case xa => walk_at "ex")))
local macro_rules | `(tactic| walk_at "free") => `(tactic| first
  | assumption
  | ((refine' fresh_back ?xa ?xb); (case xb => assumption); (case xa => walk_at "ex")))
local macro_rules | `(tactic| walk_at "fr") => `(tactic| first
  | assumption
  | exact Fr.refl _ _
  | ((refine' Fr.own ?hq); (case hq => walk_at "fr"))
  | ((refine' Fr.new ?xa ?xb); (case xb => assumption); (case xa => walk_at "fr"))
  | ((refine' Fr.mut ?xa ?xb); (case xb => assumption); (case xa => walk_at "fr"))
  | ((refine' Fr.trans ?xa ?xb); (case xb => assumption); (case xa => walk_at "fr"))
  | ((refine' Fr.trans ?xa (Fr.ex ?xb)); (case xb => assumption); (case xa => walk_at "fr")))
local macro_rules | `(tactic| walk_at "go1") => `(tactic| first
  | (with_reducible refine' w_seq ?_)
  | (with_reducible refine' w_asg ?_)
  | (with_reducible refine' w_ret ?_)
  | (with_reducible refine' w_drop ?_)
  | (with_reducible refine' w_if ?_)
  | (with_reducible refine' w_next ?_)
  | (with_reducible refine' w_name ?_)
  | (with_reducible refine' w_sub ?_)
  | ((with_reducible refine' w_var ?hv ?_); (case hv => exact rfl))
  | (with_reducible refine' w_c ?_)
  | (with_reducible refine' w_op ?_)
  | (with_reducible refine' w_un ?_)
  | (with_reducible refine' w_ch ?_)
  | (with_reducible refine' w_I0 ?_)
  | ((with_reducible refine' w_I ?hc ?_); (case hc => first | (exact ly_mulL (by decide) (by decide)) | (exact ly_mulR (by decide) (by decide)) | (exact ly_mulL (by omega) (by omega)) | (show (_ : Int) ≠ 0; decide) | (show (_ : Int) ≠ 0; omega) | (exact ⟨by decide, by decide⟩) | (exact ⟨by omega, by omega⟩)))
  | (with_reducible refine' w_U ?_)
  | ((with_reducible refine' w_eq ?hs ?_); (case hs => exact rfl))
  | ((with_reducible refine' w_ne ?hs ?_); (case hs => exact rfl))
  | (with_reducible refine' w_isB ?_)
  | (with_reducible refine' w_notB ?_)
  | (with_reducible refine' w_nil ?_)
  | (with_reducible refine' w_cons ?_)
  | (with_reducible refine' w_tup ?_)
  | (with_reducible refine' w_lst ?_)
  | (with_reducible refine' w_cb ?_)
  | (with_reducible refine' w_call ?_)
  | (with_reducible refine' w_bm ?_)
  | (with_reducible refine' w_bm0 ?_)
  | ((with_reducible refine' w_app ?hh ?hz ?_); (case hh => walk_at "hp"); (case hz => first | exact ly_lt (by omega) | exact ly_lt (by simp only [List.length_append, List.length_map, List.length_cons, List.length_nil]; omega)))
  | ((with_reducible refine' w_popA ?hh ?_); (case hh => walk_at "hp"))
  | ((with_reducible refine' w_ext ?hh ?hh2 ?hz ?_); (case hh => walk_at "hp"); (case hh2 => walk_at "hp"))
  | ((with_reducible refine' w_ixL ?hh ?ha ?_); (case hh => walk_at "hp"); (case ha => first | exact rfl | exact at_map (by omega) | exact atI_last _ _ | ((refine' at_of ?ae ?ah); (case ah => assumption); (case ae => omega))))
  | ((with_reducible refine' w_ixT ?hh ?ha ?_); (case hh => walk_at "hp"); (case ha => first | exact rfl | exact at_map (by omega) | exact atI_last _ _ | ((refine' at_of ?ae ?ah); (case ah => assumption); (case ae => omega))))
  | ((with_reducible refine' w_cat ?hh ?hh2 ?hz ?_); (case hh => walk_at "hp"); (case hh2 => walk_at "hp"))
  | ((with_reducible refine' w_setL ?hh ?ha ?_); (case hh => walk_at "hp"); (case ha => exact rfl))
  | (with_reducible refine' w_test ?_)
  | (with_reducible refine' w_tB ?_)
  | (with_reducible refine' w_bl ?_)
  | (with_reducible refine' w_and ?_)
  | (with_reducible refine' w_or ?_)
  | (with_reducible refine' w_not ?_)
  | (with_reducible refine' w_andV ?_)
  | (with_reducible refine' w_orV ?_)
  | (with_reducible refine' w_notV ?_)
  | (with_reducible refine' w_ifE ?_)
  | (with_reducible refine' w_for ?_)
  | ((with_reducible refine' w_nin ?hh ?_); (case hh => walk_at "hp"))
  | ((with_reducible refine' w_sorted ?hh ?_); (case hh => walk_at "hp"))
  | (with_reducible refine' w_tsadd ?_)
  | ((with_reducible refine' w_tsadd1 ?hh ?_); (case hh => walk_at "hp"))
  | ((with_reducible refine' w_sadd ?hh ?hr ?_); (case hh => walk_at "hp"); (case hr => omega))
  | (with_reducible refine' w_iZ ?_)
  | ((with_reducible refine' w_iZ1 ?hh ?hh2 ?_); (case hh => walk_at "hp"); (case hh2 => walk_at "hp"))
  | (with_reducible refine' w_iS ?_)
  | (with_reducible refine' w_iS1 ?_)
  | ((with_reducible refine' w_gtup ?hh ?hn ?_); (case hh => walk_at "hp"); (case hn => exact rfl))
  | (with_reducible refine' w_gcons ?_)
  | (with_reducible refine' w_gnil ?_)
  | (with_reducible refine' w_js ?_)
  | (with_reducible refine' w_jsn ?_)
  | ((with_reducible refine' w_js1 ?hl ?_); (case hl => decide +kernel))
  | (with_reducible refine' w_fmt ?_)
  | ((with_reducible refine' w_fmt1 ?hl ?_); (case hl => decide +kernel))
  | (with_reducible refine' w_callS ?_)
  | ((with_reducible refine' w_truL ?hh ?_); (case hh => walk_at "hp"))
  | (with_reducible refine' w_lc ?_)
  | (with_reducible refine' w_yes ?_)
  | ((with_reducible refine' w_wipe ?he ?_); (case he => exact rfl))
  | (with_reducible refine' w_iL ?_)
  | (with_reducible refine' w_iT ?_)
  | (with_reducible refine' w_iR ?_)
  | ((with_reducible refine' w_iL1 ?hh ?_); (case hh => walk_at "hp"))
  | ((with_reducible refine' w_iT1 ?hh ?_); (case hh => walk_at "hp"))
  | ((with_reducible refine' w_iR1 ?h1 ?h2 ?_); (case h1 => omega); (case h2 => omega))
  | ((with_reducible refine' w_aug ?hv ?_); (case hv => exact rfl))
  | (with_reducible refine' w_ipI ?_)
  | ((with_reducible refine' w_isi ?hy ?hk ?_); (case hy => walk_at "ty"); (case hk => walk_at "kit"))
  | ((with_reducible refine' w_int ?_))
  | ((with_reducible refine' w_intB ?_))
  | ((with_reducible refine' w_abs ?_))
  | ((with_reducible refine' w_lenL ?hh ?_); (case hh => walk_at "hp"))
  | ((with_reducible refine' w_lenT ?hh ?_); (case hh => walk_at "hp"))
  | ((with_reducible refine' w_tupL ?hh ?_); (case hh => walk_at "hp"))
  | ((with_reducible refine' w_tupT ?hh ?_); (case hh => walk_at "hp"))
  | ((with_reducible refine' w_catA ?hh ?hh2 ?hz ?_); (case hh => walk_at "hp"); (case hh2 => walk_at "hp"); (case hz => walk_at "len"))
  | ((with_reducible refine' w_repB ?hh ?hne ?h2 ?h3 ?hz ?_); (case hh => walk_at "hp"); (case hne => simp); (case h2 => omega); (case h3 => omega); (case hz => exact Nat.le_of_ble_eq_true rfl))
  | ((with_reducible refine' w_eqN ?hh ?hh2 ?n1 ?n2 ?_); (case hh => walk_at "hp"); (case hh2 => walk_at "hp"); (case n1 => walk_at "nd"); (case n2 => walk_at "nd"))
  | ((with_reducible refine' w_neN ?hh ?hh2 ?n1 ?n2 ?_); (case hh => walk_at "hp"); (case hh2 => walk_at "hp"); (case n1 => walk_at "nd"); (case n2 => walk_at "nd"))
  | ((with_reducible refine' w_eqL ?hh ?hh2 ?n1 ?n2 ?_); (case hh => walk_at "hp"); (case hh2 => walk_at "hp"); (case n1 => walk_at "nd"); (case n2 => walk_at "nd"))
  | ((with_reducible refine' w_neL ?hh ?hh2 ?n1 ?n2 ?_); (case hh => walk_at "hp"); (case hh2 => walk_at "hp"); (case n1 => walk_at "nd"); (case n2 => walk_at "nd"))
  | ((with_reducible refine' w_neNon ?hh2 ?n2 ?_); (case hh2 => walk_at "hp"); (case n2 => walk_at "nd"))
  | ((with_reducible refine' w_eqNon ?hh2 ?n2 ?_); (case hh2 => walk_at "hp"); (case n2 => walk_at "nd"))
  | ((with_reducible refine' w_slA ?hh ?_); (case hh => walk_at "hp"))
  | ((with_reducible refine' w_disp ?hz ?_); (case hz => exact sz_of (Nat.le_of_ble_eq_true rfl)))
  | ((with_reducible refine' w_tyL ?hh ?_); (case hh => walk_at "hp"))
  | (with_reducible refine' iteT ?_)
  | (with_reducible refine' iteF ?_)
  | (with_reducible refine' w_nT ?_)
  | (with_reducible refine' w_nn ?_)
  | (with_reducible refine' w_nnT ?_)
  | (with_reducible refine' w_nnR ?_)
  | (with_reducible refine' w_neG ?_)
  | (with_reducible refine' w_eqG ?_)
  | (with_reducible refine' w_neS ?_)
  | (with_reducible refine' w_eqS ?_)
  | (with_reducible refine' w_neSb ?_)
  | (with_reducible refine' w_eqSb ?_)
  | (with_reducible refine' w_deIS ?_)
  | (with_reducible refine' w_deSI ?_)
  | (with_reducible refine' w_deISn ?_)
  | ((with_reducible refine' w_deST ?he ?_); (case he => decide +kernel))
  | ((with_reducible refine' w_deSF ?he ?_); (case he => decide +kernel))
  | ((with_reducible refine' w_deSTn ?he ?_); (case he => decide +kernel))
  | ((with_reducible refine' w_deSFn ?he ?_); (case he => decide +kernel))
  | (with_reducible refine' w_nF ?_)
  | dsimp only [Bool.not_true, Bool.not_false])
local macro_rules | `(tactic| walk_at "ty") => `(tactic| first
  | exact .base (.int _) | exact .base (.str _) | exact .base (.bl _) | exact .base .non
  | ((refine' tyx_t ?hq); (case hq => walk_at "hp")) | ((refine' tyx_l ?hq); (case hq => walk_at "hp")) | ((refine' .base (.tup ?hq)); (case hq => walk_at "hp")) | assumption)
local macro_rules | `(tactic| walk_at "go") => `(tactic| repeat walk_at "go1")
local macro_rules | `(tactic| walk_at "st") => `(tactic| try dsimp only [cxOf, Cx.nox, Cx.wish])
local macro_rules | `(tactic| walk_at "kit") => `(tactic| with_reducible first | exact kit_int_int | exact kit_int_str | exact kit_int_bool | exact kit_int_tuple | exact kit_int_list | exact kit_str_int | exact kit_str_str | exact kit_str_bool | exact kit_str_tuple | exact kit_str_list | exact kit_bool_int | exact kit_bool_str | exact kit_bool_bool | exact kit_bool_tuple | exact kit_bool_list | exact kit_NoneType_int | exact kit_NoneType_str | exact kit_NoneType_bool | exact kit_NoneType_tuple | exact kit_NoneType_list | exact kit_list_int | exact kit_list_str | exact kit_list_bool | exact kit_list_tuple | exact kit_list_list | exact kit_tuple_int | exact kit_tuple_str | exact kit_tuple_bool | exact kit_tuple_tuple | exact kit_tuple_list)
local macro_rules | `(tactic| walk_at "nd") => `(tactic| first
  | assumption
  | exact Tm.nds _
  | exact Nds.nil
  | exact Nds.ofInts _
  | ((refine' Nds.cons ?na ?nb); (case na => first | exact Nds.I _ | exact Nds.L | exact Nds.A); (case nb => walk_at "nd"))
  | ((refine' Nds.app ?na ?nb); (case na => walk_at "nd"); (case nb => walk_at "nd"))
  | ((refine' Nds.rep ?na _); (case na => walk_at "nd")))
local macro_rules | `(tactic| walk_at "len") => `(tactic| first
  | exact ly_sz (by omega)
  | ((simp only [List.length_append, List.length_cons, List.length_nil, List.length_map, PyProof.Rows.lm_len_rep_flat]); exact ly_sz (by omega)))
local macro_rules | `(tactic| walk_at "go1") => `(tactic| first
  | (with_reducible refine' w_kget2 ?_)
  | (with_reducible refine' w_isRN ?_)
  | (with_reducible refine' w_isNN ?_)
  | (with_reducible refine' w_isIN ?_)
  | ((with_reducible refine' w_kg ?hd ?_); (case hd => assumption)))
local macro_rules | `(tactic| walk_at "go1") => `(tactic| first
  | ((with_reducible refine' w_extT ?hh ?hh2 ?hz ?_); (case hh => walk_at "hp"); (case hh2 => walk_at "hp"))
  | ((with_reducible refine' w_I ?hc ?_); (case hc => exact ⟨by decide, by decide, by decide⟩))
  | (with_reducible refine' w_sl ?_)
  | (with_reducible refine' w_noP ?_)
  | (with_reducible refine' w_part ?_)
  | (with_reducible refine' w_part1 ?_)
  | (with_reducible refine' w_it ?_)
  | (with_reducible refine' w_it1 ?_)
  | ((with_reducible refine' w_lenZ ?hz ?_); (case hz => omega))
  | ((with_reducible refine' w_addZb ?hz ?_); (case hz => omega))
  | ((with_reducible refine' w_addZf ?hz ?_); (case hz => omega))
  | ((with_reducible refine' w_addZa ?hz ?_); (case hz => omega))
  | ((with_reducible refine' w_inS ?hh ?_); (case hh => walk_at "hp"))
  | ((with_reducible refine' w_ixT ?hh ?ha ?_); (case hh => assumption); (case ha => exact atI_nat (by assumption))))
local macro_rules | `(tactic| walk_at "go1") => `(tactic| first
  | (with_reducible refine' w_iR2 ?_)
  | ((with_reducible refine' w_iR21 ?h1 ?h2 ?h3 ?h4 ?_); (case h1 => omega); (case h2 => omega); (case h3 => omega); (case h4 => omega))
  | (with_reducible refine' w_nnI ?_)
  | (with_reducible refine' w_max ?_)
  | (with_reducible refine' w_break ?_)
  | (with_reducible refine' w_cont ?_))
local macro_rules | `(tactic| walk_at "go1") => `(tactic| first
  | (with_reducible refine' w_tdget ?_)
  | (with_reducible refine' w_tdin ?_)
  | (with_reducible refine' w_tdnotin ?_)
  | (with_reducible refine' w_sdput ?_)
  | (with_reducible refine' w_tdsetd ?_)
  | (with_reducible refine' w_dnew ?_))
local macro_rules | `(tactic| walk_at "go1") => `(tactic| first
  | (with_reducible refine' w_m1 ?_)
  | (with_reducible refine' w_m11 ?_)
  | (with_reducible refine' w_st2 ?_)
  | (with_reducible refine' w_sg ?_)
  | (with_reducible refine' w_sg2 ?_)
  | (with_reducible refine' w_sgSp ?_)
  | ((with_reducible refine' w_lcnt ?hh ?_); (case hh => walk_at "hp")))
section
variable {P : Program} {w : World} {K : PySem.W.Frag} {mg : Str → Option Value} {base : Heap} {tk : Nat → Tok} {cl : Nat → Addr}
def spIsName (PT : Addr) : Sp := fun vs H Q _ => ∃ (w : List Nat), vs = [.str (pl w)] ∧ w.length ≤ 1000000 ∧ GxR.TabG H PT ∧ ∀ H', Tb PT H H' → Q (.bl (nmB w)) H'
theorem ok_isname {f : Addr} {fd : FuncData} {cT PT : Addr} (F : Fun K "is_name" "is_name" s_is_name f fd) (T : Txt w K mg tk cl) (tb : GxR.TabB base mg cT PT) (hcd0 : fd.code = .ref cT) : FnOk P w K mg base CX0 2 f fd ["value"] (spIsName PT) := by
  refine okC F sc_is_name (fun vs H Q E h => ?_) (fun cdv A outer s H vs Q E e hr h => ?_)
  · obtain ⟨w, rfl, _⟩ := h
    rfl
  · obtain ⟨w, rfl, hl, ht, q⟩ := h
    have hcd : cdv = .ref cT := e.symm.trans hcd0
    refine ⟨_, (pss_cons (ps_if (PW.pt (pw_or (pt_not (pt_val (pe_callB call_isi (by rfl) T.n_isinstance (by decide +kernel) (pa_cons (pv 0) (pa_cons (pe_bltn (v := .ty "str") (by rfl) T.n_str (by decide +kernel) rfl) pa_nil))))) (pw_or1 (pt_not (pt_chain op_le op_le pe_int (pe_callB call_lenZ (by rfl) T.n_len (by decide +kernel) (pa_cons (pv 0) pa_nil)) (pe_glob (v := .int 10) rfl T.g_MOST_LENGTH ⟨_, rfl⟩)))))) (pss_one (ps_ret pe_bl)) pss_nil) (pss_cons (ps_if (pt_cmpR op_notIn_sign (pe_ix ix_str (pv 0) pe_int (fun _ _ => rfl)) (pe_glob (v := .str "abcdefghijklmnopqrstuvwxyz") (by rfl) T.g_LETTERS ⟨_, rfl⟩) rfl) (pss_one (ps_ret pe_bl)) pss_nil) (pss_one (ps_ret (pe_allM hr (by rfl) T.n_all (by decide +kernel) tb hcd (gen_s (by rfl) (by rfl) (by decide) (by rfl) (by rfl) (by decide)) (pe_slice sl_str (pv 0) (po_some pe_int) po_none) (eltM_in (by rfl) (by rfl) (by rfl) T.g_DIGITS) (fun _ => rfl)))))), ?_⟩
    refine sl_of (σ2 := [some _, none]) rfl ?_
    walk_at "st"
    walk_at "go"
    cases w with
    | nil =>
      refine w_br (fun c1 => absurd c1 (by decide)) (fun _ => ?_)
      walk_at "go"
      exact q H (Tb.refl ht)
    | cons c ds =>
      refine w_br (fun _ => ?_) (fun c1 => ?_)
      rotate_left
      · exact absurd (by simp; omega) c1
      walk_at "go"
      have lz : (c :: ds).length = ds.length + 1 := rfl
      by_cases c1 : ((c :: ds).length : Int) ≤ 10
      · rw [decide_eq_true c1]
        walk_at "go"
        refine w_ixSt hl (atI_nat (xs := c :: ds) (j := 0) (v := c) rfl) ?_
        walk_at "go"
        cases hlow : isLow c with
        | false =>
          walk_at "go"
          rw [let_in, hlow]
          walk_at "go"
          have e : nmB (c :: ds) = false := by
            show (isLow c && _ && _) = false
            rw [hlow]; rfl
          rw [← e]
          exact q H (Tb.refl ht)
        | true =>
          walk_at "go"
          rw [let_in, hlow]
          walk_at "go"
          refine w_allS ?_
          walk_at "go"
          refine w_slHi (i := 1) hl ?_
          walk_at "go"
          refine ⟨ht, fun H2 t2 => ?_⟩
          have e : nmB (c :: ds) = ((pl (List.drop 1 (c :: ds))).cps.toList.all fun c => decide (c ∈ ("0123456789" : Str).cps.toList)) := by
            show (isLow c && ds.all isDig && decide (ds.length ≤ 9)) = ds.all _
            rw [hlow, decide_eq_true (by omega), Bool.and_true, Bool.true_and, funext dig_in]
          rw [← e]
          exact q H2 (Tb.of t2)
      · rw [decide_eq_false c1]
        walk_at "go"
        have e : nmB (c :: ds) = false := by
          show (_ && _ && decide (ds.length ≤ 9)) = false
          rw [decide_eq_false (by omega), Bool.and_false]
        rw [← e]
        exact q H (Tb.refl ht)
/-- the free names serve -/
def NmOk (fs : List (List Nat)) : Prop := Nms fs ∧ fs.Nodup
def InT (kvs : List (L2.Key × V)) (fs : List (List Nat)) : Prop := kvs.length ≤ fs.length ∧ ∀ n, (valV kvs (.inr (pl n))).isSome = decide (n ∈ fs)
def spTable (PT : Addr) (C : Addr) : Sp := fun vs H Q E => ∃ (b : Addr) (fs : List (List Nat)), vs = [.ref b] ∧ H b = some (.lst (plcs fs)) ∧ fs.length ≤ 1000 ∧ (∀ w ∈ fs, w.length ≤ 1000000) ∧ GxR.TabG H PT ∧
  (NmOk fs → ∀ H' p kvs, Tb PT H H' → H p = none → H' p = some (.dK kvs) → InT kvs fs → Q (.ref p) H') ∧ (¬ NmOk fs → ∀ H', Tb PT H H' → E (.ref C) none H')
theorem InT.nil : InT [] [] := ⟨Nat.le_refl _, fun n => rfl⟩
theorem InT.put {kvs : List (L2.Key × V)} {fs : List (List Nat)} (h : InT kvs fs) {w : List Nat} (v : V) : InT (putK kvs (.inr (pl w)) v) (fs ++ [w]) := by
  refine ⟨?_, fun n => ?_⟩
  · have := length_putK kvs (.inr (pl w)) v
    have := h.1
    rw [List.length_append, List.length_singleton]
    omega
  · rw [valV_put]
    by_cases e : n = w
    · subst e
      rw [if_pos rfl]
      simp
    · rw [if_neg (fun z => e (pl_inj (Sum.inr.inj z))), h.2 n]
      simp [e]
theorem tk_succ {α : Type} {fs : List α} {i : Nat} {w : α} (h : fs[i]? = some w) : fs.take (i + 1) = fs.take i ++ [w] := by
  rw [List.take_add_one, h]
  rfl
theorem ok_nmtable {f : Addr} {fd : FuncData} {PT : Addr} (F : Fun K "name_table" "name_table" s_name_table f fd) (T : Txt w K mg tk cl) (D1 : Def P w K mg base CX0 2 "is_name" ["value"] (spIsName PT)) :
    FnOk P w K mg base (L2.CX P w) 3 f fd ["names"] (spTable PT (cl 5)) := by
  obtain ⟨f1, fd1, g_is_name, kp_is_name, b_is_name, G_is_name⟩ := D1
  refine F.okX sc_name_table (fun vs H Q E h => ?_) (fun cdv A outer s H vs Q E hr h => ?_)
  · obtain ⟨b, fs, rfl, _⟩ := h
    rfl
  · obtain ⟨b, fs, rfl, hb, hl, hwl, ht, q, x⟩ := h
    refine ⟨_, (pss_cons (ps_set (i := 1) sc_name_table.nd rfl (.inl rfl) pe_dnewK) (pss_cons (ps_for (passes_of rfl) rfl (pi_list (pv 0)) (pg_name (i := 2) sc_name_table.nd rfl (.inl rfl)) (pss_cons (ps_if (pt_not (pt_val (pe_call G_is_name (hr.mono (by first | decide | omega)) (by rfl) g_is_name kp_is_name b_is_name .nil pass0 (pa_cons (pv 2) pa_nil)))) (pss_one (ps_raise rfl (takes_of rfl rfl rfl rfl) (SkE.pmk_own1 PySem.F.excBase_ValueError T.x_BadNames T.g_BadNames T.k_BadNames (raises_own T.b_BadNames T.t_BadNames) rfl pe_str))) pss_nil) (pss_cons (ps_if (pt_cmp (pc_din (by exact Nat.lt_of_le_of_lt (Nat.add_le_add_left (by decide) _) hr.units) (pv 2) (pv 1))) (pss_one (ps_raise rfl (takes_of rfl rfl rfl rfl) (SkE.pmk_own1 PySem.F.excBase_ValueError T.x_BadNames T.g_BadNames T.k_BadNames (raises_own T.b_BadNames T.t_BadNames) rfl pe_str))) pss_nil) (pss_one (ps_dput (by exact Nat.lt_of_le_of_lt (Nat.add_le_add_left (by decide) _) hr.units) (pv 1) (pv 2) pe_bl (by rfl)))))) (pss_one (ps_ret (pv 1))))), ?_⟩
    refine sl_of (σ2 := [some _, none, none]) rfl ?_
    walk_at "st"
    walk_at "go"
    intro p0 hp0
    have t0 := Tb.mut ht (Tb.refl ht) hp0 (o := .dK [])
    have h0 : upd H p0 (.dK []) p0 = some (.dK []) := upd_same
    have nb : b ≠ p0 := ne_of_none hb hp0
    have hb0 : upd H p0 (.dK []) b = some (.lst (plcs fs)) := by rw [upd_ne nb]; exact hb
    generalize upd H p0 (.dK []) = H1 at *
    walk_at "go"
    refine for_list (K := K) (a := b) (xs := plcs fs) (fun i σ H' => ∃ kvs y, σ = [some (.ref b), some (.ref p0), y] ∧ Tb PT H H' ∧ H' b = some (.lst (plcs fs)) ∧ H' p0 = some (.dK kvs) ∧ InT kvs (fs.take i) ∧ Nms (fs.take i) ∧ (fs.take i).Nodup)
      ⟨[], none, rfl, t0, hb0, h0, InT.nil, (fun w hw => by simp at hw), by simp⟩ (fun i σ H' _ ⟨_, _, _, _, h, _⟩ => SqL.of h) ?_ ?_
    · rintro i z σ H3 hi ⟨kvs, y, rfl, t3, hb3, h3, hin, hnm, hnd⟩
      rw [List.getElem?_map] at hi
      obtain ⟨w, hw, rfl⟩ := Option.map_eq_some_iff.mp hi
      have hwm := List.mem_of_getElem? hw
      have il := (List.getElem?_eq_some_iff.mp hw).1
      walk_at "go"
      refine ⟨w, rfl, hwl w hwm, t3.1, fun H4 t4 => ?_⟩
      have hb4 := t4.lst t3.1 hb3
      have h4 := t4.dk t3.1 h3
      have t04 := t3.trans t4
      walk_at "go"
      cases hn : nmB w with
      | false =>
        walk_at "go"
        refine x (fun z => ?_) H4 t04
        rw [z.1 w hwm] at hn
        cases hn
      | true =>
        walk_at "go"
        refine w_dinS h4 ?_
        rw [hin.2 w]
        by_cases hm : w ∈ fs.take i
        · rw [decide_eq_true hm]
          walk_at "go"
          refine x (fun z => ?_) H4 t04
          have nd := z.2
          rw [← List.take_append_drop (i + 1) fs, tk_succ hw] at nd
          have := (List.nodup_append.mp (List.nodup_append.mp nd).1).2.2 w hm w (by simp)
          exact this rfl
        · rw [decide_eq_false hm]
          walk_at "go"
          refine w_dputS h4 (ly_lt (by have := hin.1; simp at this; omega)) ?_
          walk_at "go"
          have e1 := tk_succ hw
          refine ⟨_, _, rfl, Tb.mut ht t04 hp0, by rw [upd_ne nb]; exact hb4, upd_same, by rw [e1]; exact hin.put _, ?_, ?_⟩
          · rw [e1]
            intro v hv
            rcases List.mem_append.mp hv with hv | hv
            · exact hnm v hv
            · rw [List.mem_singleton.mp hv]; exact hn
          · rw [e1]
            refine List.nodup_append.mpr ⟨hnd, by simp, fun a ha c hc e => hm ?_⟩
            rw [List.mem_singleton.mp hc] at e
            rw [← e]
            exact ha
    · rintro σ H3 ⟨kvs, y, rfl, t3, hb3, h3, hin, hnm, hnd⟩
      rw [show (plcs fs).length = fs.length from List.length_map _, List.take_length] at hin hnm hnd
      walk_at "go"
      exact q ⟨hnm, hnd⟩ H3 p0 kvs t3 hp0 h3 hin
def spNumbered : Sp := fun vs H Q _ => ∃ n : Nat, vs = [.int (n : Int)] ∧ n < 2600 ∧ Q (.str (pl (nmN n))) H
theorem ok_numbered {f : Addr} {fd : FuncData} {k : Nat} (F : Fun K "numbered_name" "numbered_name" s_numbered_name f fd) (T : Txt w K mg tk cl) : FnOk P w K mg base CX0 (k + 1) f fd ["number"] spNumbered := by
  refine F.ok sc_numbered_name (fun vs H Q E h => ?_) (fun cdv A outer s H vs Q E hr h => ?_)
  · obtain ⟨n, rfl, _⟩ := h
    rfl
  · obtain ⟨n, rfl, hn, q⟩ := h
    refine ⟨_, (pss_cons (ps_set (i := 1) sc_numbered_name.nd rfl (.inl rfl) (pe_ix ix_str (pe_glob (v := .str "abcdefghijklmnopqrstuvwxyz") (by rfl) T.g_LETTERS ⟨_, rfl⟩) (pe_op op_modN (pv 0) (pe_callB call_lenZ (by rfl) T.n_len (by decide +kernel) (pa_cons (pe_glob (v := .str "abcdefghijklmnopqrstuvwxyz") (by rfl) T.g_LETTERS ⟨_, rfl⟩) pa_nil))) (fun _ _ => rfl))) (pss_cons (ps_set (i := 2) sc_numbered_name.nd rfl (.inl rfl) (pe_op op_fdivN (pv 0) (pe_callB call_lenZ (by rfl) T.n_len (by decide +kernel) (pa_cons (pe_glob (v := .str "abcdefghijklmnopqrstuvwxyz") (by rfl) T.g_LETTERS ⟨_, rfl⟩) pa_nil)))) (pss_cons (ps_if (pt_cmpR op_eq (pv 2) pe_int (nomark _)) (pss_one (ps_ret (pv 1))) pss_nil) (pss_one (ps_ret (pe_joined (.cons (pe_fmt (pv 1)) (.cons (pe_fmt (pv 2)) .nil)))))))), ?_⟩
    refine sl_of (σ2 := [some _, none, none]) rfl ?_
    walk_at "st"
    walk_at "go"
    rw [pl_abc]
    walk_at "go"
    refine w_lenZ (by simp) ?_
    rw [show (List.range' 97 26).length = 26 from rfl]
    refine w_I (by decide) ?_
    rw [fmod26]
    refine w_ixSt (by simp) (atI_nat (get_abc (Nat.mod_lt _ (by decide)))) ?_
    walk_at "go"
    refine w_lenZ (by simp) ?_
    rw [show (List.range' 97 26).length = 26 from rfl]
    refine w_I (by first | decide | exact ⟨by decide, by omega⟩ | (unfold CDivN; omega)) ?_
    rw [fdiv26]
    walk_at "go"
    refine w_brI (fun c0 => ?_) (fun c0 => ?_)
    · walk_at "go"
      have e : nmN n = [97 + n % 26] := if_pos (by omega)
      rw [← e]
      exact q
    · have hd := digz_str (n / 26) (by omega)
      have hdo := digz_ok (d := n / 26) (by omega)
      walk_at "go"
      refine w_fmtS (by simp) ?_
      refine w_js0 (by simp) ?_
      walk_at "go"
      refine .inr ⟨_, rfl, hd.2, ?_⟩
      rw [show ((toString ((n / 26 : Nat) : Int) : String) : Str) = Str.ofString (toString ((n / 26 : Nat) : Int)) from rfl, hd.1, pl_em]
      refine w_js2 (by simp; omega) ?_
      walk_at "go"
      rw [pl_app]
      have e : nmN n = [97 + n % 26] ++ digz (n / 26) := if_neg (fun z => c0 (by rw [z]; rfl))
      rw [← e]
      exact q
def spBound : Sp := fun vs H Q _ => ∃ (n : Nat) (a : Addr) (kvs : List (L2.Key × V)) (fs : List (List Nat)), vs = [.int (n : Int), .ref a] ∧ H a = some (.dK kvs) ∧ InT kvs fs ∧ n + fs.length < 2600 ∧
  ∀ H' p bs m, Ex H H' → H p = none → H' p = some (.lst (plcs bs)) → bs = own fs m → bs.length = n → m ≤ n + fs.length → Q (.ref p) H'
theorem ok_bound {f : Addr} {fd : FuncData} (F : Fun K "bound_names" "bound_names" s_bound_names f fd) (T : Txt w K mg tk cl) (D1 : Def P w K mg base CX0 1 "numbered_name" ["number"] spNumbered) : FnOk P w K mg base CX0 2 f fd ["count", "taken"] spBound := by
  obtain ⟨f1, fd1, g_numbered_name, kp_numbered_name, b_numbered_name, G_numbered_name⟩ := D1
  refine F.ok sc_bound_names (fun vs H Q E h => ?_) (fun cdv A outer s H vs Q E hr h => ?_)
  · obtain ⟨n, a, kvs, fs, rfl, _⟩ := h
    rfl
  · obtain ⟨n, a, kvs, fs, rfl, ha, hin, hn, q⟩ := h
    refine ⟨_, (pss_cons (ps_set (i := 2) sc_bound_names.nd rfl (.inl rfl) (pe_lst pa_nil)) (pss_cons (ps_set (i := 3) sc_bound_names.nd rfl (.inl rfl) pe_int) (pss_cons (ps_while PassesOwn.never (pt_cmpR op_lt (pe_callB call_len_seq (by rfl) T.n_len (by decide +kernel) (pa_cons (pv 2) pa_nil)) (pv 0) (nomark _)) (pss_cons (ps_set (i := 4) sc_bound_names.nd rfl (.inl rfl) (pe_call G_numbered_name (hr.mono (by first | decide | omega)) (by rfl) g_numbered_name kp_numbered_name b_numbered_name .nil pass0 (pa_cons (pv 3) pa_nil))) (pss_cons (ps_if (pt_cmp (pc_dnotin (by exact Nat.lt_of_le_of_lt (Nat.add_le_add_left (by decide) _) hr.units) (pv 4) (pv 1))) (pss_one (ps_expr (pe_bm PySem.F.plainAttrs_list PySem.F.slot_list_append PySem.F.type_list_append mt_append (pv 2) (pa_cons (pv 4) pa_nil)))) pss_nil) (pss_one (ps_aug (i := 3) sc_bound_names.nd rfl (.inl rfl) pe_int ip_add))))) (pss_one (ps_ret (pv 2)))))), ?_⟩
    refine sl_of (σ2 := [some _, some _, none, none, none]) rfl ?_
    walk_at "st"
    walk_at "go"
    intro p0 hp0
    have e0 := Ex.new hp0 (o := .lst (plcs []))
    have h0 : upd H p0 (.lst (plcs [])) p0 = some (.lst (plcs [])) := upd_same
    rw [show (HO.lst ([] : List V)) = .lst (plcs []) from rfl]
    have ha0 := e0 _ _ ha
    have na : a ≠ p0 := ne_of_none ha hp0
    generalize upd H p0 (.lst (plcs [])) = H1 at *
    walk_at "go"
    refine w_while (fun m σ H' => ∃ (i : Nat) (y : Option V), m + i = n + fs.length + 1 ∧ σ = [some (.int (n : Int)), some (.ref a), some (.ref p0), some (.int (i : Int)), y] ∧ Ex H H' ∧ H' a = some (.dK kvs) ∧ H' p0 = some (.lst (plcs (own fs i))) ∧ (own fs i).length ≤ n) (n + fs.length + 1)
      ⟨0, none, rfl, rfl, e0, ha0, h0, Nat.zero_le _⟩ ?_
    rintro m σ H2 ⟨i, y, hm, rfl, e2, ha2, h2, hl2⟩
    walk_at "go"
    rw [show (plcs (own fs i)).length = (own fs i).length from List.length_map _]
    have hlen := own_len (fs := fs) (n := i) (by omega)
    refine w_br (fun c1 => ?_) (fun c1 => ?_)
    · refine ⟨fun σ' H' => ∃ y, σ' = [some (.int (n : Int)), some (.ref a), some (.ref p0), some (.int ((i + 1 : Nat) : Int)), y] ∧ Ex H H' ∧ H' a = some (.dK kvs) ∧ H' p0 = some (.lst (plcs (own fs (i + 1)))) ∧ (own fs (i + 1)).length ≤ n, ?_, ?_⟩
      · rintro σ' H' ⟨y', r1, r2, r3, r4, r5⟩
        exact ⟨n + fs.length + 1 - (i + 1), by omega, i + 1, y', by omega, r1, r2, r3, r4, r5⟩
      · walk_at "go"
        refine ⟨i, rfl, by omega, ?_⟩
        walk_at "go"
        refine w_dnotinS ha2 ?_
        rw [hin.2]
        by_cases hmm : nmN i ∈ fs
        · rw [decide_eq_true hmm]
          walk_at "go"
          exact ⟨_, rfl, e2, ha2, by rw [own_yes hmm]; exact h2, by rw [own_yes hmm]; exact hl2⟩
        · rw [decide_eq_false hmm]
          walk_at "go"
          have e1 : own fs (i + 1) = own fs i ++ [nmN i] := own_no hmm
          have c1' : (own fs i).length < n := by omega
          refine ⟨_, rfl, e2.mut hp0, by rw [upd_ne na]; exact ha2, by rw [upd_same, e1]; simp [plcs], ?_⟩
          rw [e1, List.length_append, List.length_singleton]
          omega
    · walk_at "go"
      have := own_le fs i
      exact q H2 p0 (own fs i) i e2 hp0 h2 rfl (by omega) (by omega)
end
end Ly
set_option Elab.async false
set_option linter.all false
set_option maxRecDepth 100000
set_option maxHeartbeats 8000000
namespace Ly
open PySem PySem.Spec PyProof.Rows L2 Evl
local macro_rules | `(tactic| walk_at "ne") => `(tactic| first
  | assumption
  | ((refine' Ne.symm ?hq); (case hq => assumption))
  | ((refine' ne_of_none ?nh1 ?nh2); (case nh2 => assumption); (case nh1 => walk_at "hp"))
  | ((refine' Ne.symm (ne_of_none ?nh1 ?nh2)); (case nh2 => assumption); (case nh1 => walk_at "hp")))
local macro_rules | `(tactic| walk_at "hp") => `(tactic| first
  | assumption
  | exact upd_same
  | ((refine' SqL.of ?hq); (case hq => walk_at "hp"))
  | ((refine' SqT.of ?hq); (case hq => walk_at "hp"))
  | ((refine' (upd_ne ?hne).trans ?hrest); (case hne => walk_at "ne"); (case hrest => walk_at "hp"))
  | ((refine' ly_at ?hex ?hh); (case hex => assumption); (case hh => walk_at "hp"))
  | ((refine' ly_atF ?hex ?hnn ?hh); (case hex => assumption); (case hh => walk_at "hp"); (case hnn => walk_at "ne"))
  | ((refine' ex_t ?hex ?hh); (case hh => assumption); (case hex => walk_at "ex"))
  | ((refine' ex_l ?hex ?hh); (case hh => assumption); (case hex => walk_at "ex")))
local macro_rules | `(tactic| walk_at "ex") => `(tactic| first
  | assumption
  | exact Ex.refl _
  | ((refine' ex_new ?xa ?xb); (case xb => assumption); (case xa => walk_at "ex"))
  | ((refine' ex_upd ?xa ?xb); (case xb => walk_at "free"); (case xa => walk_at "ex"))
  | ((refine' Ex.trans ?xa ?xb); (case xb => assumption); (case xa => walk_at "ex")))
local macro_rules | `(tactic| walk_at "free") => `(tactic| first
  | assumption
  | ((refine' fresh_back ?xa ?xb); (case xb => assumption); (case xa => walk_at "ex")))
local macro_rules | `(tactic| walk_at "fr") => `(tactic| first
  | assumption
  | exact Fr.refl _ _
  | ((refine' Fr.own ?hq); (case hq => walk_at "fr"))
  | ((refine' Fr.new ?xa ?xb); (case xb => assumption); (case xa => walk_at "fr"))
  | ((refine' Fr.mut ?xa ?xb); (case xb => assumption); (case xa => walk_at "fr"))
  | ((refine' Fr.trans ?xa ?xb); (case xb => assumption); (case xa => walk_at "fr"))
  | ((refine' Fr.trans ?xa (Fr.ex ?xb)); (case xb => assumption); (case xa => walk_at "fr")))
local macro_rules | `(tactic| walk_at "go1") => `(tactic| first
  | (with_reducible refine' w_seq ?_)
  | (with_reducible refine' w_asg ?_)
  | (with_reducible refine' w_ret ?_)
  | (with_reducible refine' w_drop ?_)
  | (with_reducible refine' w_if ?_)
  | (with_reducible refine' w_next ?_)
  | (with_reducible refine' w_name ?_)
  | (with_reducible refine' w_sub ?_)
  | ((with_reducible refine' w_var ?hv ?_); (case hv => exact rfl))
  | (with_reducible refine' w_c ?_)
  | (with_reducible refine' w_op ?_)
  | (with_reducible refine' w_un ?_)
  | (with_reducible refine' w_ch ?_)
  | (with_reducible refine' w_I0 ?_)
  | ((with_reducible refine' w_I ?hc ?_); (case hc => first | (exact ly_mulL (by decide) (by decide)) | (exact ly_mulR (by decide) (by decide)) | (exact ly_mulL (by omega) (by omega)) | (show (_ : Int) ≠ 0; decide) | (show (_ : Int) ≠ 0; omega) | (exact ⟨by decide, by decide⟩) | (exact ⟨by omega, by omega⟩)))
  | (with_reducible refine' w_U ?_)
  | ((with_reducible refine' w_eq ?hs ?_); (case hs => exact rfl))
  | ((with_reducible refine' w_ne ?hs ?_); (case hs => exact rfl))
  | (with_reducible refine' w_isB ?_)
  | (with_reducible refine' w_notB ?_)
  | (with_reducible refine' w_nil ?_)
  | (with_reducible refine' w_cons ?_)
  | (with_reducible refine' w_tup ?_)
  | (with_reducible refine' w_lst ?_)
  | (with_reducible refine' w_cb ?_)
  | (with_reducible refine' w_call ?_)
  | (with_reducible refine' w_bm ?_)
  | (with_reducible refine' w_bm0 ?_)
  | ((with_reducible refine' w_app ?hh ?hz ?_); (case hh => walk_at "hp"); (case hz => first | exact ly_lt (by omega) | exact ly_lt (by simp only [List.length_append, List.length_map, List.length_cons, List.length_nil]; omega)))
  | ((with_reducible refine' w_popA ?hh ?_); (case hh => walk_at "hp"))
  | ((with_reducible refine' w_ext ?hh ?hh2 ?hz ?_); (case hh => walk_at "hp"); (case hh2 => walk_at "hp"))
  | ((with_reducible refine' w_ixL ?hh ?ha ?_); (case hh => walk_at "hp"); (case ha => first | exact rfl | exact at_map (by omega) | exact atI_last _ _ | ((refine' at_of ?ae ?ah); (case ah => assumption); (case ae => omega))))
  | ((with_reducible refine' w_ixT ?hh ?ha ?_); (case hh => walk_at "hp"); (case ha => first | exact rfl | exact at_map (by omega) | exact atI_last _ _ | ((refine' at_of ?ae ?ah); (case ah => assumption); (case ae => omega))))
  | ((with_reducible refine' w_cat ?hh ?hh2 ?hz ?_); (case hh => walk_at "hp"); (case hh2 => walk_at "hp"))
  | ((with_reducible refine' w_setL ?hh ?ha ?_); (case hh => walk_at "hp"); (case ha => exact rfl))
  | (with_reducible refine' w_test ?_)
  | (with_reducible refine' w_tB ?_)
  | (with_reducible refine' w_bl ?_)
  | (with_reducible refine' w_and ?_)
  | (with_reducible refine' w_or ?_)
  | (with_reducible refine' w_not ?_)
  | (with_reducible refine' w_andV ?_)
  | (with_reducible refine' w_orV ?_)
  | (with_reducible refine' w_notV ?_)
  | (with_reducible refine' w_ifE ?_)
  | (with_reducible refine' w_for ?_)
  | ((with_reducible refine' w_nin ?hh ?_); (case hh => walk_at "hp"))
  | ((with_reducible refine' w_sorted ?hh ?_); (case hh => walk_at "hp"))
  | (with_reducible refine' w_tsadd ?_)
  | ((with_reducible refine' w_tsadd1 ?hh ?_); (case hh => walk_at "hp"))
  | ((with_reducible refine' w_sadd ?hh ?hr ?_); (case hh => walk_at "hp"); (case hr => omega))
  | (with_reducible refine' w_iZ ?_)
  | ((with_reducible refine' w_iZ1 ?hh ?hh2 ?_); (case hh => walk_at "hp"); (case hh2 => walk_at "hp"))
  | (with_reducible refine' w_iS ?_)
  | (with_reducible refine' w_iS1 ?_)
  | ((with_reducible refine' w_gtup ?hh ?hn ?_); (case hh => walk_at "hp"); (case hn => exact rfl))
  | (with_reducible refine' w_gcons ?_)
  | (with_reducible refine' w_gnil ?_)
  | (with_reducible refine' w_js ?_)
  | (with_reducible refine' w_jsn ?_)
  | ((with_reducible refine' w_js1 ?hl ?_); (case hl => decide +kernel))
  | (with_reducible refine' w_fmt ?_)
  | ((with_reducible refine' w_fmt1 ?hl ?_); (case hl => decide +kernel))
  | (with_reducible refine' w_callS ?_)
  | ((with_reducible refine' w_truL ?hh ?_); (case hh => walk_at "hp"))
  | (with_reducible refine' w_lc ?_)
  | (with_reducible refine' w_yes ?_)
  | ((with_reducible refine' w_wipe ?he ?_); (case he => exact rfl))
  | (with_reducible refine' w_iL ?_)
  | (with_reducible refine' w_iT ?_)
  | (with_reducible refine' w_iR ?_)
  | ((with_reducible refine' w_iL1 ?hh ?_); (case hh => walk_at "hp"))
  | ((with_reducible refine' w_iT1 ?hh ?_); (case hh => walk_at "hp"))
  | ((with_reducible refine' w_iR1 ?h1 ?h2 ?_); (case h1 => omega); (case h2 => omega))
  | ((with_reducible refine' w_aug ?hv ?_); (case hv => exact rfl))
  | (with_reducible refine' w_ipI ?_)
  | ((with_reducible refine' w_isi ?hy ?hk ?_); (case hy => walk_at "ty"); (case hk => walk_at "kit"))
  | ((with_reducible refine' w_int ?_))
  | ((with_reducible refine' w_intB ?_))
  | ((with_reducible refine' w_abs ?_))
  | ((with_reducible refine' w_lenL ?hh ?_); (case hh => walk_at "hp"))
  | ((with_reducible refine' w_lenT ?hh ?_); (case hh => walk_at "hp"))
  | ((with_reducible refine' w_tupL ?hh ?_); (case hh => walk_at "hp"))
  | ((with_reducible refine' w_tupT ?hh ?_); (case hh => walk_at "hp"))
  | ((with_reducible refine' w_catA ?hh ?hh2 ?hz ?_); (case hh => walk_at "hp"); (case hh2 => walk_at "hp"); (case hz => walk_at "len"))
  | ((with_reducible refine' w_repB ?hh ?hne ?h2 ?h3 ?hz ?_); (case hh => walk_at "hp"); (case hne => simp); (case h2 => omega); (case h3 => omega); (case hz => exact Nat.le_of_ble_eq_true rfl))
  | ((with_reducible refine' w_eqN ?hh ?hh2 ?n1 ?n2 ?_); (case hh => walk_at "hp"); (case hh2 => walk_at "hp"); (case n1 => walk_at "nd"); (case n2 => walk_at "nd"))
  | ((with_reducible refine' w_neN ?hh ?hh2 ?n1 ?n2 ?_); (case hh => walk_at "hp"); (case hh2 => walk_at "hp"); (case n1 => walk_at "nd"); (case n2 => walk_at "nd"))
  | ((with_reducible refine' w_eqL ?hh ?hh2 ?n1 ?n2 ?_); (case hh => walk_at "hp"); (case hh2 => walk_at "hp"); (case n1 => walk_at "nd"); (case n2 => walk_at "nd"))
  | ((with_reducible refine' w_neL ?hh ?hh2 ?n1 ?n2 ?_); (case hh => walk_at "hp"); (case hh2 => walk_at "hp"); (case n1 => walk_at "nd"); (case n2 => walk_at "nd"))
  | ((with_reducible refine' w_neNon ?hh2 ?n2 ?_); (case hh2 => walk_at "hp"); (case n2 => walk_at "nd"))
  | ((with_reducible refine' w_eqNon ?hh2 ?n2 ?_); (case hh2 => walk_at "hp"); (case n2 => walk_at "nd"))
  | ((with_reducible refine' w_slA ?hh ?_); (case hh => walk_at "hp"))
  | ((with_reducible refine' w_disp ?hz ?_); (case hz => exact sz_of (Nat.le_of_ble_eq_true rfl)))
  | ((with_reducible refine' w_tyL ?hh ?_); (case hh => walk_at "hp"))
  | (with_reducible refine' iteT ?_)
  | (with_reducible refine' iteF ?_)
  | (with_reducible refine' w_nT ?_)
  | (with_reducible refine' w_nn ?_)
  | (with_reducible refine' w_nnT ?_)
  | (with_reducible refine' w_nnR ?_)
  | (with_reducible refine' w_neG ?_)
  | (with_reducible refine' w_eqG ?_)
  | (with_reducible refine' w_neS ?_)
  | (with_reducible refine' w_eqS ?_)
  | (with_reducible refine' w_neSb ?_)
  | (with_reducible refine' w_eqSb ?_)
  | (with_reducible refine' w_deIS ?_)
  | (with_reducible refine' w_deSI ?_)
  | (with_reducible refine' w_deISn ?_)
  | ((with_reducible refine' w_deST ?he ?_); (case he => decide +kernel))
  | ((with_reducible refine' w_deSF ?he ?_); (case he => decide +kernel))
  | ((with_reducible refine' w_deSTn ?he ?_); (case he => decide +kernel))
  | ((with_reducible refine' w_deSFn ?he ?_); (case he => decide +kernel))
  | (with_reducible refine' w_nF ?_)
  | dsimp only [Bool.not_true, Bool.not_false])
local macro_rules | `(tactic| walk_at "ty") => `(tactic| first
  | exact .base (.int _) | exact .base (.str _) | exact .base (.bl _) | exact .base .non
  | ((refine' tyx_t ?hq); (case hq => walk_at "hp")) | ((refine' tyx_l ?hq); (case hq => walk_at "hp")) | ((refine' .base (.tup ?hq)); (case hq => walk_at "hp")) | assumption)
local macro_rules | `(tactic| walk_at "go") => `(tactic| repeat walk_at "go1")
local macro_rules | `(tactic| walk_at "st") => `(tactic| try dsimp only [cxOf, Cx.nox, Cx.wish])
local macro_rules | `(tactic| walk_at "kit") => `(tactic| with_reducible first | exact kit_int_int | exact kit_int_str | exact kit_int_bool | exact kit_int_tuple | exact kit_int_list | exact kit_str_int | exact kit_str_str | exact kit_str_bool | exact kit_str_tuple | exact kit_str_list | exact kit_bool_int | exact kit_bool_str | exact kit_bool_bool | exact kit_bool_tuple | exact kit_bool_list | exact kit_NoneType_int | exact kit_NoneType_str | exact kit_NoneType_bool | exact kit_NoneType_tuple | exact kit_NoneType_list | exact kit_list_int | exact kit_list_str | exact kit_list_bool | exact kit_list_tuple | exact kit_list_list | exact kit_tuple_int | exact kit_tuple_str | exact kit_tuple_bool | exact kit_tuple_tuple | exact kit_tuple_list)
local macro_rules | `(tactic| walk_at "nd") => `(tactic| first
  | assumption
  | exact Tm.nds _
  | exact Nds.nil
  | exact Nds.ofInts _
  | ((refine' Nds.cons ?na ?nb); (case na => first | exact Nds.I _ | exact Nds.L | exact Nds.A); (case nb => walk_at "nd"))
  | ((refine' Nds.app ?na ?nb); (case na => walk_at "nd"); (case nb => walk_at "nd"))
  | ((refine' Nds.rep ?na _); (case na => walk_at "nd")))
local macro_rules | `(tactic| walk_at "len") => `(tactic| first
  | exact ly_sz (by omega)
  | ((simp only [List.length_append, List.length_cons, List.length_nil, List.length_map, PyProof.Rows.lm_len_rep_flat]); exact ly_sz (by omega)))
local macro_rules | `(tactic| walk_at "go1") => `(tactic| first
  | (with_reducible refine' w_kget2 ?_)
  | (with_reducible refine' w_isRN ?_)
  | (with_reducible refine' w_isNN ?_)
  | (with_reducible refine' w_isIN ?_)
  | ((with_reducible refine' w_kg ?hd ?_); (case hd => assumption)))
local macro_rules | `(tactic| walk_at "go1") => `(tactic| first
  | ((with_reducible refine' w_extT ?hh ?hh2 ?hz ?_); (case hh => walk_at "hp"); (case hh2 => walk_at "hp"))
  | ((with_reducible refine' w_I ?hc ?_); (case hc => exact ⟨by decide, by decide, by decide⟩))
  | (with_reducible refine' w_sl ?_)
  | (with_reducible refine' w_noP ?_)
  | (with_reducible refine' w_part ?_)
  | (with_reducible refine' w_part1 ?_)
  | (with_reducible refine' w_it ?_)
  | (with_reducible refine' w_it1 ?_)
  | ((with_reducible refine' w_lenZ ?hz ?_); (case hz => omega))
  | ((with_reducible refine' w_addZb ?hz ?_); (case hz => omega))
  | ((with_reducible refine' w_addZf ?hz ?_); (case hz => omega))
  | ((with_reducible refine' w_addZa ?hz ?_); (case hz => omega))
  | ((with_reducible refine' w_inS ?hh ?_); (case hh => walk_at "hp"))
  | ((with_reducible refine' w_ixT ?hh ?ha ?_); (case hh => assumption); (case ha => exact atI_nat (by assumption))))
local macro_rules | `(tactic| walk_at "go1") => `(tactic| first
  | (with_reducible refine' w_iR2 ?_)
  | ((with_reducible refine' w_iR21 ?h1 ?h2 ?h3 ?h4 ?_); (case h1 => omega); (case h2 => omega); (case h3 => omega); (case h4 => omega))
  | (with_reducible refine' w_nnI ?_)
  | (with_reducible refine' w_max ?_)
  | (with_reducible refine' w_break ?_)
  | (with_reducible refine' w_cont ?_))
local macro_rules | `(tactic| walk_at "go1") => `(tactic| first
  | (with_reducible refine' w_m1 ?_)
  | (with_reducible refine' w_m11 ?_)
  | (with_reducible refine' w_st2 ?_)
  | (with_reducible refine' w_sg ?_)
  | (with_reducible refine' w_sg2 ?_)
  | (with_reducible refine' w_sgSp ?_)
  | ((with_reducible refine' w_lcnt ?hh ?_); (case hh => walk_at "hp")))
section
variable {P : Program} {w : World} {K : PySem.W.Frag} {mg : Str → Option Value} {base : Heap} {tk : Nat → Tok} {cl : Nat → Addr}
def spWVar (C : Addr) : Sp := fun vs H Q E => ∃ (i d : Nat) (b1 b2 : Addr) (bs fs : List (List Nat)), vs = [.int (i : Int), .int (d : Int), .ref b1, .ref b2] ∧ H b1 = some (.lst (plcs bs)) ∧ H b2 = some (.lst (plcs fs)) ∧ d ≤ bs.length ∧
  (i < d + fs.length → Q (.str (pl (shw bs fs d (.var i)))) H) ∧ (¬ i < d + fs.length → E (.ref C) none H)
theorem ok_wvar {f : Addr} {fd : FuncData} {k : Nat} (F : Fun K "written_variable" "written_variable" s_written_variable f fd) (T : Txt w K mg tk cl) : FnOk P w K mg base (L2.CX P w) (k + 1) f fd ["number", "depth", "bound", "names"] (spWVar (cl 5)) := by
  refine F.okX sc_written_variable (fun vs H Q E h => ?_) (fun cdv A outer s H vs Q E hr h => ?_)
  · obtain ⟨i, d, b1, b2, bs, fs, rfl, _⟩ := h
    rfl
  · obtain ⟨i, d, b1, b2, bs, fs, rfl, h1, h2, hd, q, x⟩ := h
    refine ⟨_, (pss_cons (ps_if (pt_cmpR op_lt (pv 0) (pv 1) (nomark _)) (pss_one (ps_ret (pe_ix ix_list (pv 2) (pe_op op_sub (pe_op op_sub (pv 1) pe_int) (pv 0)) (fun _ _ => rfl)))) pss_nil) (pss_cons (ps_if (pt_cmpR op_ge (pe_op op_sub (pv 0) (pv 1)) (pe_callB call_len_seq (by rfl) T.n_len (by decide +kernel) (pa_cons (pv 3) pa_nil)) (nomark _)) (pss_one (ps_raise rfl (takes_of rfl rfl rfl rfl) (SkE.pmk_own1 PySem.F.excBase_ValueError T.x_BadNames T.g_BadNames T.k_BadNames (raises_own T.b_BadNames T.t_BadNames) rfl pe_str))) pss_nil) (pss_one (ps_ret (pe_ix ix_list (pv 3) (pe_op op_sub (pv 0) (pv 1)) (fun _ _ => rfl)))))), ?_⟩
    refine sl_of (σ2 := [some _, some _, some _, some _]) rfl ?_
    walk_at "st"
    walk_at "go"
    refine w_br (fun c1 => ?_) (fun c1 => ?_)
    · have hid : i < d := by omega
      have e : shw bs fs d (.var i) = bs.getD (d - 1 - i) [] := if_pos hid
      walk_at "go"
      refine w_ixL (SqL.of h1) (by rw [show ((d : Int) - 1 - (i : Int)) = ((d - 1 - i : Nat) : Int) by omega]; exact atI_nat (plcs_at (by omega))) ?_
      rw [← e]
      exact q (by omega)
    · have hid : ¬ i < d := by omega
      walk_at "go"
      rw [show (plcs fs).length = fs.length from List.length_map _]
      refine w_br (fun c2 => ?_) (fun c2 => ?_)
      · walk_at "go"
        exact x (by omega)
      · have e : shw bs fs d (.var i) = fs.getD (i - d) [] := if_neg hid
        walk_at "go"
        refine w_ixL (SqL.of h2) (by rw [show ((i : Int) - (d : Int)) = ((i - d : Nat) : Int) by omega]; exact atI_nat (plcs_at (by omega))) ?_
        rw [← e]
        exact q (by omega)
def spIsAbs : Sp := fun vs H Q _ => ∃ (c : Nat) (r : List Nat), vs = [.str (pl (c :: r))] ∧ Q (.bl (decide (c = 92))) H
theorem ok_isabs {f : Addr} {fd : FuncData} {k : Nat} (F : Fun K "is_abstraction" "is_abstraction" s_is_abstraction f fd) (T : Txt w K mg tk cl) : FnOk P w K mg base CX0 (k + 1) f fd ["text"] spIsAbs := by
  refine F.ok sc_is_abstraction (fun vs H Q E h => ?_) (fun cdv A outer s H vs Q E hr h => ?_)
  · obtain ⟨c, r, rfl, _⟩ := h
    rfl
  · obtain ⟨c, r, rfl, q⟩ := h
    refine ⟨_, (pss_one (ps_ret (pe_m1 PySem.F.slot_str_startswith PySem.F.type_str_startswith mt_startswith (pv 0) pe_str))), ?_⟩
    refine sl_of (σ2 := [some _]) rfl ?_
    walk_at "st"
    walk_at "go"
    rw [← pl_bs, starts_pl]
    exact q
def spWAbs : Sp := fun vs H Q _ => ∃ (n : List Nat) (c : Nat) (r : List Nat), vs = [.str (pl n), .str (pl (c :: r))] ∧ n.length ≤ 400000 ∧ r.length ≤ 400000 ∧ Q (.str (pl (abT (decide (c = 92)) n (c :: r)))) H
theorem ok_wabs {f : Addr} {fd : FuncData} (F : Fun K "written_abstraction" "written_abstraction" s_written_abstraction f fd) (T : Txt w K mg tk cl) (D1 : Def P w K mg base CX0 1 "is_abstraction" ["text"] spIsAbs) : FnOk P w K mg base CX0 2 f fd ["name", "body"] spWAbs := by
  obtain ⟨f1, fd1, g_is_abstraction, kp_is_abstraction, b_is_abstraction, G_is_abstraction⟩ := D1
  refine F.ok sc_written_abstraction (fun vs H Q E h => ?_) (fun cdv A outer s H vs Q E hr h => ?_)
  · obtain ⟨n, c, r, rfl, _⟩ := h
    rfl
  · obtain ⟨n, c, r, rfl, hn, hl, q⟩ := h
    refine ⟨_, (pss_cons (ps_if (pt_val (pe_call G_is_abstraction (hr.mono (by first | decide | omega)) (by rfl) g_is_abstraction kp_is_abstraction b_is_abstraction .nil pass0 (pa_cons (pv 1) pa_nil))) (pss_one (ps_ret (pe_op op_addZ (pe_op op_addZ (pe_op op_addZ pe_str (pv 0)) pe_str) (pe_slice sl_str (pv 1) (po_some pe_int) po_none)))) pss_nil) (pss_one (ps_ret (pe_op op_addZ (pe_op op_addZ (pe_op op_addZ pe_str (pv 0)) pe_str) (pv 1))))), ?_⟩
    refine sl_of (σ2 := [some _, some _]) rfl ?_
    walk_at "st"
    walk_at "go"
    refine ⟨c, r, rfl, ?_⟩
    walk_at "go"
    unfold abT at q
    refine w_br (fun c1 => ?_) (fun c1 => ?_)
    · rw [if_pos (decide_eq_true c1)] at q
      walk_at "go"
      rw [← pl_bs]
      refine w_addZ (by simp; omega) ?_
      walk_at "go"
      rw [pl_sp]
      refine w_addZ (by simp; omega) ?_
      walk_at "go"
      refine w_slHi (i := 1) (by simp; omega) ?_
      refine w_addZ (by simp; omega) ?_
      simpa using q
    · rw [if_neg (by simpa using c1)] at q
      walk_at "go"
      rw [← pl_bs]
      refine w_addZ (by simp; omega) ?_
      walk_at "go"
      rw [pl_dsp]
      refine w_addZ (by simp; omega) ?_
      walk_at "go"
      refine w_addZ (by simp; omega) ?_
      simpa using q
def spWApp : Sp := fun vs H Q _ => ∃ (c : Nat) (r : List Nat) (a : List Nat), vs = [.str (pl (c :: r)), .str (pl a)] ∧ r.length ≤ 400000 ∧ a.length ≤ 400000 ∧ Q (.str (pl (par (decide (c = 92)) (c :: r) ++ 32 :: par (decide (32 ∈ a)) a))) H
theorem ok_wapp {f : Addr} {fd : FuncData} (F : Fun K "written_application" "written_application" s_written_application f fd) (T : Txt w K mg tk cl) (D1 : Def P w K mg base CX0 1 "is_abstraction" ["text"] spIsAbs) : FnOk P w K mg base CX0 2 f fd ["function", "argument"] spWApp := by
  obtain ⟨f1, fd1, g_is_abstraction, kp_is_abstraction, b_is_abstraction, G_is_abstraction⟩ := D1
  refine F.ok sc_written_application (fun vs H Q E h => ?_) (fun cdv A outer s H vs Q E hr h => ?_)
  · obtain ⟨c, r, a, rfl, _⟩ := h
    rfl
  · obtain ⟨c, r, a, rfl, hl, ha, q⟩ := h
    refine ⟨_, (pss_cut (ps_if (pt_val (pe_call G_is_abstraction (hr.mono (by first | decide | omega)) (by rfl) g_is_abstraction kp_is_abstraction b_is_abstraction .nil pass0 (pa_cons (pv 0) pa_nil))) (pss_one (ps_set (i := 0) sc_written_application.nd rfl (.inl rfl) (pe_joined (.cons pe_str (.cons (pe_fmt (pv 0)) (.cons pe_str .nil)))))) pss_nil) (pss_cut (ps_if (pt_cmpR op_in_sign pe_str (pv 1) rfl) (pss_one (ps_set (i := 1) sc_written_application.nd rfl (.inl rfl) (pe_joined (.cons pe_str (.cons (pe_fmt (pv 1)) (.cons pe_str .nil)))))) pss_nil) (pss_one (ps_ret (pe_joined (.cons (pe_fmt (pv 0)) (.cons pe_str (.cons (pe_fmt (pv 1)) .nil)))))))), ?_⟩
    refine sl_of (σ2 := [some _, some _]) rfl ?_
    walk_at "st"
    walk_at "go"
    refine w_cut (M := fun σ' H' => H' = H ∧ σ' = [some (.str (pl (par (decide (c = 92)) (c :: r)))), some (.str (pl a))]) ?_ ?_
    · walk_at "go"
      refine ⟨c, r, rfl, ?_⟩
      walk_at "go"
      refine w_br (fun c1 => ?_) (fun c1 => ?_)
      · rw [decide_eq_true c1]
        walk_at "go"
        refine ⟨by decide +kernel, ?_⟩
        rw [em_lp]
        walk_at "go"
        refine w_fmtS (by simp; omega) ?_
        refine w_js2 (by simp; omega) ?_
        rw [pl_app]
        walk_at "go"
        rw [lp_rp]
        refine ⟨by rw [pl_len]; exact ly_sz (by simp; omega), ?_⟩
        walk_at "go"
        refine ⟨rfl, ?_⟩
        simp [par]
      · rw [decide_eq_false c1]
        walk_at "go"
        exact ⟨rfl, rfl⟩
    rintro σ' H' ⟨rfl, rfl⟩
    have lp : ∀ (b : Bool) (w : List Nat), (par b w).length ≤ w.length + 2 := fun b w => by
      unfold par
      split <;> simp
    have l1 := lp (decide (c = 92)) (c :: r)
    generalize par (decide (c = 92)) (c :: r) = F0 at *
    have l2 := lp (decide (32 ∈ a)) a
    refine w_cut (M := fun σ' H'' => H'' = H' ∧ σ' = [some (.str (pl F0)), some (.str (pl (par (decide (32 ∈ a)) a)))]) ?_ ?_
    · walk_at "go"
      show if decide (32 ∈ a) = true then _ else _
      refine w_br (fun c1 => ?_) (fun c1 => ?_)
      · rw [decide_eq_true c1]
        walk_at "go"
        refine ⟨by decide +kernel, ?_⟩
        rw [em_lp]
        walk_at "go"
        refine w_fmtS (by omega) ?_
        refine w_js2 (by simp; omega) ?_
        rw [pl_app]
        walk_at "go"
        rw [lp_rp]
        refine ⟨by rw [pl_len]; exact ly_sz (by simp; omega), ?_⟩
        walk_at "go"
        refine ⟨rfl, ?_⟩
        simp [par]
      · rw [decide_eq_false c1]
        walk_at "go"
        exact ⟨rfl, rfl⟩
    rintro σ' H'' ⟨rfl, rfl⟩
    generalize par (decide (32 ∈ a)) a = A0 at *
    walk_at "go"
    have l3 : (c :: r).length = r.length + 1 := rfl
    refine w_fmtS (by omega) ?_
    refine w_js0 (by omega) ?_
    rw [pl_em]
    walk_at "go"
    rw [sp_sp]
    refine ⟨by rw [pl_len]; exact ly_sz (by simp; omega), ?_⟩
    walk_at "go"
    refine w_fmtS (by omega) ?_
    refine w_js2 (by simp; omega) ?_
    rw [pl_app]
    walk_at "go"
    simpa using q
end
end Ly
set_option Elab.async false
set_option linter.all false
set_option maxRecDepth 100000
set_option maxHeartbeats 8000000
namespace Ly
open PySem PySem.Spec PyProof.Rows L2 Evl
local macro_rules | `(tactic| walk_at "ne") => `(tactic| first
  | assumption
  | ((refine' Ne.symm ?hq); (case hq => assumption))
  | ((refine' ne_of_none ?nh1 ?nh2); (case nh2 => assumption); (case nh1 => walk_at "hp"))
  | ((refine' Ne.symm (ne_of_none ?nh1 ?nh2)); (case nh2 => assumption); (case nh1 => walk_at "hp")))
local macro_rules | `(tactic| walk_at "hp") => `(tactic| first
  | assumption
  | exact upd_same
  | ((refine' SqL.of ?hq); (case hq => walk_at "hp"))
  | ((refine' SqT.of ?hq); (case hq => walk_at "hp"))
  | ((refine' (upd_ne ?hne).trans ?hrest); (case hne => walk_at "ne"); (case hrest => walk_at "hp"))
  | ((refine' ly_at ?hex ?hh); (case hex => assumption); (case hh => walk_at "hp"))
  | ((refine' ly_atF ?hex ?hnn ?hh); (case hex => assumption); (case hh => walk_at "hp"); (case hnn => walk_at "ne"))
  | ((refine' ex_t ?hex ?hh); (case hh => assumption); (case hex => walk_at "ex"))
  | ((refine' ex_l ?hex ?hh); (case hh => assumption); (case hex => walk_at "ex")))
local macro_rules | `(tactic| walk_at "ex") => `(tactic| first
  | assumption
  | exact Ex.refl _
  | ((refine' ex_new ?xa ?xb); (case xb => assumption); (case xa => walk_at "ex"))
  | ((refine' ex_upd ?xa ?xb); (case xb => walk_at "free"); (case xa => walk_at "ex"))
  | ((refine' Ex.trans ?xa ?xb); (case xb => assumption); (case xa => walk_at "ex")))
local macro_rules | `(tactic| walk_at "free") => `(tactic| first
  | assumption
  | ((refine' fresh_back ?xa ?xb); (case xb => assumption); (case xa => walk_at "ex")))
local macro_rules | `(tactic| walk_at "fr") => `(tactic| first
  | assumption
  | exact Fr.refl _ _
  | ((refine' Fr.own ?hq); (case hq => walk_at "fr"))
  | ((refine' Fr.new ?xa ?xb); (case xb => assumption); (case xa => walk_at "fr"))
  | ((refine' Fr.mut ?xa ?xb); (case xb => assumption); (case xa => walk_at "fr"))
  | ((refine' Fr.trans ?xa ?xb); (case xb => assumption); (case xa => walk_at "fr"))
  | ((refine' Fr.trans ?xa (Fr.ex ?xb)); (case xb => assumption); (case xa => walk_at "fr")))
local macro_rules | `(tactic| walk_at "go1") => `(tactic| first
  | (with_reducible refine' w_seq ?_)
  | (with_reducible refine' w_asg ?_)
  | (with_reducible refine' w_ret ?_)
  | (with_reducible refine' w_drop ?_)
  | (with_reducible refine' w_if ?_)
  | (with_reducible refine' w_next ?_)
  | (with_reducible refine' w_name ?_)
  | (with_reducible refine' w_sub ?_)
  | ((with_reducible refine' w_var ?hv ?_); (case hv => exact rfl))
  | (with_reducible refine' w_c ?_)
  | (with_reducible refine' w_op ?_)
  | (with_reducible refine' w_un ?_)
  | (with_reducible refine' w_ch ?_)
  | (with_reducible refine' w_I0 ?_)
  | ((with_reducible refine' w_I ?hc ?_); (case hc => first | (exact ly_mulL (by decide) (by decide)) | (exact ly_mulR (by decide) (by decide)) | (exact ly_mulL (by omega) (by omega)) | (show (_ : Int) ≠ 0; decide) | (show (_ : Int) ≠ 0; omega) | (exact ⟨by decide, by decide⟩) | (exact ⟨by omega, by omega⟩)))
  | (with_reducible refine' w_U ?_)
  | ((with_reducible refine' w_eq ?hs ?_); (case hs => exact rfl))
  | ((with_reducible refine' w_ne ?hs ?_); (case hs => exact rfl))
  | (with_reducible refine' w_isB ?_)
  | (with_reducible refine' w_notB ?_)
  | (with_reducible refine' w_nil ?_)
  | (with_reducible refine' w_cons ?_)
  | (with_reducible refine' w_tup ?_)
  | (with_reducible refine' w_lst ?_)
  | (with_reducible refine' w_cb ?_)
  | (with_reducible refine' w_call ?_)
  | (with_reducible refine' w_bm ?_)
  | (with_reducible refine' w_bm0 ?_)
  | ((with_reducible refine' w_app ?hh ?hz ?_); (case hh => walk_at "hp"); (case hz => first | exact ly_lt (by omega) | exact ly_lt (by simp only [List.length_append, List.length_map, List.length_cons, List.length_nil]; omega)))
  | ((with_reducible refine' w_popA ?hh ?_); (case hh => walk_at "hp"))
  | ((with_reducible refine' w_ext ?hh ?hh2 ?hz ?_); (case hh => walk_at "hp"); (case hh2 => walk_at "hp"))
  | ((with_reducible refine' w_ixL ?hh ?ha ?_); (case hh => walk_at "hp"); (case ha => first | exact rfl | exact at_map (by omega) | exact atI_last _ _ | ((refine' at_of ?ae ?ah); (case ah => assumption); (case ae => omega))))
  | ((with_reducible refine' w_ixT ?hh ?ha ?_); (case hh => walk_at "hp"); (case ha => first | exact rfl | exact at_map (by omega) | exact atI_last _ _ | ((refine' at_of ?ae ?ah); (case ah => assumption); (case ae => omega))))
  | ((with_reducible refine' w_cat ?hh ?hh2 ?hz ?_); (case hh => walk_at "hp"); (case hh2 => walk_at "hp"))
  | ((with_reducible refine' w_setL ?hh ?ha ?_); (case hh => walk_at "hp"); (case ha => exact rfl))
  | (with_reducible refine' w_test ?_)
  | (with_reducible refine' w_tB ?_)
  | (with_reducible refine' w_bl ?_)
  | (with_reducible refine' w_and ?_)
  | (with_reducible refine' w_or ?_)
  | (with_reducible refine' w_not ?_)
  | (with_reducible refine' w_andV ?_)
  | (with_reducible refine' w_orV ?_)
  | (with_reducible refine' w_notV ?_)
  | (with_reducible refine' w_ifE ?_)
  | (with_reducible refine' w_for ?_)
  | ((with_reducible refine' w_nin ?hh ?_); (case hh => walk_at "hp"))
  | ((with_reducible refine' w_sorted ?hh ?_); (case hh => walk_at "hp"))
  | (with_reducible refine' w_tsadd ?_)
  | ((with_reducible refine' w_tsadd1 ?hh ?_); (case hh => walk_at "hp"))
  | ((with_reducible refine' w_sadd ?hh ?hr ?_); (case hh => walk_at "hp"); (case hr => omega))
  | (with_reducible refine' w_iZ ?_)
  | ((with_reducible refine' w_iZ1 ?hh ?hh2 ?_); (case hh => walk_at "hp"); (case hh2 => walk_at "hp"))
  | (with_reducible refine' w_iS ?_)
  | (with_reducible refine' w_iS1 ?_)
  | ((with_reducible refine' w_gtup ?hh ?hn ?_); (case hh => walk_at "hp"); (case hn => exact rfl))
  | (with_reducible refine' w_gcons ?_)
  | (with_reducible refine' w_gnil ?_)
  | (with_reducible refine' w_js ?_)
  | (with_reducible refine' w_jsn ?_)
  | ((with_reducible refine' w_js1 ?hl ?_); (case hl => decide +kernel))
  | (with_reducible refine' w_fmt ?_)
  | ((with_reducible refine' w_fmt1 ?hl ?_); (case hl => decide +kernel))
  | (with_reducible refine' w_callS ?_)
  | ((with_reducible refine' w_truL ?hh ?_); (case hh => walk_at "hp"))
  | (with_reducible refine' w_lc ?_)
  | (with_reducible refine' w_yes ?_)
  | ((with_reducible refine' w_wipe ?he ?_); (case he => exact rfl))
  | (with_reducible refine' w_iL ?_)
  | (with_reducible refine' w_iT ?_)
  | (with_reducible refine' w_iR ?_)
  | ((with_reducible refine' w_iL1 ?hh ?_); (case hh => walk_at "hp"))
  | ((with_reducible refine' w_iT1 ?hh ?_); (case hh => walk_at "hp"))
  | ((with_reducible refine' w_iR1 ?h1 ?h2 ?_); (case h1 => omega); (case h2 => omega))
  | ((with_reducible refine' w_aug ?hv ?_); (case hv => exact rfl))
  | (with_reducible refine' w_ipI ?_)
  | ((with_reducible refine' w_isi ?hy ?hk ?_); (case hy => walk_at "ty"); (case hk => walk_at "kit"))
  | ((with_reducible refine' w_int ?_))
  | ((with_reducible refine' w_intB ?_))
  | ((with_reducible refine' w_abs ?_))
  | ((with_reducible refine' w_lenL ?hh ?_); (case hh => walk_at "hp"))
  | ((with_reducible refine' w_lenT ?hh ?_); (case hh => walk_at "hp"))
  | ((with_reducible refine' w_tupL ?hh ?_); (case hh => walk_at "hp"))
  | ((with_reducible refine' w_tupT ?hh ?_); (case hh => walk_at "hp"))
  | ((with_reducible refine' w_catA ?hh ?hh2 ?hz ?_); (case hh => walk_at "hp"); (case hh2 => walk_at "hp"); (case hz => walk_at "len"))
  | ((with_reducible refine' w_repB ?hh ?hne ?h2 ?h3 ?hz ?_); (case hh => walk_at "hp"); (case hne => simp); (case h2 => omega); (case h3 => omega); (case hz => exact Nat.le_of_ble_eq_true rfl))
  | ((with_reducible refine' w_eqN ?hh ?hh2 ?n1 ?n2 ?_); (case hh => walk_at "hp"); (case hh2 => walk_at "hp"); (case n1 => walk_at "nd"); (case n2 => walk_at "nd"))
  | ((with_reducible refine' w_neN ?hh ?hh2 ?n1 ?n2 ?_); (case hh => walk_at "hp"); (case hh2 => walk_at "hp"); (case n1 => walk_at "nd"); (case n2 => walk_at "nd"))
  | ((with_reducible refine' w_eqL ?hh ?hh2 ?n1 ?n2 ?_); (case hh => walk_at "hp"); (case hh2 => walk_at "hp"); (case n1 => walk_at "nd"); (case n2 => walk_at "nd"))
  | ((with_reducible refine' w_neL ?hh ?hh2 ?n1 ?n2 ?_); (case hh => walk_at "hp"); (case hh2 => walk_at "hp"); (case n1 => walk_at "nd"); (case n2 => walk_at "nd"))
  | ((with_reducible refine' w_neNon ?hh2 ?n2 ?_); (case hh2 => walk_at "hp"); (case n2 => walk_at "nd"))
  | ((with_reducible refine' w_eqNon ?hh2 ?n2 ?_); (case hh2 => walk_at "hp"); (case n2 => walk_at "nd"))
  | ((with_reducible refine' w_slA ?hh ?_); (case hh => walk_at "hp"))
  | ((with_reducible refine' w_disp ?hz ?_); (case hz => exact sz_of (Nat.le_of_ble_eq_true rfl)))
  | ((with_reducible refine' w_tyL ?hh ?_); (case hh => walk_at "hp"))
  | (with_reducible refine' iteT ?_)
  | (with_reducible refine' iteF ?_)
  | (with_reducible refine' w_nT ?_)
  | (with_reducible refine' w_nn ?_)
  | (with_reducible refine' w_nnT ?_)
  | (with_reducible refine' w_nnR ?_)
  | (with_reducible refine' w_neG ?_)
  | (with_reducible refine' w_eqG ?_)
  | (with_reducible refine' w_neS ?_)
  | (with_reducible refine' w_eqS ?_)
  | (with_reducible refine' w_neSb ?_)
  | (with_reducible refine' w_eqSb ?_)
  | (with_reducible refine' w_deIS ?_)
  | (with_reducible refine' w_deSI ?_)
  | (with_reducible refine' w_deISn ?_)
  | ((with_reducible refine' w_deST ?he ?_); (case he => decide +kernel))
  | ((with_reducible refine' w_deSF ?he ?_); (case he => decide +kernel))
  | ((with_reducible refine' w_deSTn ?he ?_); (case he => decide +kernel))
  | ((with_reducible refine' w_deSFn ?he ?_); (case he => decide +kernel))
  | (with_reducible refine' w_nF ?_)
  | dsimp only [Bool.not_true, Bool.not_false])
local macro_rules | `(tactic| walk_at "ty") => `(tactic| first
  | exact .base (.int _) | exact .base (.str _) | exact .base (.bl _) | exact .base .non
  | ((refine' tyx_t ?hq); (case hq => walk_at "hp")) | ((refine' tyx_l ?hq); (case hq => walk_at "hp")) | ((refine' .base (.tup ?hq)); (case hq => walk_at "hp")) | assumption)
local macro_rules | `(tactic| walk_at "go") => `(tactic| repeat walk_at "go1")
local macro_rules | `(tactic| walk_at "st") => `(tactic| try dsimp only [cxOf, Cx.nox, Cx.wish])
local macro_rules | `(tactic| walk_at "kit") => `(tactic| with_reducible first | exact kit_int_int | exact kit_int_str | exact kit_int_bool | exact kit_int_tuple | exact kit_int_list | exact kit_str_int | exact kit_str_str | exact kit_str_bool | exact kit_str_tuple | exact kit_str_list | exact kit_bool_int | exact kit_bool_str | exact kit_bool_bool | exact kit_bool_tuple | exact kit_bool_list | exact kit_NoneType_int | exact kit_NoneType_str | exact kit_NoneType_bool | exact kit_NoneType_tuple | exact kit_NoneType_list | exact kit_list_int | exact kit_list_str | exact kit_list_bool | exact kit_list_tuple | exact kit_list_list | exact kit_tuple_int | exact kit_tuple_str | exact kit_tuple_bool | exact kit_tuple_tuple | exact kit_tuple_list)
local macro_rules | `(tactic| walk_at "nd") => `(tactic| first
  | assumption
  | exact Tm.nds _
  | exact Nds.nil
  | exact Nds.ofInts _
  | ((refine' Nds.cons ?na ?nb); (case na => first | exact Nds.I _ | exact Nds.L | exact Nds.A); (case nb => walk_at "nd"))
  | ((refine' Nds.app ?na ?nb); (case na => walk_at "nd"); (case nb => walk_at "nd"))
  | ((refine' Nds.rep ?na _); (case na => walk_at "nd")))
local macro_rules | `(tactic| walk_at "len") => `(tactic| first
  | exact ly_sz (by omega)
  | ((simp only [List.length_append, List.length_cons, List.length_nil, List.length_map, PyProof.Rows.lm_len_rep_flat]); exact ly_sz (by omega)))
local macro_rules | `(tactic| walk_at "go1") => `(tactic| first
  | (with_reducible refine' w_kget2 ?_)
  | (with_reducible refine' w_isRN ?_)
  | (with_reducible refine' w_isNN ?_)
  | (with_reducible refine' w_isIN ?_)
  | ((with_reducible refine' w_kg ?hd ?_); (case hd => assumption)))
local macro_rules | `(tactic| walk_at "go1") => `(tactic| first
  | ((with_reducible refine' w_extT ?hh ?hh2 ?hz ?_); (case hh => walk_at "hp"); (case hh2 => walk_at "hp"))
  | ((with_reducible refine' w_I ?hc ?_); (case hc => exact ⟨by decide, by decide, by decide⟩))
  | (with_reducible refine' w_sl ?_)
  | (with_reducible refine' w_noP ?_)
  | (with_reducible refine' w_part ?_)
  | (with_reducible refine' w_part1 ?_)
  | (with_reducible refine' w_it ?_)
  | (with_reducible refine' w_it1 ?_)
  | ((with_reducible refine' w_lenZ ?hz ?_); (case hz => omega))
  | ((with_reducible refine' w_addZb ?hz ?_); (case hz => omega))
  | ((with_reducible refine' w_addZf ?hz ?_); (case hz => omega))
  | ((with_reducible refine' w_addZa ?hz ?_); (case hz => omega))
  | ((with_reducible refine' w_inS ?hh ?_); (case hh => walk_at "hp"))
  | ((with_reducible refine' w_ixT ?hh ?ha ?_); (case hh => assumption); (case ha => exact atI_nat (by assumption))))
local macro_rules | `(tactic| walk_at "go1") => `(tactic| first
  | (with_reducible refine' w_iR2 ?_)
  | ((with_reducible refine' w_iR21 ?h1 ?h2 ?h3 ?h4 ?_); (case h1 => omega); (case h2 => omega); (case h3 => omega); (case h4 => omega))
  | (with_reducible refine' w_nnI ?_)
  | (with_reducible refine' w_max ?_)
  | (with_reducible refine' w_break ?_)
  | (with_reducible refine' w_cont ?_))
local macro_rules | `(tactic| walk_at "go1") => `(tactic| first
  | (with_reducible refine' w_m1 ?_)
  | (with_reducible refine' w_m11 ?_)
  | (with_reducible refine' w_st2 ?_)
  | (with_reducible refine' w_sg ?_)
  | (with_reducible refine' w_sg2 ?_)
  | (with_reducible refine' w_sgSp ?_)
  | ((with_reducible refine' w_lcnt ?hh ?_); (case hh => walk_at "hp")))
local macro_rules | `(tactic| walk_at "go1") => `(tactic| first
  | (with_reducible refine' w_bmX ?_)
  | ((with_reducible refine' w_bmX1 ?hh ?_); (case hh => assumption))
  | ((with_reducible refine' w_tcnt ?hh ?hn ?_); (case hh => walk_at "hp"); (case hn => walk_at "nd")))
section
variable {P : Program} {w : World} {K : PySem.W.Frag} {mg : Str → Option Value} {base : Heap} {tk : Nat → Tok} {cl : Nat → Addr}
def spShow (K : PySem.W.Frag) (PT C : Addr) : Sp := fun vs H Q E => ∃ (a b : Addr) (t : Tm) (fs : List (List Nat)), vs = [.ref a, .ref b] ∧ SqX H a t.enc ∧ t.enc.length ≤ 1000 ∧ H b = some (.lst (plcs fs)) ∧ fs.length ≤ 1000 ∧ (∀ w ∈ fs, w.length ≤ 1000000) ∧ GxR.TabG H PT ∧
  (NmOk fs → okF fs.length 0 t → ∀ H' bs m, Tb PT H H' → bs = own fs m → bs.length = t.lams → m ≤ t.lams + fs.length → Q (.str (pl (shw bs fs 0 t))) H') ∧ (¬ (NmOk fs ∧ okF fs.length 0 t) → ∀ H', Tb PT H H' → E (.ref C) none H')
theorem decB {p : Prop} [Decidable p] {b : Bool} (h : b = true ↔ p) : decide p = b := by
  cases b with
  | true => exact decide_eq_true (h.mp rfl)
  | false => exact decide_eq_false fun z => nomatch (h.mpr z)
theorem sl_itv {K : PySem.W.Frag} {te : TE} {σ σ2 : L2.St} {H : Hp} {R : It → Hp → Prop} (e : σ = σ2) (h : te σ2 H fun v H1 => ∃ (a : Addr) (xs : List V), v = .ref a ∧ ((SqL K H1 a xs ∧ R (Itv K a xs.length) H1) ∨ (SqT K H1 a xs ∧ R (RT.ItvT K a xs.length) H1))) : RT.iRevA K te σ H R := by
  rw [e]; exact h
theorem ok_show {f : Addr} {fd : FuncData} {PT : Addr} (F : Fun K "show" "show" s_show f fd) (T : Txt w K mg tk cl) (D1 : Def P w K mg base CX0 2 "bound_names" ["count", "taken"] spBound) (D2 : Def P w K mg base (L2.CX P w) 3 "name_table" ["names"] (spTable PT (cl 5)))
    (D3 : Def P w K mg base CX0 1 "depths" ["term"] (spDepths K)) (D4 : Def P w K mg base CX0 2 "written_abstraction" ["name", "body"] spWAbs) (D5 : Def P w K mg base CX0 2 "written_application" ["function", "argument"] spWApp)
    (D6 : Def P w K mg base (L2.CX P w) 1 "written_variable" ["number", "depth", "bound", "names"] (spWVar (cl 5))) : FnOk P w K mg base (L2.CX P w) 6 f fd ["term", "names"] (spShow K PT (cl 5)) := by
  obtain ⟨f1, fd1, g_bound_names, kp_bound_names, b_bound_names, G_bound_names⟩ := D1
  obtain ⟨f2, fd2, g_name_table, kp_name_table, b_name_table, G_name_table⟩ := D2
  obtain ⟨f3, fd3, g_depths, kp_depths, b_depths, G_depths⟩ := D3
  obtain ⟨f4, fd4, g_written_abstraction, kp_written_abstraction, b_written_abstraction, G_written_abstraction⟩ := D4
  obtain ⟨f5, fd5, g_written_application, kp_written_application, b_written_application, G_written_application⟩ := D5
  obtain ⟨f6, fd6, g_written_variable, kp_written_variable, b_written_variable, G_written_variable⟩ := D6
  refine F.okX sc_show (fun vs H Q E h => ?_) (fun cdv A outer s H vs Q E hr h => ?_)
  · obtain ⟨a, b, t, fs, rfl, _⟩ := h
    rfl
  · obtain ⟨a, b, t, fs, rfl, hS, hlen, hb, hl, hwl, ht, q, x⟩ := h
    refine ⟨_, (pss_cons (ps_set (i := 2) sc_show.nd rfl (.inl rfl) (pe_call G_bound_names (hr.mono (by first | decide | omega)) (by rfl) g_bound_names kp_bound_names b_bound_names .nil pass0 (pa_cons (pe_bmX PySem.F.plainAttrs_tuple PySem.F.slot_tuple_count PySem.F.type_tuple_count mt_tcount (pv 0) (pa_cons pe_str pa_nil)) (pa_cons (pe_call G_name_table (hr.mono (by first | decide | omega)) (by rfl) g_name_table kp_name_table b_name_table .nil (passes_call (takes_of rfl rfl rfl rfl) (fun _ _ _ _ h => h)) (pa_cons (pv 1) pa_nil)) pa_nil)))) (pss_cons (ps_set (i := 3) sc_show.nd rfl (.inl rfl) (pe_lst pa_nil)) (pss_cons (ps_for (passes_of rfl) rfl (RT.pi_revA (by rfl) T.n_reversed (pe_listZip rfl (by rfl) T.n_list (by rfl) T.n_zip (pa_cons (pv 0) (pa_cons (pe_call G_depths (hr.mono (by first | decide | omega)) (by rfl) g_depths kp_depths b_depths .nil pass0 (pa_cons (pv 0) pa_nil)) pa_nil)))) (pg_tup (by rfl) (pgs_cons (pg_name (i := 4) sc_show.nd rfl (.inl rfl)) (pgs_cons (pg_name (i := 5) sc_show.nd rfl (.inl rfl)) pgs_nil))) (pss_one (ps_if (pt_cmpR op_eq (pv 4) pe_str (nomark _)) (pss_one (ps_expr (pe_bm PySem.F.plainAttrs_list PySem.F.slot_list_append PySem.F.type_list_append mt_append (pv 3) (pa_cons (pe_call G_written_abstraction (hr.mono (by first | decide | omega)) (by rfl) g_written_abstraction kp_written_abstraction b_written_abstraction .nil pass0 (pa_cons (pe_ix ix_list (pv 2) (pv 5) (fun _ _ => rfl)) (pa_cons (pe_bm0 PySem.F.plainAttrs_list PySem.F.slot_list_pop PySem.F.type_list_pop mt_pop (pv 3)) pa_nil))) pa_nil)))) (pss_one (ps_if (pt_cmpR op_eq (pv 4) pe_str (nomark _)) (pss_cons (ps_set (i := 6) sc_show.nd rfl (.inl rfl) (pe_bm0 PySem.F.plainAttrs_list PySem.F.slot_list_pop PySem.F.type_list_pop mt_pop (pv 3))) (pss_one (ps_expr (pe_bm PySem.F.plainAttrs_list PySem.F.slot_list_append PySem.F.type_list_append mt_append (pv 3) (pa_cons (pe_call G_written_application (hr.mono (by first | decide | omega)) (by rfl) g_written_application kp_written_application b_written_application .nil pass0 (pa_cons (pv 6) (pa_cons (pe_bm0 PySem.F.plainAttrs_list PySem.F.slot_list_pop PySem.F.type_list_pop mt_pop (pv 3)) pa_nil))) pa_nil))))) (pss_one (ps_expr (pe_bm PySem.F.plainAttrs_list PySem.F.slot_list_append PySem.F.type_list_append mt_append (pv 3) (pa_cons (pe_call G_written_variable (hr.mono (by first | decide | omega)) (by rfl) g_written_variable kp_written_variable b_written_variable .nil (passes_call (takes_of rfl rfl rfl rfl) (fun _ _ _ _ h => h)) (pa_cons (pv 4) (pa_cons (pv 5) (pa_cons (pv 2) (pa_cons (pv 1) pa_nil))))) pa_nil))))))))) (pss_one (ps_ret (pe_bm0 PySem.F.plainAttrs_list PySem.F.slot_list_pop PySem.F.type_list_pop mt_pop (pv 3))))))), ?_⟩
    refine sl_of (σ2 := [some _, some _, none, none, none, none, none]) rfl ?_
    walk_at "st"
    walk_at "go"
    refine w_tcnt hS.t (Tm.nds _) ?_
    rw [lams_count]
    have hll := lams_le t
    walk_at "go"
    refine ⟨b, fs, rfl, hb, hl, hwl, ht, fun hok H2 pt kvs t2 hpt ht2 hin => ?_, fun hno H2 t2 => x (fun z => hno z.1) H2 t2⟩
    have hS2 : SqX H2 a t.enc := by
      obtain ⟨ob, h1, h2, h3⟩ := hS
      exact ⟨ob, t2.at ht h1 (fun q z => nomatch z), h2, h3⟩
    have hb2 := t2.lst ht hb
    walk_at "go"
    refine ⟨t.lams, pt, kvs, fs, rfl, ht2, hin, by omega, fun H3 pb bs m e3 hpb hb3 hbs hbl hm => ?_⟩
    have t3 : Tb PT H H3 := t2.trans (Tb.ex t2.1 e3)
    have hS3 := hS2.ex e3
    have hf3 := e3 _ _ hb2
    clear hS2 hb2 hb hS
    walk_at "go"
    intro pw hpw
    have e4 := Ex.new hpw (o := .lst (plcs []))
    have hw4 : upd H3 pw (.lst (plcs [])) pw = some (.lst (plcs [])) := upd_same
    rw [show (HO.lst ([] : List V)) = .lst (plcs []) from rfl]
    have hpw0 := t3.free hpw
    have npb : pb ≠ pw := ne_of_none hb3 hpw
    have nbw : b ≠ pw := ne_of_none hf3 hpw
    have t4 := t3.trans (Tb.ex t3.1 e4)
    have hS4 := hS3.ex e4
    have hf4 := e4 _ _ hf3
    have hb4 := e4 _ _ hb3
    generalize upd H3 pw (.lst (plcs [])) = H4 at *
    clear hS3 hf3 hb3 e4 t3 e3 t2 ht2 hpt
    walk_at "go"
    refine sl_itv (σ2 := [some (.ref a), some (.ref b), some (.ref pb), some (.ref pw), none, none, none]) rfl ?_
    show tListZip K _ _ _ _
    refine w_listZip ?_
    walk_at "go"
    refine ⟨a, t, rfl, hS4.t, by omega, fun H5 pd e5 hpd hd5 => ?_⟩
    have t5 := t4.trans (Tb.ex t4.1 e5)
    have hS5 := hS4.ex e5
    have hf5 := e5 _ _ hf4
    have hb5 := e5 _ _ hb4
    have hw5 := e5 _ _ hw4
    walk_at "go"
    refine ⟨a, pd, t.enc, nums (t.deps 0), rfl, .inr hS5.t, .inl (SqL.of hd5), by rw [List.length_map, Tm.deps_len], fun H6 pz ts Z => ?_⟩
    have t6 := t5.trans (Tb.ex t5.1 Z.ex)
    have hf6 := Z.ex _ _ hf5
    have hb6 := Z.ex _ _ hb5
    have hw6 := Z.ex _ _ hw5
    have nz : pz ≠ pw := fun z => by rw [z] at Z; have := Z.new; rw [hw5] at this; cases this
    clear t5 hS5 hf5 hb5 hw5 t4 hS4 hf4 hb4 hw4 e5 hd5
    refine ⟨pz, _, rfl, .inl ⟨SqL.of Z.lst, ?_⟩⟩
    have hbn : Nms bs := fun w hw => by
      rw [hbs] at hw
      exact nmB_of (own_nm (by omega) w hw)
    have hfn := hok.1
    have hln : (ts.map V.ref).length = t.enc.length := by rw [List.length_map, Z.len]
    refine RT.for_Itv (K := K) (a := pz) (xs := ts.map V.ref) (fun i σ H' => ∃ (y4 y5 y6 : Option V), σ = [some (.ref a), some (.ref b), some (.ref pb), some (.ref pw), y4, y5, y6] ∧ Fr pw H6 H' ∧ H' pw = some (.lst (plcs (stk bs fs t (t.enc.length - i)))) ∧ (∀ p ∈ fo t (t.enc.length - i), okF fs.length p.2 p.1))
      ⟨none, none, none, rfl, Fr.refl _ _, by rw [Nat.sub_zero]; unfold stk; rw [fo_end]; exact hw6, by rw [Nat.sub_zero, fo_end]; simp⟩ (fun i σ H' ⟨_, _, _, _, fr, _⟩ => SqL.of (fr _ _ nz Z.lst)) ?_ ?_
    · rintro i x0 σ H7 hi hx ⟨y4, y5, y6, rfl, fr7, hw7, hok7⟩
      rw [hln] at hi hx
      rw [List.getElem?_map] at hx
      obtain ⟨tj, htj, rfl⟩ := Option.map_eq_some_iff.mp hx
      obtain ⟨v, hv⟩ : ∃ v, t.enc[t.enc.length - 1 - i]? = some v := ⟨_, List.getElem?_eq_getElem (by omega)⟩
      obtain ⟨d, hd⟩ : ∃ d, (t.deps 0)[t.enc.length - 1 - i]? = some d := ⟨_, List.getElem?_eq_getElem (by rw [Tm.deps_len]; omega)⟩
      have htp := Z.tup _ tj v (.int (d : Int)) htj hv (by rw [List.getElem?_map, hd]; rfl)
      have ntj : tj ≠ pw := fun z => by rw [z, hw6] at htp; cases htp
      have htp7 := fr7 _ _ ntj htp
      have hb7 := fr7 _ _ npb hb6
      have hf7 := fr7 _ _ nbw hf6
      have ei : t.enc.length - i = t.enc.length - 1 - i + 1 := by omega
      have ei2 : t.enc.length - (i + 1) = t.enc.length - 1 - i := by omega
      rw [ei] at hw7 hok7
      rw [ei2]
      generalize t.enc.length - 1 - i = j at *
      have hlm := fo_lams t j
      have sl := sizeLine_eq
      walk_at "go"
      have stE : ∀ k, stk bs fs t k = ((fo t k).map fun p => shw bs fs p.2 p.1).reverse := fun _ => rfl
      have hpos := hlm
      obtain ⟨fl1, fl2⟩ := fo_le (t := t) (i := j + 1) (by omega)
      have go_on : ∀ (u : Tm) (r : List (Tm × Nat)), fo t j = (u, d) :: r → stk bs fs t j = (r.map fun p => shw bs fs p.2 p.1).reverse ++ [shw bs fs d u] := fun u r e => by
        rw [stE, e]; simp
      rcases fo_at hv hd with ⟨n, r, rfl, e1, e2⟩ | ⟨u, r, rfl, e1, e2⟩ | ⟨g, u, r, rfl, e1, e2⟩
      · have hdl : d ≤ bs.length := by
          have := hlm _ (by rw [e1]; exact List.mem_cons_self)
          simp only [Tm.lams] at this
          omega
        have st1 : stk bs fs t (j + 1) = (r.map fun p => shw bs fs p.2 p.1).reverse := by rw [stE, e2]
        rw [st1] at hw7
        rw [e2] at hok7
        rw [go_on _ _ e1, e1]
        walk_at "go"
        rw [e2] at fl1
        refine ⟨n, d, pb, b, bs, fs, rfl, hb7, hf7, hdl, fun hin => ?_, fun hno => x (fun z => hno (fo_ok z.2 j (.var n, d) (by rw [e1]; exact List.mem_cons_self))) H7 (t6.own fr7 hpw0 hw6)⟩
        walk_at "go"
        refine w_app hw7 (ly_lt (by simp; omega)) ?_
        refine ⟨_, _, _, rfl, fr7.own, by rw [upd_same]; simp [plcs], fun p hp => ?_⟩
        rcases List.mem_cons.mp hp with rfl | hp
        · exact hin
        · exact hok7 p hp
      · have hdl := hlm _ (by rw [e1]; exact List.mem_cons_self)
        simp only [Tm.lams] at hdl
        have st1 : stk bs fs t (j + 1) = (r.map fun p => shw bs fs p.2 p.1).reverse ++ [shw bs fs (d + 1) u] := by rw [stE, e2]; simp
        rw [st1] at hw7
        rw [e2] at hok7
        rw [go_on _ _ e1, e1]
        walk_at "go"
        rw [e2] at fl1 fl2
        have oku := hok7 _ List.mem_cons_self
        obtain ⟨c, r2, ec, hc⟩ := shw_head hbn hfn u (d + 1) (by omega) oku
        have hlen2 := shw_len hbn hfn u (d + 1) (by omega) oku
        have hsz : u.enc.length ≤ t.enc.length := fl2 _ List.mem_cons_self
        obtain ⟨_, _, _, _, _, hnl⟩ := nm_head (hbn.get (i := d) (by omega))
        have hw8 : H7 pw = some (.lst (plcs (r.map fun p => shw bs fs p.2 p.1).reverse ++ [V.str (pl (c :: r2))])) := by rw [hw7, ec]; simp [plcs]
        rw [ec] at hlen2
        rw [List.length_cons] at hlen2 fl1
        refine w_ixL (SqL.of hb7) (atI_nat (plcs_at (by omega))) ?_
        walk_at "go"
        refine ⟨bs.getD d [], c, r2, rfl, by omega, by omega, ?_⟩
        walk_at "go"
        refine w_app upd_same (ly_lt (by simp; omega)) ?_
        refine ⟨_, _, _, rfl, (fr7.own).own, ?_, fun p hp => ?_⟩
        · rw [upd_same, decB hc, ← ec]
          simp [plcs, shw]
        · rcases List.mem_cons.mp hp with rfl | hp
          · exact oku
          · exact hok7 p (List.mem_cons_of_mem _ hp)
      · have hdl := hlm _ (by rw [e1]; exact List.mem_cons_self)
        simp only [Tm.lams] at hdl
        have st1 : stk bs fs t (j + 1) = (r.map fun p => shw bs fs p.2 p.1).reverse ++ [shw bs fs d u] ++ [shw bs fs d g] := by rw [stE, e2]; simp
        rw [st1] at hw7
        rw [e2] at hok7
        rw [go_on _ _ e1, e1]
        walk_at "go"
        rw [e2] at fl1 fl2
        have okg := hok7 _ List.mem_cons_self
        have oku := hok7 (u, d) (List.mem_cons_of_mem _ List.mem_cons_self)
        obtain ⟨c, r2, ec, hc⟩ := shw_head hbn hfn g d (by omega) okg
        have hsp := shw_space hbn hfn u d (by omega) oku
        have hlen2 := shw_len hbn hfn g d (by omega) okg
        have hlen3 := shw_len hbn hfn u d (by omega) oku
        have hsz : g.enc.length ≤ t.enc.length := fl2 _ List.mem_cons_self
        have hsz2 : u.enc.length ≤ t.enc.length := fl2 (u, d) (List.mem_cons_of_mem _ List.mem_cons_self)
        have hw8 : H7 pw = some (.lst ((plcs (r.map fun p => shw bs fs p.2 p.1).reverse ++ [V.str (pl (shw bs fs d u))]) ++ [V.str (pl (c :: r2))])) := by rw [hw7, ec]; simp [plcs]
        rw [ec] at hlen2
        rw [List.length_cons] at hlen2 fl1
        rw [List.length_cons] at fl1
        refine w_popA hw8 ?_
        walk_at "go"
        refine ⟨c, r2, shw bs fs d u, rfl, by omega, by omega, ?_⟩
        walk_at "go"
        refine w_app upd_same (ly_lt (by simp; omega)) ?_
        refine ⟨_, _, _, rfl, ((fr7.own).own).own, ?_, fun p hp => ?_⟩
        · have hsv : decide (32 ∈ shw bs fs d u) = !u.isV := by
            rw [decB (b := !u.isV) (by rw [Bool.not_eq_true']; exact hsp.symm)]
          rw [upd_same, decB hc, ← ec, hsv]
          simp [plcs, shw]
        · rcases List.mem_cons.mp hp with rfl | hp
          · exact ⟨okg, oku⟩
          · exact hok7 p (List.mem_cons_of_mem _ (List.mem_cons_of_mem _ hp))
    · rintro σ H7 ⟨y4, y5, y6, rfl, fr7, hw7, hok7⟩
      rw [hln, Nat.sub_self] at hw7 hok7
      have hw7 : H7 pw = some (.lst (plcs [shw bs fs 0 t])) := hw7
      have okt : okF fs.length 0 t := hok7 (t, 0) (by simp [fo])
      walk_at "go"
      refine w_popA (xs := []) hw7 ?_
      exact q hok okt _ bs m (Tb.mut (t := ht) (t6.own fr7 hpw0 hw6) hpw0) hbs hbl hm
end
end Ly
set_option Elab.async false
set_option linter.all false
set_option maxRecDepth 100000
set_option maxHeartbeats 8000000
namespace Ly
open PySem PySem.Spec PyProof.Rows L2 Evl
local macro_rules | `(tactic| walk_at "ne") => `(tactic| first
  | assumption
  | ((refine' Ne.symm ?hq); (case hq => assumption))
  | ((refine' ne_of_none ?nh1 ?nh2); (case nh2 => assumption); (case nh1 => walk_at "hp"))
  | ((refine' Ne.symm (ne_of_none ?nh1 ?nh2)); (case nh2 => assumption); (case nh1 => walk_at "hp")))
local macro_rules | `(tactic| walk_at "hp") => `(tactic| first
  | assumption
  | exact upd_same
  | ((refine' SqL.of ?hq); (case hq => walk_at "hp"))
  | ((refine' SqT.of ?hq); (case hq => walk_at "hp"))
  | ((refine' (upd_ne ?hne).trans ?hrest); (case hne => walk_at "ne"); (case hrest => walk_at "hp"))
  | ((refine' ly_at ?hex ?hh); (case hex => assumption); (case hh => walk_at "hp"))
  | ((refine' ly_atF ?hex ?hnn ?hh); (case hex => assumption); (case hh => walk_at "hp"); (case hnn => walk_at "ne"))
  | ((refine' ex_t ?hex ?hh); (case hh => assumption); (case hex => walk_at "ex"))
  | ((refine' ex_l ?hex ?hh); (case hh => assumption); (case hex => walk_at "ex")))
local macro_rules | `(tactic| walk_at "ex") => `(tactic| first
  | assumption
  | exact Ex.refl _
  | ((refine' ex_new ?xa ?xb); (case xb => assumption); (case xa => walk_at "ex"))
  | ((refine' ex_upd ?xa ?xb); (case xb => walk_at "free"); (case xa => walk_at "ex"))
  | ((refine' Ex.trans ?xa ?xb); (case xb => assumption); (case xa => walk_at "ex")))
local macro_rules | `(tactic| walk_at "free") => `(tactic| first
  | assumption
  | ((refine' fresh_back ?xa ?xb); (case xb => assumption); (case xa => walk_at "ex")))
local macro_rules | `(tactic| walk_at "fr") => `(tactic| first
  | assumption
  | exact Fr.refl _ _
  | ((refine' Fr.own ?hq); (case hq => walk_at "fr"))
  | ((refine' Fr.new ?xa ?xb); (case xb => assumption); (case xa => walk_at "fr"))
  | ((refine' Fr.mut ?xa ?xb); (case xb => assumption); (case xa => walk_at "fr"))
  | ((refine' Fr.trans ?xa ?xb); (case xb => assumption); (case xa => walk_at "fr"))
  | ((refine' Fr.trans ?xa (Fr.ex ?xb)); (case xb => assumption); (case xa => walk_at "fr")))
local macro_rules | `(tactic| walk_at "go1") => `(tactic| first
  | (with_reducible refine' w_seq ?_)
  | (with_reducible refine' w_asg ?_)
  | (with_reducible refine' w_ret ?_)
  | (with_reducible refine' w_drop ?_)
  | (with_reducible refine' w_if ?_)
  | (with_reducible refine' w_next ?_)
  | (with_reducible refine' w_name ?_)
  | (with_reducible refine' w_sub ?_)
  | ((with_reducible refine' w_var ?hv ?_); (case hv => exact rfl))
  | (with_reducible refine' w_c ?_)
  | (with_reducible refine' w_op ?_)
  | (with_reducible refine' w_un ?_)
  | (with_reducible refine' w_ch ?_)
  | (with_reducible refine' w_I0 ?_)
  | ((with_reducible refine' w_I ?hc ?_); (case hc => first | (exact ly_mulL (by decide) (by decide)) | (exact ly_mulR (by decide) (by decide)) | (exact ly_mulL (by omega) (by omega)) | (show (_ : Int) ≠ 0; decide) | (show (_ : Int) ≠ 0; omega) | (exact ⟨by decide, by decide⟩) | (exact ⟨by omega, by omega⟩)))
  | (with_reducible refine' w_U ?_)
  | ((with_reducible refine' w_eq ?hs ?_); (case hs => exact rfl))
  | ((with_reducible refine' w_ne ?hs ?_); (case hs => exact rfl))
  | (with_reducible refine' w_isB ?_)
  | (with_reducible refine' w_notB ?_)
  | (with_reducible refine' w_nil ?_)
  | (with_reducible refine' w_cons ?_)
  | (with_reducible refine' w_tup ?_)
  | (with_reducible refine' w_lst ?_)
  | (with_reducible refine' w_cb ?_)
  | (with_reducible refine' w_call ?_)
  | (with_reducible refine' w_bm ?_)
  | (with_reducible refine' w_bm0 ?_)
  | ((with_reducible refine' w_app ?hh ?hz ?_); (case hh => walk_at "hp"); (case hz => first | exact ly_lt (by omega) | exact ly_lt (by simp only [List.length_append, List.length_map, List.length_cons, List.length_nil]; omega)))
  | ((with_reducible refine' w_popA ?hh ?_); (case hh => walk_at "hp"))
  | ((with_reducible refine' w_ext ?hh ?hh2 ?hz ?_); (case hh => walk_at "hp"); (case hh2 => walk_at "hp"))
  | ((with_reducible refine' w_ixL ?hh ?ha ?_); (case hh => walk_at "hp"); (case ha => first | exact rfl | exact at_map (by omega) | exact atI_last _ _ | ((refine' at_of ?ae ?ah); (case ah => assumption); (case ae => omega))))
  | ((with_reducible refine' w_ixT ?hh ?ha ?_); (case hh => walk_at "hp"); (case ha => first | exact rfl | exact at_map (by omega) | exact atI_last _ _ | ((refine' at_of ?ae ?ah); (case ah => assumption); (case ae => omega))))
  | ((with_reducible refine' w_cat ?hh ?hh2 ?hz ?_); (case hh => walk_at "hp"); (case hh2 => walk_at "hp"))
  | ((with_reducible refine' w_setL ?hh ?ha ?_); (case hh => walk_at "hp"); (case ha => exact rfl))
  | (with_reducible refine' w_test ?_)
  | (with_reducible refine' w_tB ?_)
  | (with_reducible refine' w_bl ?_)
  | (with_reducible refine' w_and ?_)
  | (with_reducible refine' w_or ?_)
  | (with_reducible refine' w_not ?_)
  | (with_reducible refine' w_andV ?_)
  | (with_reducible refine' w_orV ?_)
  | (with_reducible refine' w_notV ?_)
  | (with_reducible refine' w_ifE ?_)
  | (with_reducible refine' w_for ?_)
  | ((with_reducible refine' w_nin ?hh ?_); (case hh => walk_at "hp"))
  | ((with_reducible refine' w_sorted ?hh ?_); (case hh => walk_at "hp"))
  | (with_reducible refine' w_tsadd ?_)
  | ((with_reducible refine' w_tsadd1 ?hh ?_); (case hh => walk_at "hp"))
  | ((with_reducible refine' w_sadd ?hh ?hr ?_); (case hh => walk_at "hp"); (case hr => omega))
  | (with_reducible refine' w_iZ ?_)
  | ((with_reducible refine' w_iZ1 ?hh ?hh2 ?_); (case hh => walk_at "hp"); (case hh2 => walk_at "hp"))
  | (with_reducible refine' w_iS ?_)
  | (with_reducible refine' w_iS1 ?_)
  | ((with_reducible refine' w_gtup ?hh ?hn ?_); (case hh => walk_at "hp"); (case hn => exact rfl))
  | (with_reducible refine' w_gcons ?_)
  | (with_reducible refine' w_gnil ?_)
  | (with_reducible refine' w_js ?_)
  | (with_reducible refine' w_jsn ?_)
  | ((with_reducible refine' w_js1 ?hl ?_); (case hl => decide +kernel))
  | (with_reducible refine' w_fmt ?_)
  | ((with_reducible refine' w_fmt1 ?hl ?_); (case hl => decide +kernel))
  | (with_reducible refine' w_callS ?_)
  | ((with_reducible refine' w_truL ?hh ?_); (case hh => walk_at "hp"))
  | (with_reducible refine' w_lc ?_)
  | (with_reducible refine' w_yes ?_)
  | ((with_reducible refine' w_wipe ?he ?_); (case he => exact rfl))
  | (with_reducible refine' w_iL ?_)
  | (with_reducible refine' w_iT ?_)
  | (with_reducible refine' w_iR ?_)
  | ((with_reducible refine' w_iL1 ?hh ?_); (case hh => walk_at "hp"))
  | ((with_reducible refine' w_iT1 ?hh ?_); (case hh => walk_at "hp"))
  | ((with_reducible refine' w_iR1 ?h1 ?h2 ?_); (case h1 => omega); (case h2 => omega))
  | ((with_reducible refine' w_aug ?hv ?_); (case hv => exact rfl))
  | (with_reducible refine' w_ipI ?_)
  | ((with_reducible refine' w_isi ?hy ?hk ?_); (case hy => walk_at "ty"); (case hk => walk_at "kit"))
  | ((with_reducible refine' w_int ?_))
  | ((with_reducible refine' w_intB ?_))
  | ((with_reducible refine' w_abs ?_))
  | ((with_reducible refine' w_lenL ?hh ?_); (case hh => walk_at "hp"))
  | ((with_reducible refine' w_lenT ?hh ?_); (case hh => walk_at "hp"))
  | ((with_reducible refine' w_tupL ?hh ?_); (case hh => walk_at "hp"))
  | ((with_reducible refine' w_tupT ?hh ?_); (case hh => walk_at "hp"))
  | ((with_reducible refine' w_catA ?hh ?hh2 ?hz ?_); (case hh => walk_at "hp"); (case hh2 => walk_at "hp"); (case hz => walk_at "len"))
  | ((with_reducible refine' w_repB ?hh ?hne ?h2 ?h3 ?hz ?_); (case hh => walk_at "hp"); (case hne => simp); (case h2 => omega); (case h3 => omega); (case hz => exact Nat.le_of_ble_eq_true rfl))
  | ((with_reducible refine' w_eqN ?hh ?hh2 ?n1 ?n2 ?_); (case hh => walk_at "hp"); (case hh2 => walk_at "hp"); (case n1 => walk_at "nd"); (case n2 => walk_at "nd"))
  | ((with_reducible refine' w_neN ?hh ?hh2 ?n1 ?n2 ?_); (case hh => walk_at "hp"); (case hh2 => walk_at "hp"); (case n1 => walk_at "nd"); (case n2 => walk_at "nd"))
  | ((with_reducible refine' w_eqL ?hh ?hh2 ?n1 ?n2 ?_); (case hh => walk_at "hp"); (case hh2 => walk_at "hp"); (case n1 => walk_at "nd"); (case n2 => walk_at "nd"))
  | ((with_reducible refine' w_neL ?hh ?hh2 ?n1 ?n2 ?_); (case hh => walk_at "hp"); (case hh2 => walk_at "hp"); (case n1 => walk_at "nd"); (case n2 => walk_at "nd"))
  | ((with_reducible refine' w_neNon ?hh2 ?n2 ?_); (case hh2 => walk_at "hp"); (case n2 => walk_at "nd"))
  | ((with_reducible refine' w_eqNon ?hh2 ?n2 ?_); (case hh2 => walk_at "hp"); (case n2 => walk_at "nd"))
  | ((with_reducible refine' w_slA ?hh ?_); (case hh => walk_at "hp"))
  | ((with_reducible refine' w_disp ?hz ?_); (case hz => exact sz_of (Nat.le_of_ble_eq_true rfl)))
  | ((with_reducible refine' w_tyL ?hh ?_); (case hh => walk_at "hp"))
  | (with_reducible refine' iteT ?_)
  | (with_reducible refine' iteF ?_)
  | (with_reducible refine' w_nT ?_)
  | (with_reducible refine' w_nn ?_)
  | (with_reducible refine' w_nnT ?_)
  | (with_reducible refine' w_nnR ?_)
  | (with_reducible refine' w_neG ?_)
  | (with_reducible refine' w_eqG ?_)
  | (with_reducible refine' w_neS ?_)
  | (with_reducible refine' w_eqS ?_)
  | (with_reducible refine' w_neSb ?_)
  | (with_reducible refine' w_eqSb ?_)
  | (with_reducible refine' w_deIS ?_)
  | (with_reducible refine' w_deSI ?_)
  | (with_reducible refine' w_deISn ?_)
  | ((with_reducible refine' w_deST ?he ?_); (case he => decide +kernel))
  | ((with_reducible refine' w_deSF ?he ?_); (case he => decide +kernel))
  | ((with_reducible refine' w_deSTn ?he ?_); (case he => decide +kernel))
  | ((with_reducible refine' w_deSFn ?he ?_); (case he => decide +kernel))
  | (with_reducible refine' w_nF ?_)
  | dsimp only [Bool.not_true, Bool.not_false])
local macro_rules | `(tactic| walk_at "ty") => `(tactic| first
  | exact .base (.int _) | exact .base (.str _) | exact .base (.bl _) | exact .base .non
  | ((refine' tyx_t ?hq); (case hq => walk_at "hp")) | ((refine' tyx_l ?hq); (case hq => walk_at "hp")) | ((refine' .base (.tup ?hq)); (case hq => walk_at "hp")) | assumption)
local macro_rules | `(tactic| walk_at "go") => `(tactic| repeat walk_at "go1")
local macro_rules | `(tactic| walk_at "st") => `(tactic| try dsimp only [cxOf, Cx.nox, Cx.wish])
local macro_rules | `(tactic| walk_at "kit") => `(tactic| with_reducible first | exact kit_int_int | exact kit_int_str | exact kit_int_bool | exact kit_int_tuple | exact kit_int_list | exact kit_str_int | exact kit_str_str | exact kit_str_bool | exact kit_str_tuple | exact kit_str_list | exact kit_bool_int | exact kit_bool_str | exact kit_bool_bool | exact kit_bool_tuple | exact kit_bool_list | exact kit_NoneType_int | exact kit_NoneType_str | exact kit_NoneType_bool | exact kit_NoneType_tuple | exact kit_NoneType_list | exact kit_list_int | exact kit_list_str | exact kit_list_bool | exact kit_list_tuple | exact kit_list_list | exact kit_tuple_int | exact kit_tuple_str | exact kit_tuple_bool | exact kit_tuple_tuple | exact kit_tuple_list)
local macro_rules | `(tactic| walk_at "nd") => `(tactic| first
  | assumption
  | exact Tm.nds _
  | exact Nds.nil
  | exact Nds.ofInts _
  | ((refine' Nds.cons ?na ?nb); (case na => first | exact Nds.I _ | exact Nds.L | exact Nds.A); (case nb => walk_at "nd"))
  | ((refine' Nds.app ?na ?nb); (case na => walk_at "nd"); (case nb => walk_at "nd"))
  | ((refine' Nds.rep ?na _); (case na => walk_at "nd")))
local macro_rules | `(tactic| walk_at "len") => `(tactic| first
  | exact ly_sz (by omega)
  | ((simp only [List.length_append, List.length_cons, List.length_nil, List.length_map, PyProof.Rows.lm_len_rep_flat]); exact ly_sz (by omega)))
local macro_rules | `(tactic| walk_at "go1") => `(tactic| first
  | (with_reducible refine' w_kget2 ?_)
  | (with_reducible refine' w_isRN ?_)
  | (with_reducible refine' w_isNN ?_)
  | (with_reducible refine' w_isIN ?_)
  | ((with_reducible refine' w_kg ?hd ?_); (case hd => assumption)))
local macro_rules | `(tactic| walk_at "go1") => `(tactic| first
  | ((with_reducible refine' w_extT ?hh ?hh2 ?hz ?_); (case hh => walk_at "hp"); (case hh2 => walk_at "hp"))
  | ((with_reducible refine' w_I ?hc ?_); (case hc => exact ⟨by decide, by decide, by decide⟩))
  | (with_reducible refine' w_sl ?_)
  | (with_reducible refine' w_noP ?_)
  | (with_reducible refine' w_part ?_)
  | (with_reducible refine' w_part1 ?_)
  | (with_reducible refine' w_it ?_)
  | (with_reducible refine' w_it1 ?_)
  | ((with_reducible refine' w_lenZ ?hz ?_); (case hz => omega))
  | ((with_reducible refine' w_addZb ?hz ?_); (case hz => omega))
  | ((with_reducible refine' w_addZf ?hz ?_); (case hz => omega))
  | ((with_reducible refine' w_addZa ?hz ?_); (case hz => omega))
  | ((with_reducible refine' w_inS ?hh ?_); (case hh => walk_at "hp"))
  | ((with_reducible refine' w_ixT ?hh ?ha ?_); (case hh => assumption); (case ha => exact atI_nat (by assumption))))
local macro_rules | `(tactic| walk_at "go1") => `(tactic| first
  | (with_reducible refine' w_iR2 ?_)
  | ((with_reducible refine' w_iR21 ?h1 ?h2 ?h3 ?h4 ?_); (case h1 => omega); (case h2 => omega); (case h3 => omega); (case h4 => omega))
  | (with_reducible refine' w_nnI ?_)
  | (with_reducible refine' w_max ?_)
  | (with_reducible refine' w_break ?_)
  | (with_reducible refine' w_cont ?_))
local macro_rules | `(tactic| walk_at "hp") => `(tactic| first
  | ((refine' SqX.t ?hq); (case hq => assumption)))
local macro_rules | `(tactic| walk_at "go1") => `(tactic| first
  | (with_reducible refine' w_tupD ?_)
  | ((with_reducible refine' w_catF ?hh ?hh2 ?nx ?ny ?hz ?_); (case hh => walk_at "hp"); (case hh2 => walk_at "hp"); (case nx => first | (simp; done) | exact ne_flat (by assumption) | exact Tm.enc_ne _); (case ny => first | exact Tm.enc_ne _ | (simp; done)); (case hz => walk_at "len")))
section
variable {P : Program} {w : World} {K : PySem.W.Frag} {mg : Str → Option Value} {base : Heap} {tk : Nat → Tok} {cl : Nat → Addr}
theorem w_addZp {p q : List Nat} {H : Hp} {Q : VK} (z : p.length ≤ 400000) (z2 : q.length ≤ 400000) (h : Q (.str (pl (p ++ q))) H) : rAddZ (.str (pl p)) (.str (pl q)) H Q :=
  ⟨pl p, pl q, rfl, rfl, by rw [pl_len, pl_len]; exact ly_sz (by omega), by rw [pl_app]; exact h⟩
theorem pl_digit : ∀ d : Nat, d < 10 → Str.ofString (toString (d : Int)) = pl [48 + d] ∧ isDig (48 + d) = true ∧ ((d : Int).natAbs.log2 < 1920) := by decide +kernel
theorem pl_letters : ("abcdefghijklmnopqrstuvwxyz" : Str) = pl (List.range' 97 26) := by decide +kernel
theorem pl_abxy : ("abxy" : Str) = pl [97, 98, 120, 121] := by decide +kernel
theorem pl_space : (" " : Str) = pl [32] := by decide +kernel
theorem get_letters : ∀ c, c < 26 → (List.range' 97 26)[c]? = some (97 + c) := by decide
theorem get_abxy : ∀ c, c < 4 → ∃ x, [97, 98, 120, 121][c]? = some x ∧ isLow x = true := by decide
theorem low_letters : ∀ c, c < 26 → isLow (97 + c) = true := by decide

def spDName : Sp := fun vs H Q _ => ∃ (s : Addr) (m : Stm), vs = [.ref s] ∧ StAt H s m ∧ ∀ H' m' w, Fr s H H' → StAt H' s m' → Fol m m' → IsNm w → Q (.str (pl w)) H'
theorem ok_dname {f : Addr} {fd : FuncData} (F : Fun K "_law_drawn_name" "_law_drawn_name" s_law_drawn_name f fd) (T : Txt w K mg tk cl)
    (D1 : Def P w K mg base CX0 1 "_law_draw" ["stream", "many"] spDraw) : FnOk P w K mg base CX0 2 f fd ["stream"] spDName := by
  obtain ⟨f1, fd1, g_law_draw, kp_law_draw, b_law_draw, G_law_draw⟩ := D1
  refine F.ok sc_law_drawn_name (fun vs H Q E h => ?_) (fun cdv A outer s H vs Q E hr h => ?_)
  · obtain ⟨s1, m, rfl, _⟩ := h
    rfl
  · obtain ⟨s1, m, rfl, st, q⟩ := h
    refine ⟨_, (pss_cons (ps_set (i := 1) sc_law_drawn_name.nd rfl (.inl rfl) (pe_ix ix_str pe_str (pe_call G_law_draw (hr.mono (by first | decide | omega)) (by rfl) g_law_draw kp_law_draw b_law_draw .nil pass0 (pa_cons (pv 0) (pa_cons pe_int pa_nil))) (fun _ _ => rfl))) (pss_cut (ps_if (pt_cmpR op_gt (pe_call G_law_draw (hr.mono (by first | decide | omega)) (by rfl) g_law_draw kp_law_draw b_law_draw .nil pass0 (pa_cons (pv 0) (pa_cons pe_int pa_nil))) pe_int (nomark _)) (pss_one (ps_set (i := 1) sc_law_drawn_name.nd rfl (.inl rfl) (pe_ix ix_str pe_str (pe_call G_law_draw (hr.mono (by first | decide | omega)) (by rfl) g_law_draw kp_law_draw b_law_draw .nil pass0 (pa_cons (pv 0) (pa_cons pe_int pa_nil))) (fun _ _ => rfl)))) pss_nil) (pss_cons (ps_for PassesOwn.never rfl (pi_range1 (by rfl) T.n_range (pa_cons (pe_op op_add (pe_op op_fdivN (pe_call G_law_draw (hr.mono (by first | decide | omega)) (by rfl) g_law_draw kp_law_draw b_law_draw .nil pass0 (pa_cons (pv 0) (pa_cons pe_int pa_nil))) pe_int) (pe_op op_mul pe_int (pe_callTy call_int1 (by rfl) T.n_int (by decide +kernel) (pa_cons (pe_cmpR op_eq (pe_call G_law_draw (hr.mono (by first | decide | omega)) (by rfl) g_law_draw kp_law_draw b_law_draw .nil pass0 (pa_cons (pv 0) (pa_cons pe_int pa_nil))) pe_int (nomark _)) pa_nil)))) pa_nil)) (pg_name (i := 2) sc_law_drawn_name.nd rfl (.inl rfl)) (pss_one (ps_set (i := 1) sc_law_drawn_name.nd rfl (.inl rfl) (pe_op op_addZ (pv 1) (pe_callTy call_str_int (by rfl) T.n_str (by decide +kernel) (pa_cons (pe_call G_law_draw (hr.mono (by first | decide | omega)) (by rfl) g_law_draw kp_law_draw b_law_draw .nil pass0 (pa_cons (pv 0) (pa_cons pe_int pa_nil))) pa_nil)))))) (pss_one (ps_ret (pv 1)))))), ?_⟩
    refine sl_of (σ2 := [some _, none, none]) rfl ?_
    walk_at "st"
    walk_at "go"
    refine ⟨s1, m, 26, rfl, st, by decide, by decide, fun H2 fr2 st2 => ?_⟩
    have v2 := m.val_lt (n := 26) (by decide)
    have fol2 := Fol.next m 26
    generalize m.val 26 = n2 at *
    generalize m.next 26 = m2 at *
    obtain ⟨c, rfl⟩ : ∃ k : Nat, n2 = (k : Int) := ⟨n2.toNat, (Int.toNat_of_nonneg v2.1).symm⟩
    have hc := get_letters c (by omega)
    have hcl := low_letters c (by omega)
    rw [pl_letters]
    refine w_ixSt (by simp) (atI_nat hc) ?_
    generalize 97 + c = c at *
    walk_at "go"
    refine w_cut (M := fun σ' H' => ∃ m' c', σ' = [some (.ref s1), some (.str (pl [c'])), none] ∧ isLow c' = true ∧ Fr s1 H H' ∧ StAt H' s1 m' ∧ Fol m m') ?_ ?_
    · walk_at "go"
      refine ⟨s1, m2, 3, rfl, st2, by decide, by decide, fun H3 fr3 st3 => ?_⟩
      have fol3 := fol2.trans (Fol.next m2 3)
      generalize m2.val 3 = n3 at *
      generalize m2.next 3 = m3 at *
      walk_at "go"
      refine w_br (fun c1 => ?_) (fun c1 => ?_)
      · walk_at "go"
        refine ⟨s1, m3, 4, rfl, st3, by decide, by decide, fun H4 fr4 st4 => ?_⟩
        have v4 := m3.val_lt (n := 4) (by decide)
        have fol4 := fol3.trans (Fol.next m3 4)
        generalize m3.val 4 = n4 at *
        generalize m3.next 4 = m4 at *
        obtain ⟨d, rfl⟩ : ∃ k : Nat, n4 = (k : Int) := ⟨n4.toNat, (Int.toNat_of_nonneg v4.1).symm⟩
        obtain ⟨x, hx, hxl⟩ := get_abxy d (by omega)
        rw [pl_abxy]
        refine w_ixSt (by simp) (atI_nat hx) ?_
        walk_at "go"
        exact ⟨m4, x, rfl, hxl, (fr2.trans fr3).trans fr4, st4, fol4⟩
      · walk_at "go"
        exact ⟨m3, c, rfl, hcl, fr2.trans fr3, st3, fol3⟩
    · rintro σ' H3 ⟨m3, c3, rfl, hcl3, fr3, st3, fol3⟩
      clear fr2 st2 fol2 hcl hc
      walk_at "go"
      refine ⟨s1, m3, 5, rfl, st3, by decide, by decide, fun H4 fr4 st4 => ?_⟩
      have v4 := m3.val_lt (n := 5) (by decide)
      have fol4 := fol3.trans (Fol.next m3 5)
      generalize m3.val 5 = n4 at *
      generalize m3.next 5 = m4 at *
      walk_at "go"
      refine ⟨s1, m4, 12, rfl, st4, by decide, by decide, fun H5 fr5 st5 => ?_⟩
      have fol5 := fol4.trans (Fol.next m4 12)
      generalize m4.val 12 = n5 at *
      generalize m4.next 12 = m5 at *
      have h2 : 0 ≤ n4.fdiv 2 ∧ n4.fdiv 2 ≤ 2 := by
        rcases (by omega : n4 = 0 ∨ n4 = 1 ∨ n4 = 2 ∨ n4 = 3 ∨ n4 = 4) with rfl | rfl | rfl | rfl | rfl <;> decide
      generalize n4.fdiv 2 = a at *
      walk_at "go"
      have h3 : 0 ≤ (if decide (V.int n5 = V.int 0) = true then (1 : Int) else 0) ∧ (if decide (V.int n5 = V.int 0) = true then (1 : Int) else 0) ≤ 1 := by split <;> decide
      generalize (if decide (V.int n5 = V.int 0) = true then (1 : Int) else 0) = b at *
      refine for_range (lo := 0) (n := (a + 4 * b).toNat) (fun i σ H' => ∃ m' ds y, σ = [some (.ref s1), some (.str (pl (c3 :: ds))), y] ∧ Fr s1 H H' ∧ StAt H' s1 m' ∧ Fol m m' ∧ ds.all isDig = true ∧ ds.length = i)
        ⟨m5, [], none, rfl, (fr3.trans fr4).trans fr5, st5, fol5, rfl, rfl⟩ ?_ ?_
      · rintro i σ H6 hi ⟨m6, ds, y, rfl, fr6, st6, fol6, hds, hdl⟩
        have hi6 : i < 6 := by omega
        walk_at "go"
        refine ⟨s1, m6, 10, rfl, st6, by decide, by decide, fun H7 fr7 st7 => ?_⟩
        have v7 := m6.val_lt (n := 10) (by decide)
        have fol7 := fol6.trans (Fol.next m6 10)
        generalize m6.val 10 = n7 at *
        generalize m6.next 10 = m7 at *
        obtain ⟨d, rfl⟩ : ∃ k : Nat, n7 = (k : Int) := ⟨n7.toNat, (Int.toNat_of_nonneg v7.1).symm⟩
        walk_at "go"
        obtain ⟨ed, edd, edl⟩ := pl_digit d (by omega)
        refine ⟨edl, ?_⟩
        rw [ed]
        refine w_addZp (by simp; omega) (by simp) ?_
        walk_at "go"
        exact ⟨m7, ds ++ [48 + d], _, rfl, fr6.trans fr7, st7, fol7, by rw [List.all_append, hds]; simp [edd], by rw [List.length_append, hdl]; rfl⟩
      · rintro σ H6 ⟨m6, ds, y, rfl, fr6, st6, fol6, hds, hdl⟩
        walk_at "go"
        refine q H6 m6 (c3 :: ds) fr6 st6 fol6 ⟨⟨c3, ds, rfl, hcl3, hds, by omega⟩⟩
theorem w_ixfirst {K : PySem.W.Frag} {H : Hp} {Q : VK} {p : Addr} {r : List Nat} {qs : List (List Nat)} (h : H p = some (.lst (plcs qs))) (hm : r ∈ qs) (q : Q (.int (qs.idxOf r : Nat)) H) : rIndex K (.ref p) [.str (pl r)] H Q := by
  have hlt := List.idxOf_lt_length_of_mem hm
  have hg : qs[qs.idxOf r]? = some r := by
    rw [List.getElem?_eq_getElem hlt, List.getElem_idxOf hlt]
  refine ⟨p, _, _, qs.idxOf r, .str (pl r), rfl, rfl, SqL.of h, rfl, flat_pl qs, by rw [List.getElem?_map, hg]; rfl, beq_self_eq_true (pl r), fun m z hmm hz => ?_, q⟩
  rw [List.getElem?_map] at hz
  cases e : qs[m]? with
  | none => rw [e] at hz; cases hz
  | some r2 =>
    rw [e] at hz
    cases hz
    show (pl r2 == pl r) = false
    refine beq_eq_false_iff_ne.mpr fun e2 => ?_
    have e3 := pl_inj e2
    subst e3
    have h2 := List.not_of_lt_findIdx (p := (· == r2)) (xs := qs) hmm
    obtain ⟨hl, hq⟩ := List.getElem?_eq_some_iff.mp e
    simp [hq] at h2
theorem idx_map (r : List Nat) : ∀ qs : List (List Nat), (qs.map pl).idxOf (pl r) = qs.idxOf r
  | [] => rfl
  | q :: qs => by
    have ih := idx_map r qs
    rw [List.map_cons, List.idxOf_cons, List.idxOf_cons, ih]
    by_cases h : q = r
    · rw [h, beq_self_eq_true, beq_self_eq_true]
    · rw [beq_eq_false_iff_ne.mpr h, beq_eq_false_iff_ne.mpr (fun e => h (pl_inj e))]
theorem mem_map_pl {r : List Nat} {qs : List (List Nat)} : pl r ∈ qs.map pl ↔ r ∈ qs := by
  constructor
  · intro h
    obtain ⟨x, hx, e⟩ := List.mem_map.mp h
    rw [← pl_inj e]
    exact hx
  · exact fun h => List.mem_map_of_mem h
theorem nmOf_eq (fs sc : List (List Nat)) (w : List Nat) : nmOf fs sc w = if w ∈ sc then some (sc.reverse.idxOf w) else if w ∈ fs then some (sc.length + fs.idxOf w) else none := by
  unfold nmOf numOf
  rw [← List.map_reverse, idx_map, idx_map, List.length_map]
  by_cases h : w ∈ sc
  · rw [if_pos h, if_pos (mem_map_pl.mpr h)]
  · rw [if_neg h, if_neg (fun z => h (mem_map_pl.mp z))]
    by_cases h2 : w ∈ fs
    · rw [if_pos h2, if_pos (mem_map_pl.mpr h2)]
    · rw [if_neg h2, if_neg (fun z => h2 (mem_map_pl.mp z))]
theorem pl_off {H : Hp} {s p : Addr} {m : Stm} {ws : List (List Nat)} (st : StAt H s m) (h : H p = some (.lst (plcs ws))) : p ≠ s := fun z => by
  rw [z, st.2.1] at h
  have h2 := Option.some.inj h
  have h3 := HO.lst.inj h2
  match ws, h3 with
  | _ :: _, h3 => simp [plcs] at h3
def spScn : Sp := fun vs H Q _ => ∃ (a b : Addr) (sc fs : List (List Nat)), vs = [.ref a, .ref b] ∧ H a = some (.lst (plcs sc)) ∧ H b = some (.lst (plcs fs)) ∧ sc.length ≤ 1000 ∧ fs.length ≤ 1000 ∧
  ∀ H' p kn, Ex H H' → H' p = some (.lst (plcs kn)) → (∀ w ∈ kn, w ∈ sc ∨ w ∈ fs) → (kn = [] → sc = [] ∧ fs = []) → kn.length ≤ 2000 → Q (.ref p) H'
theorem ok_scn {f : Addr} {fd : FuncData} {k : Nat} (F : Fun K "_law_scope_names" "_law_scope_names" s_law_scope_names f fd) (T : Txt w K mg tk cl) : FnOk P w K mg base CX0 (k + 1) f fd ["scope", "names"] spScn := by
  refine F.ok sc_law_scope_names (fun vs H Q E h => ?_) (fun cdv A outer s H vs Q E hr h => ?_)
  · obtain ⟨a, b, sc, fs, rfl, _⟩ := h
    rfl
  · obtain ⟨a, b, sc, fs, rfl, ha, hb, ls, lf, q⟩ := h
    refine ⟨_, (pss_cons (ps_set (i := 2) sc_law_scope_names.nd rfl (.inl rfl) (pe_lst pa_nil)) (pss_cons (ps_for PassesOwn.never rfl (pi_list (pe_op op_cat (pv 0) (pv 1))) (pg_name (i := 3) sc_law_scope_names.nd rfl (.inl rfl)) (pss_one (ps_if (pt_cmpR op_notIn_seq (pv 3) (pv 2) (by rfl)) (pss_one (ps_expr (pe_bm PySem.F.plainAttrs_list PySem.F.slot_list_append PySem.F.type_list_append mt_append (pv 2) (pa_cons (pv 3) pa_nil)))) pss_nil))) (pss_one (ps_ret (pv 2))))), ?_⟩
    refine sl_of (σ2 := [some _, some _, none, none]) rfl ?_
    walk_at "st"
    walk_at "go"
    intro fl hfl
    have e0 := Ex.new hfl (o := .lst (plcs []))
    have hf0 : upd H fl (.lst (plcs [])) fl = some (.lst (plcs [])) := upd_same
    rw [show (HO.lst ([] : List V)) = .lst (plcs []) from rfl]
    have ha := e0 _ _ ha
    have hb := e0 _ _ hb
    generalize upd H fl (.lst (plcs [])) = H1 at *
    have l1 : (plcs sc).length = sc.length := List.length_map _
    have l2 : (plcs fs).length = fs.length := List.length_map _
    walk_at "go"
    · exact ly_sz (by omega)
    intro pc hpc
    have e1 := Ex.new hpc (o := .lst (plcs sc ++ plcs fs))
    have hc1 : upd H1 pc (.lst (plcs sc ++ plcs fs)) pc = some (.lst (plcs (sc ++ fs))) := by rw [upd_same]; simp [plcs]
    have e01 := e0.trans e1
    have hf1 := e1 _ _ hf0
    have ncf : pc ≠ fl := (ne_of_none hf0 hpc).symm
    generalize upd H1 pc (.lst (plcs sc ++ plcs fs)) = H2 at *
    refine ⟨pc, rfl, ⟨_, SqL.of hc1⟩, ?_⟩
    refine for_list (K := K) (a := pc) (xs := plcs (sc ++ fs)) (fun i σ H' => ∃ kn y, σ = [some (.ref a), some (.ref b), some (.ref fl), y] ∧ Ex H H' ∧ H' pc = some (.lst (plcs (sc ++ fs))) ∧ H' fl = some (.lst (plcs kn)) ∧ (∀ w ∈ kn, w ∈ sc ++ fs) ∧ (kn = [] → i = 0) ∧ kn.length ≤ i)
      ⟨[], none, rfl, e01, hc1, hf1, by simp, fun _ => rfl, Nat.le_refl 0⟩ (fun i σ H' _ ⟨_, _, _, _, h, _⟩ => SqL.of h) ?_ ?_
    · rintro i z σ H3 hi ⟨kn, y, rfl, e3, hc3, hf3, hk, hk0, hkl⟩
      rw [List.getElem?_map] at hi
      obtain ⟨w, hw, rfl⟩ := Option.map_eq_some_iff.mp hi
      have hil := (List.getElem?_eq_some_iff.mp hw).1
      rw [List.length_append] at hil
      walk_at "go"
      refine w_ninS hf3 ?_
      walk_at "go"
      by_cases hm : w ∈ kn
      · rw [decide_eq_true hm]
        walk_at "go"
        refine ⟨kn, _, rfl, e3, hc3, hf3, hk, fun z => ?_, by omega⟩
        rw [z] at hm
        cases hm
      · rw [decide_eq_false hm]
        walk_at "go"
        refine ⟨kn ++ [w], _, rfl, e3.mut hfl, by rw [upd_ne ncf]; exact hc3, by rw [upd_same]; simp [plcs], ?_, fun z => by simp at z, by rw [List.length_append, List.length_singleton]; omega⟩
        intro v hv
        rcases List.mem_append.mp hv with h | h
        · exact hk v h
        · rw [List.mem_singleton.mp h]
          exact List.mem_of_getElem? hw
    · rintro σ H3 ⟨kn, y, rfl, e3, hc3, hf3, hk, hk0, hkl⟩
      have hl : (plcs (sc ++ fs)).length = sc.length + fs.length := by simp
      rw [hl] at hk0 hkl
      walk_at "go"
      refine q H3 fl kn e3 hf3 (fun w hw => List.mem_append.mp (hk w hw)) (fun z => ?_) (by omega)
      have := hk0 z
      exact ⟨List.length_eq_zero_iff.mp (by omega), List.length_eq_zero_iff.mp (by omega)⟩
def spUse (K : PySem.W.Frag) : Sp := fun vs H Q _ => ∃ (w : List Nat) (a b : Addr) (sc fs : List (List Nat)), vs = [.str (pl w), .ref a, .ref b] ∧ H a = some (.lst (plcs sc)) ∧ H b = some (.lst (plcs fs)) ∧ sc.length ≤ 1000 ∧ fs.length ≤ 1000 ∧ (w ∈ sc ∨ w ∈ fs) ∧
  ∀ k, nmOf fs sc w = some k → ∀ H' p, Ex H H' → SqX H' p [.int (k : Int)] → Q (.ref p) H'
theorem ok_use {f : Addr} {fd : FuncData} {k : Nat} (F : Fun K "_law_use" "_law_use" s_law_use f fd) (T : Txt w K mg tk cl) : FnOk P w K mg base CX0 (k + 1) f fd ["name", "scope", "names"] (spUse K) := by
  refine F.ok sc_law_use (fun vs H Q E h => ?_) (fun cdv A outer s H vs Q E hr h => ?_)
  · obtain ⟨w, a, b, sc, fs, rfl, _⟩ := h
    rfl
  · obtain ⟨w, a, b, sc, fs, rfl, ha, hb, ls, lf, hwm, q⟩ := h
    refine ⟨_, (pss_cons (ps_for PassesOwn.never rfl (pi_range1 (by rfl) T.n_range (pa_cons (pe_callB call_len_seq (by rfl) T.n_len (by decide +kernel) (pa_cons (pv 1) pa_nil)) pa_nil)) (pg_name (i := 3) sc_law_use.nd rfl (.inl rfl)) (pss_one (ps_if (pt_cmpR op_eq (pe_ix ix_list (pv 1) (pe_op op_sub (pe_op op_sub (pe_callB call_len_seq (by rfl) T.n_len (by decide +kernel) (pa_cons (pv 1) pa_nil)) pe_int) (pv 3)) (fun _ _ => rfl)) (pv 0) (nomark _)) (pss_one (ps_ret (pe_tupF (pa_cons (pv 3) pa_nil)))) pss_nil))) (pss_one (ps_ret (pe_tupF (pa_cons (pe_op op_add (pe_callB call_len_seq (by rfl) T.n_len (by decide +kernel) (pa_cons (pv 1) pa_nil)) (pe_bm PySem.F.plainAttrs_list PySem.F.slot_list_index PySem.F.type_list_index mt_index (pv 2) (pa_cons (pv 0) pa_nil))) pa_nil))))), ?_⟩
    refine sl_of (σ2 := [some _, some _, some _, none]) rfl ?_
    have l1 : (plcs sc).length = sc.length := List.length_map _
    rw [nmOf_eq] at q
    walk_at "st"
    walk_at "go"
    refine for_range (lo := 0) (n := ((plcs sc).length : Int).toNat) (fun i σ H' => H' = H ∧ ∃ y, σ = [some (.str (pl w)), some (.ref a), some (.ref b), y] ∧ ∀ j, j < i → sc.reverse[j]? ≠ some w)
      ⟨rfl, none, rfl, fun j h => absurd h (Nat.not_lt_zero j)⟩ ?_ ?_
    · rintro i σ H3 hi ⟨rfl, y, rfl, hno⟩
      walk_at "go"
      have hil : i < sc.length := by omega
      obtain ⟨v, hv⟩ : ∃ v, sc.reverse[i]? = some v := ⟨_, List.getElem?_eq_getElem (by rw [List.length_reverse]; exact hil)⟩
      have hv2 : sc[sc.length - 1 - i]? = some v := by rw [← hv, List.getElem?_reverse hil]
      have ix : atI (plcs sc) (((plcs sc).length : Int) - 1 - (0 + (i : Int))) = some (.str (pl v)) := by
        rw [l1, show ((sc.length : Nat) : Int) - 1 - (0 + (i : Int)) = ((sc.length - 1 - i : Nat) : Int) by omega]
        exact atI_nat (by rw [List.getElem?_map, hv2]; rfl)
      refine w_ixL (SqL.of ha) ix ?_
      walk_at "go"
      by_cases e : v = w
      · subst e
        rw [decide_eq_true rfl]
        walk_at "go"
        refine ⟨ly_sz (by simp), fun p ob hp hc1 hd1 => ?_⟩
        have hm : v ∈ sc := List.mem_reverse.mp (List.mem_of_getElem? hv)
        rw [if_pos hm] at q
        have e1 : sc.reverse.idxOf v = i := by
          have hlt := List.idxOf_lt_length_of_mem (List.mem_reverse.mpr hm)
          have hg : sc.reverse[sc.reverse.idxOf v]? = some v := by rw [List.getElem?_eq_getElem hlt, List.getElem_idxOf hlt]
          rcases Nat.lt_trichotomy (sc.reverse.idxOf v) i with h | h | h
          · exact absurd hg (hno _ h)
          · exact h
          · have h2 := List.not_of_lt_findIdx (p := (· == v)) (xs := sc.reverse) h
            obtain ⟨hl, hq⟩ := List.getElem?_eq_some_iff.mp hv
            simp [hq] at h2
        rw [e1] at q
        refine q i rfl _ p (Ex.new hp) ⟨ob, ?_, hc1, hd1⟩
        rw [show (0 : Int) + (i : Int) = (i : Int) by omega]
        exact upd_same
      · rw [decide_eq_false (fun z => e (pl_inj (V.str.inj z)))]
        walk_at "go"
        refine ⟨rfl, _, rfl, fun j hj => ?_⟩
        rcases Nat.lt_succ_iff_lt_or_eq.mp hj with h | rfl
        · exact hno j h
        · rw [hv]
          exact fun z => e (Option.some.inj z)
    · rintro σ H3 ⟨rfl, y, rfl, hno⟩
      have hns : w ∉ sc := fun h => by
        obtain ⟨j, hj⟩ := List.getElem?_of_mem (List.mem_reverse.mpr h)
        have hjl := (List.getElem?_eq_some_iff.mp hj).1
        rw [List.length_reverse] at hjl
        exact hno j (by omega) hj
      have hm : w ∈ fs := hwm.resolve_left hns
      rw [if_neg hns, if_pos hm] at q
      have hlt := List.idxOf_lt_length_of_mem hm
      walk_at "go"
      refine w_ixfirst hb hm ?_
      walk_at "go"
      refine ⟨ly_sz (by simp), fun p ob hp hc1 hd1 => ?_⟩
      refine q _ rfl _ p (Ex.new hp) ⟨ob, ?_, hc1, hd1⟩
      rw [l1, show ((sc.length : Nat) : Int) + ((fs.idxOf w : Nat) : Int) = ((sc.length + fs.idxOf w : Nat) : Int) by omega]
      exact upd_same
def spWrap : Sp := fun vs H Q _ => ∃ (a : Addr) (ws : List (List Nat)), vs = [.ref a] ∧ H a = some (.lst (plcs ws)) ∧ ws.length ≤ 100000 ∧ ∀ H' p, Ex H H' → H' p = some (.lst (plcs (wrapW ws))) → Q (.ref p) H'
theorem ok_wrap {f : Addr} {fd : FuncData} {k : Nat} (F : Fun K "_law_wrapped" "_law_wrapped" s_law_wrapped f fd) (T : Txt w K mg tk cl) : FnOk P w K mg base CX0 (k + 1) f fd ["words"] spWrap := by
  refine F.ok sc_law_wrapped (fun vs H Q E h => ?_) (fun cdv A outer s H vs Q E hr h => ?_)
  · obtain ⟨a, ws, rfl, _⟩ := h
    rfl
  · obtain ⟨a, ws, rfl, ha, hl, q⟩ := h
    refine ⟨_, (pss_one (ps_ret (pe_op op_cat (pe_op op_cat (pe_lst (pa_cons pe_str pa_nil)) (pv 0)) (pe_lst (pa_cons pe_str pa_nil))))), ?_⟩
    refine sl_of (σ2 := [some _]) rfl ?_
    have l1 : (plcs ws).length = ws.length := List.length_map _
    walk_at "st"
    walk_at "go"
    intro p1 hp1
    have e1 := Ex.new hp1 (o := .lst (plcs [[40]]))
    have h1 : upd H p1 (.lst (plcs [[40]])) p1 = some (.lst (plcs [[40]])) := upd_same
    rw [show (HO.lst [V.str "("]) = .lst (plcs [[40]]) by rw [plcs, List.map_cons, List.map_nil, pl_lp]]
    have ha1 := e1 _ _ ha
    generalize upd H p1 (.lst (plcs [[40]])) = H1 at *
    walk_at "go"
    · exact ly_sz (by simp; omega)
    intro p2 hp2
    have e2 := Ex.new hp2 (o := .lst (plcs [[40]] ++ plcs ws))
    have h2 : upd H1 p2 (.lst (plcs [[40]] ++ plcs ws)) p2 = some (.lst (plcs [[40]] ++ plcs ws)) := upd_same
    generalize upd H1 p2 (.lst (plcs [[40]] ++ plcs ws)) = H2 at *
    walk_at "go"
    intro p3 hp3
    have e3 := Ex.new hp3 (o := .lst (plcs [[41]]))
    have h3 : upd H2 p3 (.lst (plcs [[41]])) p3 = some (.lst (plcs [[41]])) := upd_same
    rw [show (HO.lst [V.str ")"]) = .lst (plcs [[41]]) by rw [plcs, List.map_cons, List.map_nil, pl_rp]]
    have h2 := e3 _ _ h2
    generalize upd H2 p3 (.lst (plcs [[41]])) = H3 at *
    refine w_cat h2 h3 (ly_sz (by simp; omega)) fun p4 hp4 => ?_
    refine q _ p4 (((e1.trans e2).trans e3).trans (Ex.new hp4)) ?_
    rw [upd_same]
    simp [plcs, wrapW]
end
end Ly
set_option Elab.async false
set_option linter.all false
set_option maxRecDepth 100000
set_option maxHeartbeats 8000000
namespace Ly
open PySem PySem.Spec PyProof.Rows L2 Evl
local macro_rules | `(tactic| walk_at "ne") => `(tactic| first
  | assumption
  | ((refine' Ne.symm ?hq); (case hq => assumption))
  | ((refine' ne_of_none ?nh1 ?nh2); (case nh2 => assumption); (case nh1 => walk_at "hp"))
  | ((refine' Ne.symm (ne_of_none ?nh1 ?nh2)); (case nh2 => assumption); (case nh1 => walk_at "hp")))
local macro_rules | `(tactic| walk_at "hp") => `(tactic| first
  | assumption
  | exact upd_same
  | ((refine' SqL.of ?hq); (case hq => walk_at "hp"))
  | ((refine' SqT.of ?hq); (case hq => walk_at "hp"))
  | ((refine' (upd_ne ?hne).trans ?hrest); (case hne => walk_at "ne"); (case hrest => walk_at "hp"))
  | ((refine' ly_at ?hex ?hh); (case hex => assumption); (case hh => walk_at "hp"))
  | ((refine' ly_atF ?hex ?hnn ?hh); (case hex => assumption); (case hh => walk_at "hp"); (case hnn => walk_at "ne"))
  | ((refine' ex_t ?hex ?hh); (case hh => assumption); (case hex => walk_at "ex"))
  | ((refine' ex_l ?hex ?hh); (case hh => assumption); (case hex => walk_at "ex")))
local macro_rules | `(tactic| walk_at "ex") => `(tactic| first
  | assumption
  | exact Ex.refl _
  | ((refine' ex_new ?xa ?xb); (case xb => assumption); (case xa => walk_at "ex"))
  | ((refine' ex_upd ?xa ?xb); (case xb => walk_at "free"); (case xa => walk_at "ex"))
  | ((refine' Ex.trans ?xa ?xb); (case xb => assumption); (case xa => walk_at "ex")))
local macro_rules | `(tactic| walk_at "free") => `(tactic| first
  | assumption
  | ((refine' fresh_back ?xa ?xb); (case xb => assumption); (case xa => walk_at "ex")))
local macro_rules | `(tactic| walk_at "fr") => `(tactic| first
  | assumption
  | exact Fr.refl _ _
  | ((refine' Fr.own ?hq); (case hq => walk_at "fr"))
  | ((refine' Fr.new ?xa ?xb); (case xb => assumption); (case xa => walk_at "fr"))
  | ((refine' Fr.mut ?xa ?xb); (case xb => assumption); (case xa => walk_at "fr"))
  | ((refine' Fr.trans ?xa ?xb); (case xb => assumption); (case xa => walk_at "fr"))
  | ((refine' Fr.trans ?xa (Fr.ex ?xb)); (case xb => assumption); (case xa => walk_at "fr")))
local macro_rules | `(tactic| walk_at "go1") => `(tactic| first
  | (with_reducible refine' w_seq ?_)
  | (with_reducible refine' w_asg ?_)
  | (with_reducible refine' w_ret ?_)
  | (with_reducible refine' w_drop ?_)
  | (with_reducible refine' w_if ?_)
  | (with_reducible refine' w_next ?_)
  | (with_reducible refine' w_name ?_)
  | (with_reducible refine' w_sub ?_)
  | ((with_reducible refine' w_var ?hv ?_); (case hv => exact rfl))
  | (with_reducible refine' w_c ?_)
  | (with_reducible refine' w_op ?_)
  | (with_reducible refine' w_un ?_)
  | (with_reducible refine' w_ch ?_)
  | (with_reducible refine' w_I0 ?_)
  | ((with_reducible refine' w_I ?hc ?_); (case hc => first | (exact ly_mulL (by decide) (by decide)) | (exact ly_mulR (by decide) (by decide)) | (exact ly_mulL (by omega) (by omega)) | (show (_ : Int) ≠ 0; decide) | (show (_ : Int) ≠ 0; omega) | (exact ⟨by decide, by decide⟩) | (exact ⟨by omega, by omega⟩)))
  | (with_reducible refine' w_U ?_)
  | ((with_reducible refine' w_eq ?hs ?_); (case hs => exact rfl))
  | ((with_reducible refine' w_ne ?hs ?_); (case hs => exact rfl))
  | (with_reducible refine' w_isB ?_)
  | (with_reducible refine' w_notB ?_)
  | (with_reducible refine' w_nil ?_)
  | (with_reducible refine' w_cons ?_)
  | (with_reducible refine' w_tup ?_)
  | (with_reducible refine' w_lst ?_)
  | (with_reducible refine' w_cb ?_)
  | (with_reducible refine' w_call ?_)
  | (with_reducible refine' w_bm ?_)
  | (with_reducible refine' w_bm0 ?_)
  | ((with_reducible refine' w_app ?hh ?hz ?_); (case hh => walk_at "hp"); (case hz => first | exact ly_lt (by omega) | exact ly_lt (by simp only [List.length_append, List.length_map, List.length_cons, List.length_nil]; omega)))
  | ((with_reducible refine' w_popA ?hh ?_); (case hh => walk_at "hp"))
  | ((with_reducible refine' w_ext ?hh ?hh2 ?hz ?_); (case hh => walk_at "hp"); (case hh2 => walk_at "hp"))
  | ((with_reducible refine' w_ixL ?hh ?ha ?_); (case hh => walk_at "hp"); (case ha => first | exact rfl | exact at_map (by omega) | exact atI_last _ _ | ((refine' at_of ?ae ?ah); (case ah => assumption); (case ae => omega))))
  | ((with_reducible refine' w_ixT ?hh ?ha ?_); (case hh => walk_at "hp"); (case ha => first | exact rfl | exact at_map (by omega) | exact atI_last _ _ | ((refine' at_of ?ae ?ah); (case ah => assumption); (case ae => omega))))
  | ((with_reducible refine' w_cat ?hh ?hh2 ?hz ?_); (case hh => walk_at "hp"); (case hh2 => walk_at "hp"))
  | ((with_reducible refine' w_setL ?hh ?ha ?_); (case hh => walk_at "hp"); (case ha => exact rfl))
  | (with_reducible refine' w_test ?_)
  | (with_reducible refine' w_tB ?_)
  | (with_reducible refine' w_bl ?_)
  | (with_reducible refine' w_and ?_)
  | (with_reducible refine' w_or ?_)
  | (with_reducible refine' w_not ?_)
  | (with_reducible refine' w_andV ?_)
  | (with_reducible refine' w_orV ?_)
  | (with_reducible refine' w_notV ?_)
  | (with_reducible refine' w_ifE ?_)
  | (with_reducible refine' w_for ?_)
  | ((with_reducible refine' w_nin ?hh ?_); (case hh => walk_at "hp"))
  | ((with_reducible refine' w_sorted ?hh ?_); (case hh => walk_at "hp"))
  | (with_reducible refine' w_tsadd ?_)
  | ((with_reducible refine' w_tsadd1 ?hh ?_); (case hh => walk_at "hp"))
  | ((with_reducible refine' w_sadd ?hh ?hr ?_); (case hh => walk_at "hp"); (case hr => omega))
  | (with_reducible refine' w_iZ ?_)
  | ((with_reducible refine' w_iZ1 ?hh ?hh2 ?_); (case hh => walk_at "hp"); (case hh2 => walk_at "hp"))
  | (with_reducible refine' w_iS ?_)
  | (with_reducible refine' w_iS1 ?_)
  | ((with_reducible refine' w_gtup ?hh ?hn ?_); (case hh => walk_at "hp"); (case hn => exact rfl))
  | (with_reducible refine' w_gcons ?_)
  | (with_reducible refine' w_gnil ?_)
  | (with_reducible refine' w_js ?_)
  | (with_reducible refine' w_jsn ?_)
  | ((with_reducible refine' w_js1 ?hl ?_); (case hl => decide +kernel))
  | (with_reducible refine' w_fmt ?_)
  | ((with_reducible refine' w_fmt1 ?hl ?_); (case hl => decide +kernel))
  | (with_reducible refine' w_callS ?_)
  | ((with_reducible refine' w_truL ?hh ?_); (case hh => walk_at "hp"))
  | (with_reducible refine' w_lc ?_)
  | (with_reducible refine' w_yes ?_)
  | ((with_reducible refine' w_wipe ?he ?_); (case he => exact rfl))
  | (with_reducible refine' w_iL ?_)
  | (with_reducible refine' w_iT ?_)
  | (with_reducible refine' w_iR ?_)
  | ((with_reducible refine' w_iL1 ?hh ?_); (case hh => walk_at "hp"))
  | ((with_reducible refine' w_iT1 ?hh ?_); (case hh => walk_at "hp"))
  | ((with_reducible refine' w_iR1 ?h1 ?h2 ?_); (case h1 => omega); (case h2 => omega))
  | ((with_reducible refine' w_aug ?hv ?_); (case hv => exact rfl))
  | (with_reducible refine' w_ipI ?_)
  | ((with_reducible refine' w_isi ?hy ?hk ?_); (case hy => walk_at "ty"); (case hk => walk_at "kit"))
  | ((with_reducible refine' w_int ?_))
  | ((with_reducible refine' w_intB ?_))
  | ((with_reducible refine' w_abs ?_))
  | ((with_reducible refine' w_lenL ?hh ?_); (case hh => walk_at "hp"))
  | ((with_reducible refine' w_lenT ?hh ?_); (case hh => walk_at "hp"))
  | ((with_reducible refine' w_tupL ?hh ?_); (case hh => walk_at "hp"))
  | ((with_reducible refine' w_tupT ?hh ?_); (case hh => walk_at "hp"))
  | ((with_reducible refine' w_catA ?hh ?hh2 ?hz ?_); (case hh => walk_at "hp"); (case hh2 => walk_at "hp"); (case hz => walk_at "len"))
  | ((with_reducible refine' w_repB ?hh ?hne ?h2 ?h3 ?hz ?_); (case hh => walk_at "hp"); (case hne => simp); (case h2 => omega); (case h3 => omega); (case hz => exact Nat.le_of_ble_eq_true rfl))
  | ((with_reducible refine' w_eqN ?hh ?hh2 ?n1 ?n2 ?_); (case hh => walk_at "hp"); (case hh2 => walk_at "hp"); (case n1 => walk_at "nd"); (case n2 => walk_at "nd"))
  | ((with_reducible refine' w_neN ?hh ?hh2 ?n1 ?n2 ?_); (case hh => walk_at "hp"); (case hh2 => walk_at "hp"); (case n1 => walk_at "nd"); (case n2 => walk_at "nd"))
  | ((with_reducible refine' w_eqL ?hh ?hh2 ?n1 ?n2 ?_); (case hh => walk_at "hp"); (case hh2 => walk_at "hp"); (case n1 => walk_at "nd"); (case n2 => walk_at "nd"))
  | ((with_reducible refine' w_neL ?hh ?hh2 ?n1 ?n2 ?_); (case hh => walk_at "hp"); (case hh2 => walk_at "hp"); (case n1 => walk_at "nd"); (case n2 => walk_at "nd"))
  | ((with_reducible refine' w_neNon ?hh2 ?n2 ?_); (case hh2 => walk_at "hp"); (case n2 => walk_at "nd"))
  | ((with_reducible refine' w_eqNon ?hh2 ?n2 ?_); (case hh2 => walk_at "hp"); (case n2 => walk_at "nd"))
  | ((with_reducible refine' w_slA ?hh ?_); (case hh => walk_at "hp"))
  | ((with_reducible refine' w_disp ?hz ?_); (case hz => exact sz_of (Nat.le_of_ble_eq_true rfl)))
  | ((with_reducible refine' w_tyL ?hh ?_); (case hh => walk_at "hp"))
  | (with_reducible refine' iteT ?_)
  | (with_reducible refine' iteF ?_)
  | (with_reducible refine' w_nT ?_)
  | (with_reducible refine' w_nn ?_)
  | (with_reducible refine' w_nnT ?_)
  | (with_reducible refine' w_nnR ?_)
  | (with_reducible refine' w_neG ?_)
  | (with_reducible refine' w_eqG ?_)
  | (with_reducible refine' w_neS ?_)
  | (with_reducible refine' w_eqS ?_)
  | (with_reducible refine' w_neSb ?_)
  | (with_reducible refine' w_eqSb ?_)
  | (with_reducible refine' w_deIS ?_)
  | (with_reducible refine' w_deSI ?_)
  | (with_reducible refine' w_deISn ?_)
  | ((with_reducible refine' w_deST ?he ?_); (case he => decide +kernel))
  | ((with_reducible refine' w_deSF ?he ?_); (case he => decide +kernel))
  | ((with_reducible refine' w_deSTn ?he ?_); (case he => decide +kernel))
  | ((with_reducible refine' w_deSFn ?he ?_); (case he => decide +kernel))
  | (with_reducible refine' w_nF ?_)
  | dsimp only [Bool.not_true, Bool.not_false])
local macro_rules | `(tactic| walk_at "ty") => `(tactic| first
  | exact .base (.int _) | exact .base (.str _) | exact .base (.bl _) | exact .base .non
  | ((refine' tyx_t ?hq); (case hq => walk_at "hp")) | ((refine' tyx_l ?hq); (case hq => walk_at "hp")) | ((refine' .base (.tup ?hq)); (case hq => walk_at "hp")) | assumption)
local macro_rules | `(tactic| walk_at "go") => `(tactic| repeat walk_at "go1")
local macro_rules | `(tactic| walk_at "st") => `(tactic| try dsimp only [cxOf, Cx.nox, Cx.wish])
local macro_rules | `(tactic| walk_at "kit") => `(tactic| with_reducible first | exact kit_int_int | exact kit_int_str | exact kit_int_bool | exact kit_int_tuple | exact kit_int_list | exact kit_str_int | exact kit_str_str | exact kit_str_bool | exact kit_str_tuple | exact kit_str_list | exact kit_bool_int | exact kit_bool_str | exact kit_bool_bool | exact kit_bool_tuple | exact kit_bool_list | exact kit_NoneType_int | exact kit_NoneType_str | exact kit_NoneType_bool | exact kit_NoneType_tuple | exact kit_NoneType_list | exact kit_list_int | exact kit_list_str | exact kit_list_bool | exact kit_list_tuple | exact kit_list_list | exact kit_tuple_int | exact kit_tuple_str | exact kit_tuple_bool | exact kit_tuple_tuple | exact kit_tuple_list)
local macro_rules | `(tactic| walk_at "nd") => `(tactic| first
  | assumption
  | exact Tm.nds _
  | exact Nds.nil
  | exact Nds.ofInts _
  | ((refine' Nds.cons ?na ?nb); (case na => first | exact Nds.I _ | exact Nds.L | exact Nds.A); (case nb => walk_at "nd"))
  | ((refine' Nds.app ?na ?nb); (case na => walk_at "nd"); (case nb => walk_at "nd"))
  | ((refine' Nds.rep ?na _); (case na => walk_at "nd")))
local macro_rules | `(tactic| walk_at "len") => `(tactic| first
  | exact ly_sz (by omega)
  | ((simp only [List.length_append, List.length_cons, List.length_nil, List.length_map, PyProof.Rows.lm_len_rep_flat]); exact ly_sz (by omega)))
local macro_rules | `(tactic| walk_at "go1") => `(tactic| first
  | (with_reducible refine' w_kget2 ?_)
  | (with_reducible refine' w_isRN ?_)
  | (with_reducible refine' w_isNN ?_)
  | (with_reducible refine' w_isIN ?_)
  | ((with_reducible refine' w_kg ?hd ?_); (case hd => assumption)))
local macro_rules | `(tactic| walk_at "go1") => `(tactic| first
  | ((with_reducible refine' w_extT ?hh ?hh2 ?hz ?_); (case hh => walk_at "hp"); (case hh2 => walk_at "hp"))
  | ((with_reducible refine' w_I ?hc ?_); (case hc => exact ⟨by decide, by decide, by decide⟩))
  | (with_reducible refine' w_sl ?_)
  | (with_reducible refine' w_noP ?_)
  | (with_reducible refine' w_part ?_)
  | (with_reducible refine' w_part1 ?_)
  | (with_reducible refine' w_it ?_)
  | (with_reducible refine' w_it1 ?_)
  | ((with_reducible refine' w_lenZ ?hz ?_); (case hz => omega))
  | ((with_reducible refine' w_addZb ?hz ?_); (case hz => omega))
  | ((with_reducible refine' w_addZf ?hz ?_); (case hz => omega))
  | ((with_reducible refine' w_addZa ?hz ?_); (case hz => omega))
  | ((with_reducible refine' w_inS ?hh ?_); (case hh => walk_at "hp"))
  | ((with_reducible refine' w_ixT ?hh ?ha ?_); (case hh => assumption); (case ha => exact atI_nat (by assumption))))
local macro_rules | `(tactic| walk_at "go1") => `(tactic| first
  | (with_reducible refine' w_iR2 ?_)
  | ((with_reducible refine' w_iR21 ?h1 ?h2 ?h3 ?h4 ?_); (case h1 => omega); (case h2 => omega); (case h3 => omega); (case h4 => omega))
  | (with_reducible refine' w_nnI ?_)
  | (with_reducible refine' w_max ?_)
  | (with_reducible refine' w_break ?_)
  | (with_reducible refine' w_cont ?_))
local macro_rules | `(tactic| walk_at "hp") => `(tactic| first
  | ((refine' SqX.t ?hq); (case hq => assumption)))
local macro_rules | `(tactic| walk_at "go1") => `(tactic| first
  | (with_reducible refine' w_tupD ?_)
  | ((with_reducible refine' w_catF ?hh ?hh2 ?nx ?ny ?hz ?_); (case hh => walk_at "hp"); (case hh2 => walk_at "hp"); (case nx => first | (simp; done) | exact ne_flat (by assumption) | exact Tm.enc_ne _); (case ny => first | exact Tm.enc_ne _ | (simp; done)); (case hz => walk_at "len")))
section
variable {P : Program} {w : World} {K : PySem.W.Frag} {mg : Str → Option Value} {base : Heap} {tk : Nat → Tok} {cl : Nat → Addr}
def spMake (K : PySem.W.Frag) (n : Nat) : Sp := fun vs H Q _ => ∃ (s a b : Addr) (m : Stm) (d : Nat) (sc fs : List (List Nat)), vs = [.ref s, .int (d : Int), .ref a, .ref b] ∧ StAt H s m ∧ H a = some (.lst (plcs sc)) ∧ H b = some (.lst (plcs fs)) ∧
  2 * d + (if sc = [] ∧ fs = [] then 1 else 0) < n ∧ n ≤ 12 ∧ sc.length + 3 * n ≤ 100 ∧ fs.length ≤ 5 ∧ (∀ w ∈ sc, IsNm w) ∧ (∀ w ∈ fs, IsNm w) ∧
  ∀ H' p pw pt m' ws t kd, Fr s H H' → StAt H' s m' → Fol m m' → SqT K H' p [.ref pw, .ref pt, .str (kdStr kd)] → H' pw = some (.lst (plcs ws)) → SqX H' pt t.enc → Mk fs sc (d + (if sc = [] ∧ fs = [] then 1 else 0)) ws t kd → Q (.ref p) H'
theorem ok_make {f : Addr} {fd : FuncData} (F : Fun K "_law_make" "_law_make" s_law_make f fd) (T : Txt w K mg tk cl) (D1 : Def P w K mg base CX0 1 "_law_draw" ["stream", "many"] spDraw) (D2 : Def P w K mg base CX0 2 "_law_drawn_name" ["stream"] spDName)
    (D3 : Def P w K mg base CX0 1 "_law_scope_names" ["scope", "names"] spScn) (D4 : Def P w K mg base CX0 1 "_law_use" ["name", "scope", "names"] (spUse K)) (D5 : Def P w K mg base CX0 1 "_law_wrapped" ["words"] spWrap)
    (g_law_make : mg "_law_make" = some (.ref f)) (kp_law_make : PySem.W.keepIn K (.ref f) = true) (b_law_make : Binds K fd ["stream", "depth", "scope", "names"] []) :
    ∀ n, FnOk P w K mg base CX0 (n + 8) f fd ["stream", "depth", "scope", "names"] (spMake K n) := by
  obtain ⟨f1, fd1, g_law_draw, kp_law_draw, b_law_draw, G_law_draw⟩ := D1
  obtain ⟨f2, fd2, g_law_drawn_name, kp_law_drawn_name, b_law_drawn_name, G_law_drawn_name⟩ := D2
  obtain ⟨f3, fd3, g_law_scope_names, kp_law_scope_names, b_law_scope_names, G_law_scope_names⟩ := D3
  obtain ⟨f4, fd4, g_law_use, kp_law_use, b_law_use, G_law_use⟩ := D4
  obtain ⟨f5, fd5, g_law_wrapped, kp_law_wrapped, b_law_wrapped, G_law_wrapped⟩ := D5
  intro n
  induction n with
  | zero =>
    refine ⟨fun vs H Q E h => ?_, fun A outer s H args us vs Q E _ _ _ _ h => ?_⟩
    · obtain ⟨_, _, _, _, _, _, _, _, _, _, _, h, _⟩ := h
      exact absurd h (Nat.not_lt_zero _)
    · obtain ⟨_, _, _, _, _, _, _, _, _, _, _, h, _⟩ := h
      exact absurd h (Nat.not_lt_zero _)
  | succ n G_law_make =>
    have FO : FnOk P w K mg base CX0 (n + 8 + 1) f fd ["stream", "depth", "scope", "names"] (spMake K (n + 1)) := by
      refine F.ok sc_law_make (fun vs H Q E h => ?_) (fun cdv A outer s H vs Q E hr h => ?_)
      · obtain ⟨_, _, _, _, _, _, _, rfl, _⟩ := h
        rfl
      · obtain ⟨s1, a, b, m, d, sc, fs, rfl, st, ha, hb, hn, hn12, hsl, hfl, hsn, hfn, q⟩ := h
        refine ⟨_, (pss_cons (ps_set (i := 4) sc_law_make.nd rfl (.inl rfl) (pe_call G_law_scope_names (hr.mono (by first | decide | omega)) (by rfl) g_law_scope_names kp_law_scope_names b_law_scope_names .nil pass0 (pa_cons (pv 2) (pa_cons (pv 3) pa_nil)))) (pss_cons (ps_set (i := 5) sc_law_make.nd rfl (.inl rfl) (pe_call G_law_draw (hr.mono (by first | decide | omega)) (by rfl) g_law_draw kp_law_draw b_law_draw .nil pass0 (pa_cons (pv 0) (pa_cons pe_int pa_nil)))) (pss_cut (ps_if (PW.pt (pw_and (pt_truth (pv 4) (by intro _; rfl)) (pw_and1 (PW.pt (pw_or (pt_cmpR op_eq (pv 1) pe_int (nomark _)) (pw_or1 (pt_cmpR op_eq (pv 5) pe_int (nomark _)))))))) (pss_cons (ps_set (i := 6) sc_law_make.nd rfl (.inl rfl) (pe_ix ix_list (pv 4) (pe_call G_law_draw (hr.mono (by first | decide | omega)) (by rfl) g_law_draw kp_law_draw b_law_draw .nil pass0 (pa_cons (pv 0) (pa_cons (pe_callB call_len_seq (by rfl) T.n_len (by decide +kernel) (pa_cons (pv 4) pa_nil)) pa_nil))) (fun _ _ => rfl))) (pss_one (ps_ret (pe_tup (pa_cons (pe_lst (pa_cons (pv 6) pa_nil)) (pa_cons (pe_call G_law_use (hr.mono (by first | decide | omega)) (by rfl) g_law_use kp_law_use b_law_use .nil pass0 (pa_cons (pv 6) (pa_cons (pv 2) (pa_cons (pv 3) pa_nil)))) (pa_cons pe_str pa_nil))))))) pss_nil) (pss_cons (ps_if (PW.pt (pw_or (pt_cmpR op_eq (pv 1) pe_int (nomark _)) (pw_or1 (pt_cmpR op_lt (pv 5) pe_int (nomark _))))) (pss_cons (ps_setLc (i := 7) (own := [("k", 8)]) (g := gName 8) (tt := tYes) rfl sc_law_make.nd rfl rfl (sw_true rfl rfl rfl (by decide +kernel)) (pi_range1 (by rfl) T.n_range (pa_cons (pe_op op_add pe_int (pe_call G_law_draw (hr.mono (by first | decide | omega)) (by rfl) g_law_draw kp_law_draw b_law_draw .nil pass0 (pa_cons (pv 0) (pa_cons pe_int pa_nil)))) pa_nil)) (blkOk_by (N := N_law_make) (sc := defScope s_law_make) (by decide +kernel)) (fun _ _ _ _ _ => pg_name (i := 8) sc_law_make.nd rfl (Or.inl rfl)) (fun _ _ _ _ _ => pts_nil) (fun _ _ _ _ _ => (pe_call G_law_drawn_name (hr.mono (by first | decide | omega)) (by rfl) g_law_drawn_name kp_law_drawn_name b_law_drawn_name .nil pass0 (pa_cons (pv 0) pa_nil)))) (pss_cons (ps_asg (pe_call G_law_make (hr.mono (by first | decide | omega)) (by rfl) g_law_make kp_law_make b_law_make .nil pass0 (pa_cons (pv 0) (pa_cons (pe_callB (call_max2 rfl) (by rfl) T.n_max (by decide +kernel) (pa_cons pe_int (pa_cons (pe_op op_sub (pv 1) pe_int) pa_nil))) (pa_cons (pe_op op_cat (pv 2) (pv 7)) (pa_cons (pv 3) pa_nil))))) (pg_tup (by rfl) (pgs_cons (pg_name (i := 9) sc_law_make.nd rfl (.inl rfl)) (pgs_cons (pg_name (i := 10) sc_law_make.nd rfl (.inl rfl)) (pgs_cons (pg_name (i := 11) sc_law_make.nd rfl (.inl rfl)) pgs_nil))))) (pss_one (ps_ret (pe_tup (pa_cons (pe_op op_cat (pe_op op_cat (pe_op op_cat (pe_lst (pa_cons pe_str pa_nil)) (pv 7)) (pe_lst (pa_cons pe_str pa_nil))) (pv 9)) (pa_cons (pe_op op_catF (pe_op op_repB (pe_tup (pa_cons pe_str pa_nil)) (pe_callB call_len_seq (by rfl) T.n_len (by decide +kernel) (pa_cons (pv 7) pa_nil))) (pv 10)) (pa_cons pe_str pa_nil)))))))) pss_nil) (pss_cons (ps_asg (pe_call G_law_make (hr.mono (by first | decide | omega)) (by rfl) g_law_make kp_law_make b_law_make .nil pass0 (pa_cons (pv 0) (pa_cons (pe_op op_sub (pv 1) pe_int) (pa_cons (pv 2) (pa_cons (pv 3) pa_nil))))) (pg_tup (by rfl) (pgs_cons (pg_name (i := 12) sc_law_make.nd rfl (.inl rfl)) (pgs_cons (pg_name (i := 13) sc_law_make.nd rfl (.inl rfl)) (pgs_cons (pg_name (i := 11) sc_law_make.nd rfl (.inl rfl)) pgs_nil))))) (pss_cons (ps_asg (pe_call G_law_make (hr.mono (by first | decide | omega)) (by rfl) g_law_make kp_law_make b_law_make .nil pass0 (pa_cons (pv 0) (pa_cons (pe_op op_sub (pv 1) pe_int) (pa_cons (pv 2) (pa_cons (pv 3) pa_nil))))) (pg_tup (by rfl) (pgs_cons (pg_name (i := 14) sc_law_make.nd rfl (.inl rfl)) (pgs_cons (pg_name (i := 15) sc_law_make.nd rfl (.inl rfl)) (pgs_cons (pg_name (i := 16) sc_law_make.nd rfl (.inl rfl)) pgs_nil))))) (pss_cut (ps_if (PW.pt (pw_or (pt_cmpR op_eq (pv 11) pe_str (nomark _)) (pw_or1 (pt_cmpR op_eq (pe_call G_law_draw (hr.mono (by first | decide | omega)) (by rfl) g_law_draw kp_law_draw b_law_draw .nil pass0 (pa_cons (pv 0) (pa_cons pe_int pa_nil))) pe_int (nomark _))))) (pss_one (ps_set (i := 12) sc_law_make.nd rfl (.inl rfl) (pe_call G_law_wrapped (hr.mono (by first | decide | omega)) (by rfl) g_law_wrapped kp_law_wrapped b_law_wrapped .nil pass0 (pa_cons (pv 12) pa_nil)))) pss_nil) (pss_cons (ps_if (PW.pt (pw_and (pt_cmpR op_eq (pv 16) pe_str (nomark _)) (pw_and1 (pt_cmpR op_gt (pe_call G_law_draw (hr.mono (by first | decide | omega)) (by rfl) g_law_draw kp_law_draw b_law_draw .nil pass0 (pa_cons (pv 0) (pa_cons pe_int pa_nil))) pe_int (nomark _))))) (pss_one (ps_ret (pe_tup (pa_cons (pe_op op_cat (pv 12) (pv 14)) (pa_cons (pe_op op_catF (pe_op op_catF (pe_tup (pa_cons pe_str pa_nil)) (pv 13)) (pv 15)) (pa_cons pe_str pa_nil)))))) pss_nil) (pss_cons (ps_if (PW.pt (pw_and (pt_cmpR op_eq (pv 16) pe_str (nomark _)) (pw_and (pt_cmpR op_eq (pe_ix ix_list (pv 14) pe_int (fun _ _ => rfl)) pe_str (nomark _)) (pw_and1 (pt_cmpR op_eq (pe_call G_law_draw (hr.mono (by first | decide | omega)) (by rfl) g_law_draw kp_law_draw b_law_draw .nil pass0 (pa_cons (pv 0) (pa_cons pe_int pa_nil))) pe_int (nomark _)))))) (pss_one (ps_ret (pe_tup (pa_cons (pe_op op_cat (pv 12) (pv 14)) (pa_cons (pe_op op_catF (pe_op op_catF (pe_tup (pa_cons pe_str pa_nil)) (pv 13)) (pv 15)) (pa_cons pe_str pa_nil)))))) pss_nil) (pss_one (ps_ret (pe_tup (pa_cons (pe_op op_cat (pv 12) (pe_call G_law_wrapped (hr.mono (by first | decide | omega)) (by rfl) g_law_wrapped kp_law_wrapped b_law_wrapped .nil pass0 (pa_cons (pv 14) pa_nil))) (pa_cons (pe_op op_catF (pe_op op_catF (pe_tup (pa_cons pe_str pa_nil)) (pv 13)) (pv 15)) (pa_cons pe_str pa_nil))))))))))))))), ?_⟩
        refine sl_of (σ2 := [some _, some _, some _, some _, none, none, none, none, none, none, none, none, none, none, none, none, none]) rfl ?_
        have na := pl_off st ha
        have nb := pl_off st hb
        generalize he : (if sc = [] ∧ fs = [] then 1 else 0) = e at *
        have he1 : e ≤ 1 := by rw [← he]; split <;> omega
        have hd5 : d ≤ 6 := by omega
        walk_at "st"
        walk_at "go"
        refine ⟨a, b, sc, fs, rfl, ha, hb, by omega, by omega, fun H1 pk kn e1 hpk hkn hk0 hkl => ?_⟩
        have st1 := st.ex e1
        have ha1 := e1 _ _ ha
        have hb1 := e1 _ _ hb
        have nk := pl_off st1 hpk
        clear ha hb
        walk_at "go"
        refine ⟨s1, m, 6, rfl, st1, by decide, by decide, fun H2 fr2 st2 => ?_⟩
        have v2 := m.val_lt (n := 6) (by decide)
        have fol2 := Fol.next m 6
        generalize m.val 6 = pick at *
        generalize m.next 6 = m2 at *
        have ha2 := fr2 _ _ na ha1
        have hb2 := fr2 _ _ nb hb1
        have hk2 := fr2 _ _ nk hpk
        have fr02 : Fr s1 H H2 := (Fr.ex e1).trans fr2
        clear ha1 hb1 hpk fr2 st1 e1
        have lkn : (plcs kn).length = kn.length := List.length_map _
        walk_at "go"
        refine w_cut (M := fun σ' H' => σ' = [some (.ref s1), some (.int (d : Int)), some (.ref a), some (.ref b), some (.ref pk), some (.int pick), none, none, none, none, none, none, none, none, none, none, none] ∧ H' = H2 ∧ (d = 0 → sc = [] ∧ fs = [])) ?_ ?_
        · walk_at "go"
          by_cases hk : kn = []
          · rw [if_neg (by rw [hk]; simp)]
            walk_at "go"
            exact ⟨rfl, rfl, fun _ => hk0 hk⟩
          · have hkp : 0 < kn.length := List.length_pos_iff.mpr hk
            rw [if_pos (by cases kn with
              | nil => exact absurd rfl hk
              | cons _ _ => rfl)]
            walk_at "go"
            refine w_br (fun c1 => ?_) (fun c1 => ?_)
            · walk_at "go"
              refine ⟨s1, m2, ((plcs kn).length : Nat), rfl, st2, by rw [lkn]; omega, by rw [lkn]; omega, fun H3 fr3 st3 => ?_⟩
              have v3 := m2.val_lt (n := ((plcs kn).length : Nat)) (by rw [lkn]; omega)
              have fol3 := fol2.trans (Fol.next m2 ((plcs kn).length : Nat))
              generalize m2.val ((plcs kn).length : Nat) = n3 at *
              generalize m2.next ((plcs kn).length : Nat) = m3 at *
              obtain ⟨c, rfl⟩ : ∃ k : Nat, n3 = (k : Int) := ⟨n3.toNat, (Int.toNat_of_nonneg v3.1).symm⟩
              rw [lkn] at v3
              obtain ⟨x, hx⟩ : ∃ x, kn[c]? = some x := ⟨_, List.getElem?_eq_getElem (by omega)⟩
              have hxm := hkn x (List.mem_of_getElem? hx)
              have hxn : IsNm x := hxm.elim (hsn x) (hfn x)
              have hk3 := fr3 _ _ nk hk2
              have ha3 := fr3 _ _ na ha2
              have hb3 := fr3 _ _ nb hb2
              walk_at "go"
              refine w_ixL (SqL.of hk3) (atI_nat (by rw [List.getElem?_map, hx]; rfl)) ?_
              walk_at "go"
              intro p4 hp4
              have e4 := Ex.new hp4 (o := .lst (plcs [x]))
              have h4 : upd H3 p4 (.lst (plcs [x])) p4 = some (.lst (plcs [x])) := upd_same
              rw [show (HO.lst [V.str (pl x)]) = .lst (plcs [x]) from rfl]
              have ha4 := e4 _ _ ha3
              have hb4 := e4 _ _ hb3
              have st4 := st3.ex e4
              generalize upd H3 p4 (.lst (plcs [x])) = H4 at *
              walk_at "go"
              refine ⟨x, a, b, sc, fs, rfl, ha4, hb4, by omega, by omega, hxm, fun k5 hk5 H5 p5 e5 hp5 => ?_⟩
              walk_at "go"
              intro p6 hp6
              have e6 := Ex.new hp6 (o := .tup [V.ref p4, V.ref p5, V.str "part"])
              exact q _ p6 p4 p5 m3 [x] (.var k5) .part (fr02.trans (fr3.trans (Fr.ex (e4.trans (e5.trans e6))))) (st4.ex (e5.trans e6)) fol3 (SqT.of upd_same) ((e5.trans e6) _ _ h4) (hp5.ex e6) (.name hxn hk5)
            · walk_at "go"
              refine w_br (fun c2 => ?_) (fun c2 => ?_)
              · walk_at "go"
                refine ⟨s1, m2, ((plcs kn).length : Nat), rfl, st2, by rw [lkn]; omega, by rw [lkn]; omega, fun H3 fr3 st3 => ?_⟩
                have v3 := m2.val_lt (n := ((plcs kn).length : Nat)) (by rw [lkn]; omega)
                have fol3 := fol2.trans (Fol.next m2 ((plcs kn).length : Nat))
                generalize m2.val ((plcs kn).length : Nat) = n3 at *
                generalize m2.next ((plcs kn).length : Nat) = m3 at *
                obtain ⟨c, rfl⟩ : ∃ k : Nat, n3 = (k : Int) := ⟨n3.toNat, (Int.toNat_of_nonneg v3.1).symm⟩
                rw [lkn] at v3
                obtain ⟨x, hx⟩ : ∃ x, kn[c]? = some x := ⟨_, List.getElem?_eq_getElem (by omega)⟩
                have hxm := hkn x (List.mem_of_getElem? hx)
                have hxn : IsNm x := hxm.elim (hsn x) (hfn x)
                have hk3 := fr3 _ _ nk hk2
                have ha3 := fr3 _ _ na ha2
                have hb3 := fr3 _ _ nb hb2
                walk_at "go"
                refine w_ixL (SqL.of hk3) (atI_nat (by rw [List.getElem?_map, hx]; rfl)) ?_
                walk_at "go"
                intro p4 hp4
                have e4 := Ex.new hp4 (o := .lst (plcs [x]))
                have h4 : upd H3 p4 (.lst (plcs [x])) p4 = some (.lst (plcs [x])) := upd_same
                rw [show (HO.lst [V.str (pl x)]) = .lst (plcs [x]) from rfl]
                have ha4 := e4 _ _ ha3
                have hb4 := e4 _ _ hb3
                have st4 := st3.ex e4
                generalize upd H3 p4 (.lst (plcs [x])) = H4 at *
                walk_at "go"
                refine ⟨x, a, b, sc, fs, rfl, ha4, hb4, by omega, by omega, hxm, fun k5 hk5 H5 p5 e5 hp5 => ?_⟩
                walk_at "go"
                intro p6 hp6
                have e6 := Ex.new hp6 (o := .tup [V.ref p4, V.ref p5, V.str "part"])
                exact q _ p6 p4 p5 m3 [x] (.var k5) .part (fr02.trans (fr3.trans (Fr.ex (e4.trans (e5.trans e6))))) (st4.ex (e5.trans e6)) fol3 (SqT.of upd_same) ((e5.trans e6) _ _ h4) (hp5.ex e6) (.name hxn hk5)
              · walk_at "go"
                exact ⟨rfl, rfl, fun z => absurd (by rw [z]; rfl) c1⟩
        rintro σ' H2 ⟨rfl, rfl, hd0⟩
        walk_at "go"
        refine w_br (fun c1 => ?_) (fun c1 => ?_)
        · walk_at "go"
          refine ⟨s1, m2, 3, rfl, st2, by decide, by decide, fun H3 fr3 st3 => ?_⟩
          have v3 := m2.val_lt (n := 3) (by decide)
          have fol3 := fol2.trans (Fol.next m2 3)
          generalize m2.val 3 = n3 at *
          generalize m2.next 3 = m3 at *
          obtain ⟨c, rfl⟩ : ∃ k : Nat, n3 = (k : Int) := ⟨n3.toNat, (Int.toNat_of_nonneg v3.1).symm⟩
          walk_at "go"
          intro d0 hd0n
          have nd0 := st3.ne hd0n
          refine lc_range (lo := 0) (n := (1 + (c : Int)).toNat) (fun i H' => ∃ m' own, StAt H' s1 m' ∧ Fr s1 H3 H' ∧ Fol m m' ∧ m'.home = m3.home ∧ H' d0 = some (.lst (plcs own)) ∧ (∀ w ∈ own, IsNm w) ∧ own.length = i)
            ⟨m3, [], st3.new hd0n, Fr.ex (Ex.new hd0n), fol3, rfl, upd_same, by simp, rfl⟩ ?_ ?_
          · rintro i H4 hi ⟨m4, own, st4, fr4, fol4, hm4, hd4, hon, hol⟩
            walk_at "go"
            refine ⟨s1, m4, rfl, st4, fun H5 m5 w fr5 st5 fol5 hw => ?_⟩
            have hd5 := fr5 _ _ nd0.1 hd4
            have hme : m5.home = m3.home := fol5.1.trans hm4
            have lol : (plcs own).length = own.length := List.length_map _
            refine ⟨plcs own, hd5, ly_lt (by omega), m5, own ++ [w], st5.put nd0.1 (by rw [hme]; exact nd0.2), Fr.mut (fr4.trans fr5) hd0n, fol4.trans fol5, hme, by rw [upd_same]; simp [plcs], ?_, by rw [List.length_append, hol]; rfl⟩
            intro v hv
            rcases List.mem_append.mp hv with h | h
            · exact hon v h
            · rw [List.mem_singleton.mp h]
              exact hw
          · rintro H4 ⟨m4, own, st4, fr4, fol4, hm4, hd4, hon, hol⟩
            have fr34 := fr3.trans fr4
            have ha4 := fr34 _ _ na ha2
            have hb4 := fr34 _ _ nb hb2
            have lol : (plcs own).length = own.length := List.length_map _
            have lsc : (plcs sc).length = sc.length := List.length_map _
            have hone : own ≠ [] := fun z => by rw [z] at hol; simp at hol; omega
            walk_at "go"
            refine ⟨_, _, rfl, ?_⟩
            walk_at "go"
            · exact ly_sz (by omega)
            intro pc hpc
            have e5 := Ex.new hpc (o := .lst (plcs sc ++ plcs own))
            have hc5 : upd H4 pc (.lst (plcs sc ++ plcs own)) pc = some (.lst (plcs (sc ++ own))) := by rw [upd_same]; simp [plcs]
            have hb5 := e5 _ _ hb4
            have hd5 := e5 _ _ hd4
            have st5 := st4.ex e5
            generalize upd H4 pc (.lst (plcs sc ++ plcs own)) = H5 at *
            walk_at "go"
            have hne : ¬ (sc ++ own = [] ∧ fs = []) := fun z => hone (List.append_eq_nil_iff.mp z.1).2
            have hde : d = 0 → e = 1 := fun z => by rw [← he, if_pos (hd0 z)]
            refine ⟨s1, pc, b, m4, d - 1, sc ++ own, fs, ?_, st5, hc5, hb5, by rw [if_neg hne]; by_cases d = 0 <;> omega, by omega, by rw [List.length_append]; omega, hfl, ?_, hfn, fun H6 p6 pw pt m6 ws t kd fr6 st6 fol6 hp6 hpw hpt hmk => ?_⟩
            · have : (if (d : Int) - 1 > 0 then (d : Int) - 1 else 0) = ((d - 1 : Nat) : Int) := by split <;> omega
              rw [this]
              rfl
            · intro w hw
              exact (List.mem_append.mp hw).elim (hsn w) (hon w)
            rw [if_neg hne] at hmk
            have hpt := hpt.t (K := K)
            have hd6 := fr6 _ _ nd0.1 hd5
            have fr06 : Fr s1 H H6 := fr02.trans (fr34.trans ((Fr.ex e5).trans fr6))
            have hsz := hmk.size
            have h2p : 2 ^ (d - 1 + 0) ≤ 2 ^ 6 := Nat.pow_le_pow_right (by decide) (by omega)
            walk_at "go"
            intro q1 hq1
            have g1 := Ex.new hq1 (o := .lst (plcs [[92]]))
            have k1 : upd H6 q1 (.lst (plcs [[92]])) q1 = some (.lst (plcs [[92]])) := upd_same
            rw [show (HO.lst [V.str "\\"]) = .lst (plcs [[92]]) by rw [plcs, List.map_cons, List.map_nil, pl_bs]]
            have hd7 := g1 _ _ hd6
            generalize upd H6 q1 (.lst (plcs [[92]])) = H7 at *
            walk_at "go"
            · exact ly_sz (by simp; omega)
            intro q2 hq2
            have g2 := Ex.new hq2 (o := .lst (plcs [[92]] ++ plcs own))
            have k2 : upd H7 q2 (.lst (plcs [[92]] ++ plcs own)) q2 = some (.lst (plcs ([[92]] ++ own))) := by rw [upd_same]; simp [plcs]
            generalize upd H7 q2 (.lst (plcs [[92]] ++ plcs own)) = H8 at *
            walk_at "go"
            intro q3 hq3
            have g3 := Ex.new hq3 (o := .lst (plcs [[46]]))
            have k3 : upd H8 q3 (.lst (plcs [[46]])) q3 = some (.lst (plcs [[46]])) := upd_same
            rw [show (HO.lst [V.str "."]) = .lst (plcs [[46]]) by rw [plcs, List.map_cons, List.map_nil, pl_pd]]
            have k2b := g3 _ _ k2
            generalize upd H8 q3 (.lst (plcs [[46]])) = H9 at *
            refine w_cat k2b k3 (ly_sz (by simp; omega)) fun q4 hq4 => ?_
            have g4 := Ex.new hq4 (o := .lst (plcs ([[92]] ++ own) ++ plcs [[46]]))
            have k4 : upd H9 q4 (.lst (plcs ([[92]] ++ own) ++ plcs [[46]])) q4 = some (.lst (plcs ([[92]] ++ own ++ [[46]]))) := by rw [upd_same]; simp [plcs]
            have g14 := ((g1.trans g2).trans g3).trans g4
            have hpw10 := g14 _ _ hpw
            have hpt10 := ex_t g14 hpt
            have hd10 := g14 _ _ hd6
            generalize upd H9 q4 (.lst (plcs ([[92]] ++ own) ++ plcs [[46]])) = H10 at *
            walk_at "go"
            · exact ly_sz (by simp; omega)
            intro q5 hq5
            have g5 := Ex.new hq5 (o := .lst (plcs ([[92]] ++ own ++ [[46]]) ++ plcs ws))
            have k5 : upd H10 q5 (.lst (plcs ([[92]] ++ own ++ [[46]]) ++ plcs ws)) q5 = some (.lst (plcs ([92] :: (own ++ [46] :: ws)))) := by rw [upd_same]; simp [plcs]
            have hpt11 := ex_t g5 hpt10
            have hd11 := g5 _ _ hd10
            generalize upd H10 q5 (.lst (plcs ([[92]] ++ own ++ [[46]]) ++ plcs ws)) = H11 at *
            walk_at "go"
            intro q6 hq6
            have g6 := Ex.new hq6 (o := .tup [V.str "lam"])
            have k6 : SqT K (upd H11 q6 (.tup [V.str "lam"])) q6 [V.str "lam"] := SqT.of upd_same
            have hd12 := g6 _ _ hd11
            have hpt12 := ex_t g6 hpt11
            generalize upd H11 q6 (.tup [V.str "lam"]) = H12 at *
            walk_at "go"
            intro q7 H13 g7 hq7
            rw [lol, Int.toNat_natCast] at hq7
            have hpt13 := ex_t g7 hpt12
            walk_at "go"
            intro q8 H14 g8 hq8
            rw [← Tm.enc_lamN] at hq8
            walk_at "go"
            intro q9 hq9
            have g9 := Ex.new hq9 (o := .tup [V.ref q5, V.ref q8, V.str "open"])
            have g149 := (((g5.trans g6).trans g7).trans g8).trans g9
            refine q _ q9 q5 q8 m6 _ _ .abs (fr06.trans (Fr.ex (g14.trans g149))) (st6.ex (g14.trans g149)) (fol4.trans fol6) (SqT.of upd_same) ((((g6.trans g7).trans g8).trans g9) _ _ k5) (hq8.ex g9) ?_
            exact (Mk.abs hone (by omega) hon hmk).mono (by by_cases d = 0 <;> omega)
        · walk_at "go"
          refine w_br (fun c2 => ?_) (fun c2 => ?_)
          · walk_at "go"
            refine ⟨s1, m2, 3, rfl, st2, by decide, by decide, fun H3 fr3 st3 => ?_⟩
            have v3 := m2.val_lt (n := 3) (by decide)
            have fol3 := fol2.trans (Fol.next m2 3)
            generalize m2.val 3 = n3 at *
            generalize m2.next 3 = m3 at *
            obtain ⟨c, rfl⟩ : ∃ k : Nat, n3 = (k : Int) := ⟨n3.toNat, (Int.toNat_of_nonneg v3.1).symm⟩
            walk_at "go"
            intro d0 hd0n
            have nd0 := st3.ne hd0n
            refine lc_range (lo := 0) (n := (1 + (c : Int)).toNat) (fun i H' => ∃ m' own, StAt H' s1 m' ∧ Fr s1 H3 H' ∧ Fol m m' ∧ m'.home = m3.home ∧ H' d0 = some (.lst (plcs own)) ∧ (∀ w ∈ own, IsNm w) ∧ own.length = i)
              ⟨m3, [], st3.new hd0n, Fr.ex (Ex.new hd0n), fol3, rfl, upd_same, by simp, rfl⟩ ?_ ?_
            · rintro i H4 hi ⟨m4, own, st4, fr4, fol4, hm4, hd4, hon, hol⟩
              walk_at "go"
              refine ⟨s1, m4, rfl, st4, fun H5 m5 w fr5 st5 fol5 hw => ?_⟩
              have hd5 := fr5 _ _ nd0.1 hd4
              have hme : m5.home = m3.home := fol5.1.trans hm4
              have lol : (plcs own).length = own.length := List.length_map _
              refine ⟨plcs own, hd5, ly_lt (by omega), m5, own ++ [w], st5.put nd0.1 (by rw [hme]; exact nd0.2), Fr.mut (fr4.trans fr5) hd0n, fol4.trans fol5, hme, by rw [upd_same]; simp [plcs], ?_, by rw [List.length_append, hol]; rfl⟩
              intro v hv
              rcases List.mem_append.mp hv with h | h
              · exact hon v h
              · rw [List.mem_singleton.mp h]
                exact hw
            · rintro H4 ⟨m4, own, st4, fr4, fol4, hm4, hd4, hon, hol⟩
              have fr34 := fr3.trans fr4
              have ha4 := fr34 _ _ na ha2
              have hb4 := fr34 _ _ nb hb2
              have lol : (plcs own).length = own.length := List.length_map _
              have lsc : (plcs sc).length = sc.length := List.length_map _
              have hone : own ≠ [] := fun z => by rw [z] at hol; simp at hol; omega
              walk_at "go"
              refine ⟨_, _, rfl, ?_⟩
              walk_at "go"
              · exact ly_sz (by omega)
              intro pc hpc
              have e5 := Ex.new hpc (o := .lst (plcs sc ++ plcs own))
              have hc5 : upd H4 pc (.lst (plcs sc ++ plcs own)) pc = some (.lst (plcs (sc ++ own))) := by rw [upd_same]; simp [plcs]
              have hb5 := e5 _ _ hb4
              have hd5 := e5 _ _ hd4
              have st5 := st4.ex e5
              generalize upd H4 pc (.lst (plcs sc ++ plcs own)) = H5 at *
              walk_at "go"
              have hne : ¬ (sc ++ own = [] ∧ fs = []) := fun z => hone (List.append_eq_nil_iff.mp z.1).2
              have hde : d = 0 → e = 1 := fun z => by rw [← he, if_pos (hd0 z)]
              refine ⟨s1, pc, b, m4, d - 1, sc ++ own, fs, ?_, st5, hc5, hb5, by rw [if_neg hne]; by_cases d = 0 <;> omega, by omega, by rw [List.length_append]; omega, hfl, ?_, hfn, fun H6 p6 pw pt m6 ws t kd fr6 st6 fol6 hp6 hpw hpt hmk => ?_⟩
              · have : (if (d : Int) - 1 > 0 then (d : Int) - 1 else 0) = ((d - 1 : Nat) : Int) := by split <;> omega
                rw [this]
                rfl
              · intro w hw
                exact (List.mem_append.mp hw).elim (hsn w) (hon w)
              rw [if_neg hne] at hmk
              have hpt := hpt.t (K := K)
              have hd6 := fr6 _ _ nd0.1 hd5
              have fr06 : Fr s1 H H6 := fr02.trans (fr34.trans ((Fr.ex e5).trans fr6))
              have hsz := hmk.size
              have h2p : 2 ^ (d - 1 + 0) ≤ 2 ^ 6 := Nat.pow_le_pow_right (by decide) (by omega)
              walk_at "go"
              intro q1 hq1
              have g1 := Ex.new hq1 (o := .lst (plcs [[92]]))
              have k1 : upd H6 q1 (.lst (plcs [[92]])) q1 = some (.lst (plcs [[92]])) := upd_same
              rw [show (HO.lst [V.str "\\"]) = .lst (plcs [[92]]) by rw [plcs, List.map_cons, List.map_nil, pl_bs]]
              have hd7 := g1 _ _ hd6
              generalize upd H6 q1 (.lst (plcs [[92]])) = H7 at *
              walk_at "go"
              · exact ly_sz (by simp; omega)
              intro q2 hq2
              have g2 := Ex.new hq2 (o := .lst (plcs [[92]] ++ plcs own))
              have k2 : upd H7 q2 (.lst (plcs [[92]] ++ plcs own)) q2 = some (.lst (plcs ([[92]] ++ own))) := by rw [upd_same]; simp [plcs]
              generalize upd H7 q2 (.lst (plcs [[92]] ++ plcs own)) = H8 at *
              walk_at "go"
              intro q3 hq3
              have g3 := Ex.new hq3 (o := .lst (plcs [[46]]))
              have k3 : upd H8 q3 (.lst (plcs [[46]])) q3 = some (.lst (plcs [[46]])) := upd_same
              rw [show (HO.lst [V.str "."]) = .lst (plcs [[46]]) by rw [plcs, List.map_cons, List.map_nil, pl_pd]]
              have k2b := g3 _ _ k2
              generalize upd H8 q3 (.lst (plcs [[46]])) = H9 at *
              refine w_cat k2b k3 (ly_sz (by simp; omega)) fun q4 hq4 => ?_
              have g4 := Ex.new hq4 (o := .lst (plcs ([[92]] ++ own) ++ plcs [[46]]))
              have k4 : upd H9 q4 (.lst (plcs ([[92]] ++ own) ++ plcs [[46]])) q4 = some (.lst (plcs ([[92]] ++ own ++ [[46]]))) := by rw [upd_same]; simp [plcs]
              have g14 := ((g1.trans g2).trans g3).trans g4
              have hpw10 := g14 _ _ hpw
              have hpt10 := ex_t g14 hpt
              have hd10 := g14 _ _ hd6
              generalize upd H9 q4 (.lst (plcs ([[92]] ++ own) ++ plcs [[46]])) = H10 at *
              walk_at "go"
              · exact ly_sz (by simp; omega)
              intro q5 hq5
              have g5 := Ex.new hq5 (o := .lst (plcs ([[92]] ++ own ++ [[46]]) ++ plcs ws))
              have k5 : upd H10 q5 (.lst (plcs ([[92]] ++ own ++ [[46]]) ++ plcs ws)) q5 = some (.lst (plcs ([92] :: (own ++ [46] :: ws)))) := by rw [upd_same]; simp [plcs]
              have hpt11 := ex_t g5 hpt10
              have hd11 := g5 _ _ hd10
              generalize upd H10 q5 (.lst (plcs ([[92]] ++ own ++ [[46]]) ++ plcs ws)) = H11 at *
              walk_at "go"
              intro q6 hq6
              have g6 := Ex.new hq6 (o := .tup [V.str "lam"])
              have k6 : SqT K (upd H11 q6 (.tup [V.str "lam"])) q6 [V.str "lam"] := SqT.of upd_same
              have hd12 := g6 _ _ hd11
              have hpt12 := ex_t g6 hpt11
              generalize upd H11 q6 (.tup [V.str "lam"]) = H12 at *
              walk_at "go"
              intro q7 H13 g7 hq7
              rw [lol, Int.toNat_natCast] at hq7
              have hpt13 := ex_t g7 hpt12
              walk_at "go"
              intro q8 H14 g8 hq8
              rw [← Tm.enc_lamN] at hq8
              walk_at "go"
              intro q9 hq9
              have g9 := Ex.new hq9 (o := .tup [V.ref q5, V.ref q8, V.str "open"])
              have g149 := (((g5.trans g6).trans g7).trans g8).trans g9
              refine q _ q9 q5 q8 m6 _ _ .abs (fr06.trans (Fr.ex (g14.trans g149))) (st6.ex (g14.trans g149)) (fol4.trans fol6) (SqT.of upd_same) ((((g6.trans g7).trans g8).trans g9) _ _ k5) (hq8.ex g9) ?_
              exact (Mk.abs hone (by omega) hon hmk).mono (by by_cases d = 0 <;> omega)
          · have hdp : d ≠ 0 := fun z => c1 (by rw [z]; rfl)
            walk_at "go"
            refine ⟨s1, a, b, m2, d - 1, sc, fs, by rw [show (d : Int) - 1 = ((d - 1 : Nat) : Int) by omega]; rfl, st2, ha2, hb2, by rw [he]; omega, by omega, by omega, hfl, hsn, hfn, fun H3 p3 pl1 pt1 m3 l0 t1 kd1 fr3 st3 fol3 hp3 hpl3 hpt3 hmk3 => ?_⟩
            rw [he] at hmk3
            have hpt3 := hpt3.t (K := K)
            have ha3 := fr3 _ _ na ha2
            have hb3 := fr3 _ _ nb hb2
            walk_at "go"
            refine ⟨s1, a, b, m3, d - 1, sc, fs, by rw [show (d : Int) - 1 = ((d - 1 : Nat) : Int) by omega]; rfl, st3, ha3, hb3, by rw [he]; omega, by omega, by omega, hfl, hsn, hfn, fun H4 p4 pr4 pt4 m4 r0 t2 kd2 fr4 st4 fol4 hp4 hpr4 hpt4 hmk4 => ?_⟩
            rw [he] at hmk4
            have hpt4 := hpt4.t (K := K)
            have hpl4 := fr4 _ _ (pl_off st3 hpl3) hpl3
            have hpt3b := fr_t fr4 st3.2.1 hpt3
            have fr04 : Fr s1 H H4 := fr02.trans (fr3.trans fr4)
            have fol04 := (fol2.trans fol3).trans fol4
            have hs3 := hmk3.size
            have hs4 := hmk4.size
            have h2p : 2 ^ (d - 1 + e) ≤ 2 ^ 7 := Nat.pow_le_pow_right (by decide) (by omega)
            clear ha2 hb2 ha3 hb3 fr3 fr4 hpl3 hpt3 st2 st3 hk2 fol2 fol3 fol4 hp3 fr02
            walk_at "go"
            refine w_cut (M := fun σ' H' => ∃ pL L m', σ' = [some (.ref s1), some (.int (d : Int)), some (.ref a), some (.ref b), some (.ref pk), some (.int pick), none, none, none, none, none, some (.str (kdStr kd1)), some (.ref pL), some (.ref pt1), some (.ref pr4), some (.ref pt4), some (.str (kdStr kd2))] ∧ Fr s1 H4 H' ∧ StAt H' s1 m' ∧ Fol m m' ∧ H' pL = some (.lst (plcs L)) ∧ (L = wrapW l0 ∨ (L = l0 ∧ (kd1 = .part ∨ kd1 = .row)))) ?_ ?_
            · walk_at "go"
              refine w_br (fun c5 => ?_) (fun c5 => ?_)
              · walk_at "go"
                refine ⟨pl1, l0, rfl, hpl4, by omega, fun H5 p5 e5 hp5 => ?_⟩
                walk_at "go"
                exact ⟨p5, wrapW l0, m4, rfl, Fr.ex e5, st4.ex e5, fol04, hp5, .inl rfl⟩
              · walk_at "go"
                refine ⟨s1, m4, 5, rfl, st4, by decide, by decide, fun H5 fr5 st5 => ?_⟩
                have fol5 := fol04.trans (Fol.next m4 5)
                have hpl5 := fr5 _ _ (pl_off st4 hpl4) hpl4
                generalize m4.val 5 = n5 at *
                generalize m4.next 5 = m5 at *
                walk_at "go"
                refine w_br (fun c6 => ?_) (fun c6 => ?_)
                · walk_at "go"
                  refine ⟨pl1, l0, rfl, hpl5, by omega, fun H6 p6 e6 hp6 => ?_⟩
                  walk_at "go"
                  exact ⟨p6, wrapW l0, m5, rfl, fr5.trans (Fr.ex e6), st5.ex e6, fol5, hp6, .inl rfl⟩
                · walk_at "go"
                  refine ⟨pl1, l0, m5, rfl, fr5, st5, fol5, hpl5, .inr ⟨rfl, ?_⟩⟩
                  cases kd1
                  · exact .inl rfl
                  · exact .inr rfl
                  · exact absurd rfl c5
                  · exact absurd rfl c5
            rintro σ' H5 ⟨pL, L, m5, rfl, fr5, st5, fol5, hL5, hLd⟩
            have lL : L.length ≤ l0.length + 2 := by
              rcases hLd with rfl | ⟨rfl, _⟩
              · simp [wrapW]
              · omega
            have hR5 := fr5 _ _ (pl_off st4 hpr4) hpr4
            have hf5 := fr_t fr5 st4.2.1 hpt3b
            have hg5 := fr_t fr5 st4.2.1 hpt4
            have fr05 := fr04.trans fr5
            clear fr04 fr5 st4 hpl4 hpr4 hpt3b hpt4 fol04 hp4
            walk_at "go"
            cases kd2
            · rw [if_pos (by decide +kernel)]
              walk_at "go"
              refine ⟨s1, m5, 5, rfl, st5, by decide, by decide, fun H6 fr6 st6 => ?_⟩
              have folz := fol5.trans (Fol.next m5 5)
              have hLz := fr6 _ _ (pl_off st5 hL5) hL5
              have hRz := fr6 _ _ (pl_off st5 hR5) hR5
              have hfz := fr_t fr6 st5.2.1 hf5
              have hgz := fr_t fr6 st5.2.1 hg5
              have frz := fr05.trans fr6
              generalize m5.val 5 = n6 at *
              generalize m5.next 5 = mz at *
              have stz := st6
              walk_at "go"
              refine w_br (fun c7 => ?_) (fun c7 => ?_)
              · walk_at "go"
                · exact ly_sz (by simp; omega)
                intro q1 hq1
                have g1 := Ex.new hq1 (o := .lst (plcs L ++ plcs r0))
                have k1 : upd H6 q1 (.lst (plcs L ++ plcs r0)) q1 = some (.lst (plcs (L ++ r0))) := by rw [upd_same]; simp [plcs]
                have x1 := ex_t g1 hfz
                have x2 := ex_t g1 hgz
                generalize upd H6 q1 (.lst (plcs L ++ plcs r0)) = G1 at *
                walk_at "go"
                intro q2 hq2
                have g2 := Ex.new hq2 (o := .tup [V.str "app"])
                have k2 : SqT K (upd G1 q2 (.tup [V.str "app"])) q2 [V.str "app"] := SqT.of upd_same
                have x1 := ex_t g2 x1
                have x2 := ex_t g2 x2
                generalize upd G1 q2 (.tup [V.str "app"]) = G2 at *
                walk_at "go"
                intro q3 G3 g3 hq3
                have x2 := ex_t g3 x2
                walk_at "go"
                intro q4 G4 g4 hq4
                rw [show [V.str "app"] ++ t1.enc ++ t2.enc = (Tm.app t1 t2).enc by simp [Tm.enc]] at hq4
                walk_at "go"
                intro q5 hq5
                have g5 := Ex.new hq5 (o := .tup [V.ref q1, V.ref q4, V.str "row"])
                have g15 := (((g1.trans g2).trans g3).trans g4).trans g5
                refine q _ q5 q1 q4 mz (L ++ r0) (.app t1 t2) .row (frz.trans (Fr.ex g15)) (stz.ex g15) folz (SqT.of upd_same) ((((g2.trans g3).trans g4).trans g5) _ _ k1) (hq4.ex g5) ?_
                exact (Mk.app hmk3 hmk4 hLd (.inr (.inl ⟨rfl, rfl, rfl⟩))).mono (by omega)
              · walk_at "go"
                refine ⟨pr4, r0, rfl, hRz, by omega, fun H7 p7 e7 hp7 => ?_⟩
                have lw : (wrapW r0).length = r0.length + 2 := by simp [wrapW]
                have hfz := ex_t e7 hfz
                have hgz := ex_t e7 hgz
                have hLz := e7 _ _ hLz
                have frz := frz.trans (Fr.ex e7)
                have stz := stz.ex e7
                walk_at "go"
                · exact ly_sz (by simp; omega)
                intro q1 hq1
                have g1 := Ex.new hq1 (o := .lst (plcs L ++ plcs (wrapW r0)))
                have k1 : upd H7 q1 (.lst (plcs L ++ plcs (wrapW r0))) q1 = some (.lst (plcs (L ++ (wrapW r0)))) := by rw [upd_same]; simp [plcs]
                have x1 := ex_t g1 hfz
                have x2 := ex_t g1 hgz
                generalize upd H7 q1 (.lst (plcs L ++ plcs (wrapW r0))) = G1 at *
                walk_at "go"
                intro q2 hq2
                have g2 := Ex.new hq2 (o := .tup [V.str "app"])
                have k2 : SqT K (upd G1 q2 (.tup [V.str "app"])) q2 [V.str "app"] := SqT.of upd_same
                have x1 := ex_t g2 x1
                have x2 := ex_t g2 x2
                generalize upd G1 q2 (.tup [V.str "app"]) = G2 at *
                walk_at "go"
                intro q3 G3 g3 hq3
                have x2 := ex_t g3 x2
                walk_at "go"
                intro q4 G4 g4 hq4
                rw [show [V.str "app"] ++ t1.enc ++ t2.enc = (Tm.app t1 t2).enc by simp [Tm.enc]] at hq4
                walk_at "go"
                intro q5 hq5
                have g5 := Ex.new hq5 (o := .tup [V.ref q1, V.ref q4, V.str "row"])
                have g15 := (((g1.trans g2).trans g3).trans g4).trans g5
                refine q _ q5 q1 q4 mz (L ++ (wrapW r0)) (.app t1 t2) .row (frz.trans (Fr.ex g15)) (stz.ex g15) folz (SqT.of upd_same) ((((g2.trans g3).trans g4).trans g5) _ _ k1) (hq4.ex g5) ?_
                exact (Mk.app hmk3 hmk4 hLd (.inl ⟨rfl, rfl⟩)).mono (by omega)
            · rw [if_neg (by decide +kernel)]
              skip
              obtain ⟨mz, hmz⟩ : ∃ mz, mz = m5 := ⟨m5, rfl⟩
              rw [← hmz] at st5 fol5
              have stz := st5
              have frz := fr05
              have folz := fol5
              have hLz := hL5
              have hRz := hR5
              have hfz := hf5
              have hgz := hg5
              walk_at "go"
              refine ⟨pr4, r0, rfl, hRz, by omega, fun H7 p7 e7 hp7 => ?_⟩
              have lw : (wrapW r0).length = r0.length + 2 := by simp [wrapW]
              have hfz := ex_t e7 hfz
              have hgz := ex_t e7 hgz
              have hLz := e7 _ _ hLz
              have frz := frz.trans (Fr.ex e7)
              have stz := stz.ex e7
              walk_at "go"
              · exact ly_sz (by simp; omega)
              intro q1 hq1
              have g1 := Ex.new hq1 (o := .lst (plcs L ++ plcs (wrapW r0)))
              have k1 : upd H7 q1 (.lst (plcs L ++ plcs (wrapW r0))) q1 = some (.lst (plcs (L ++ (wrapW r0)))) := by rw [upd_same]; simp [plcs]
              have x1 := ex_t g1 hfz
              have x2 := ex_t g1 hgz
              generalize upd H7 q1 (.lst (plcs L ++ plcs (wrapW r0))) = G1 at *
              walk_at "go"
              intro q2 hq2
              have g2 := Ex.new hq2 (o := .tup [V.str "app"])
              have k2 : SqT K (upd G1 q2 (.tup [V.str "app"])) q2 [V.str "app"] := SqT.of upd_same
              have x1 := ex_t g2 x1
              have x2 := ex_t g2 x2
              generalize upd G1 q2 (.tup [V.str "app"]) = G2 at *
              walk_at "go"
              intro q3 G3 g3 hq3
              have x2 := ex_t g3 x2
              walk_at "go"
              intro q4 G4 g4 hq4
              rw [show [V.str "app"] ++ t1.enc ++ t2.enc = (Tm.app t1 t2).enc by simp [Tm.enc]] at hq4
              walk_at "go"
              intro q5 hq5
              have g5 := Ex.new hq5 (o := .tup [V.ref q1, V.ref q4, V.str "row"])
              have g15 := (((g1.trans g2).trans g3).trans g4).trans g5
              refine q _ q5 q1 q4 mz (L ++ (wrapW r0)) (.app t1 t2) .row (frz.trans (Fr.ex g15)) (stz.ex g15) folz (SqT.of upd_same) ((((g2.trans g3).trans g4).trans g5) _ _ k1) (hq4.ex g5) ?_
              exact (Mk.app hmk3 hmk4 hLd (.inl ⟨rfl, rfl⟩)).mono (by omega)
            · rw [if_neg (by decide +kernel)]
              walk_at "go"
              obtain ⟨v, rr, hrr, hv⟩ := hmk4.head
              have ixr : atI (plcs r0) 0 = some (.str (pl v)) := by rw [hrr]; exact at_of (j := 0) rfl rfl
              refine w_ixL (SqL.of hR5) ixr ?_
              walk_at "go"
              refine w_br (fun c8 => ?_) (fun c8 => ?_)
              · walk_at "go"
                refine ⟨s1, m5, 2, rfl, st5, by decide, by decide, fun H6 fr6 st6 => ?_⟩
                have folz := fol5.trans (Fol.next m5 2)
                have hLz := fr6 _ _ (pl_off st5 hL5) hL5
                have hRz := fr6 _ _ (pl_off st5 hR5) hR5
                have hfz := fr_t fr6 st5.2.1 hf5
                have hgz := fr_t fr6 st5.2.1 hg5
                have frz := fr05.trans fr6
                generalize m5.val 2 = n6 at *
                generalize m5.next 2 = mz at *
                have stz := st6
                walk_at "go"
                refine w_br (fun c9 => ?_) (fun c9 => ?_)
                · walk_at "go"
                  · exact ly_sz (by simp; omega)
                  intro q1 hq1
                  have g1 := Ex.new hq1 (o := .lst (plcs L ++ plcs r0))
                  have k1 : upd H6 q1 (.lst (plcs L ++ plcs r0)) q1 = some (.lst (plcs (L ++ r0))) := by rw [upd_same]; simp [plcs]
                  have x1 := ex_t g1 hfz
                  have x2 := ex_t g1 hgz
                  generalize upd H6 q1 (.lst (plcs L ++ plcs r0)) = G1 at *
                  walk_at "go"
                  intro q2 hq2
                  have g2 := Ex.new hq2 (o := .tup [V.str "app"])
                  have k2 : SqT K (upd G1 q2 (.tup [V.str "app"])) q2 [V.str "app"] := SqT.of upd_same
                  have x1 := ex_t g2 x1
                  have x2 := ex_t g2 x2
                  generalize upd G1 q2 (.tup [V.str "app"]) = G2 at *
                  walk_at "go"
                  intro q3 G3 g3 hq3
                  have x2 := ex_t g3 x2
                  walk_at "go"
                  intro q4 G4 g4 hq4
                  rw [show [V.str "app"] ++ t1.enc ++ t2.enc = (Tm.app t1 t2).enc by simp [Tm.enc]] at hq4
                  walk_at "go"
                  intro q5 hq5
                  have g5 := Ex.new hq5 (o := .tup [V.ref q1, V.ref q4, V.str "open"])
                  have g15 := (((g1.trans g2).trans g3).trans g4).trans g5
                  refine q _ q5 q1 q4 mz (L ++ r0) (.app t1 t2) .opn (frz.trans (Fr.ex g15)) (stz.ex g15) folz (SqT.of upd_same) ((((g2.trans g3).trans g4).trans g5) _ _ k1) (hq4.ex g5) ?_
                  exact (Mk.app hmk3 hmk4 hLd (.inr (.inr ⟨rfl, rfl, rfl⟩))).mono (by omega)
                · walk_at "go"
                  refine ⟨pr4, r0, rfl, hRz, by omega, fun H7 p7 e7 hp7 => ?_⟩
                  have lw : (wrapW r0).length = r0.length + 2 := by simp [wrapW]
                  have hfz := ex_t e7 hfz
                  have hgz := ex_t e7 hgz
                  have hLz := e7 _ _ hLz
                  have frz := frz.trans (Fr.ex e7)
                  have stz := stz.ex e7
                  walk_at "go"
                  · exact ly_sz (by simp; omega)
                  intro q1 hq1
                  have g1 := Ex.new hq1 (o := .lst (plcs L ++ plcs (wrapW r0)))
                  have k1 : upd H7 q1 (.lst (plcs L ++ plcs (wrapW r0))) q1 = some (.lst (plcs (L ++ (wrapW r0)))) := by rw [upd_same]; simp [plcs]
                  have x1 := ex_t g1 hfz
                  have x2 := ex_t g1 hgz
                  generalize upd H7 q1 (.lst (plcs L ++ plcs (wrapW r0))) = G1 at *
                  walk_at "go"
                  intro q2 hq2
                  have g2 := Ex.new hq2 (o := .tup [V.str "app"])
                  have k2 : SqT K (upd G1 q2 (.tup [V.str "app"])) q2 [V.str "app"] := SqT.of upd_same
                  have x1 := ex_t g2 x1
                  have x2 := ex_t g2 x2
                  generalize upd G1 q2 (.tup [V.str "app"]) = G2 at *
                  walk_at "go"
                  intro q3 G3 g3 hq3
                  have x2 := ex_t g3 x2
                  walk_at "go"
                  intro q4 G4 g4 hq4
                  rw [show [V.str "app"] ++ t1.enc ++ t2.enc = (Tm.app t1 t2).enc by simp [Tm.enc]] at hq4
                  walk_at "go"
                  intro q5 hq5
                  have g5 := Ex.new hq5 (o := .tup [V.ref q1, V.ref q4, V.str "row"])
                  have g15 := (((g1.trans g2).trans g3).trans g4).trans g5
                  refine q _ q5 q1 q4 mz (L ++ (wrapW r0)) (.app t1 t2) .row (frz.trans (Fr.ex g15)) (stz.ex g15) folz (SqT.of upd_same) ((((g2.trans g3).trans g4).trans g5) _ _ k1) (hq4.ex g5) ?_
                  exact (Mk.app hmk3 hmk4 hLd (.inl ⟨rfl, rfl⟩)).mono (by omega)
              · obtain ⟨mz, hmz⟩ : ∃ mz, mz = m5 := ⟨m5, rfl⟩
                rw [← hmz] at st5 fol5
                have stz := st5
                have frz := fr05
                have folz := fol5
                have hLz := hL5
                have hRz := hR5
                have hfz := hf5
                have hgz := hg5
                walk_at "go"
                refine ⟨pr4, r0, rfl, hRz, by omega, fun H7 p7 e7 hp7 => ?_⟩
                have lw : (wrapW r0).length = r0.length + 2 := by simp [wrapW]
                have hfz := ex_t e7 hfz
                have hgz := ex_t e7 hgz
                have hLz := e7 _ _ hLz
                have frz := frz.trans (Fr.ex e7)
                have stz := stz.ex e7
                walk_at "go"
                · exact ly_sz (by simp; omega)
                intro q1 hq1
                have g1 := Ex.new hq1 (o := .lst (plcs L ++ plcs (wrapW r0)))
                have k1 : upd H7 q1 (.lst (plcs L ++ plcs (wrapW r0))) q1 = some (.lst (plcs (L ++ (wrapW r0)))) := by rw [upd_same]; simp [plcs]
                have x1 := ex_t g1 hfz
                have x2 := ex_t g1 hgz
                generalize upd H7 q1 (.lst (plcs L ++ plcs (wrapW r0))) = G1 at *
                walk_at "go"
                intro q2 hq2
                have g2 := Ex.new hq2 (o := .tup [V.str "app"])
                have k2 : SqT K (upd G1 q2 (.tup [V.str "app"])) q2 [V.str "app"] := SqT.of upd_same
                have x1 := ex_t g2 x1
                have x2 := ex_t g2 x2
                generalize upd G1 q2 (.tup [V.str "app"]) = G2 at *
                walk_at "go"
                intro q3 G3 g3 hq3
                have x2 := ex_t g3 x2
                walk_at "go"
                intro q4 G4 g4 hq4
                rw [show [V.str "app"] ++ t1.enc ++ t2.enc = (Tm.app t1 t2).enc by simp [Tm.enc]] at hq4
                walk_at "go"
                intro q5 hq5
                have g5 := Ex.new hq5 (o := .tup [V.ref q1, V.ref q4, V.str "row"])
                have g15 := (((g1.trans g2).trans g3).trans g4).trans g5
                refine q _ q5 q1 q4 mz (L ++ (wrapW r0)) (.app t1 t2) .row (frz.trans (Fr.ex g15)) (stz.ex g15) folz (SqT.of upd_same) ((((g2.trans g3).trans g4).trans g5) _ _ k1) (hq4.ex g5) ?_
                exact (Mk.app hmk3 hmk4 hLd (.inl ⟨rfl, rfl⟩)).mono (by omega)
            · rw [if_neg (by decide +kernel)]
              walk_at "go"
              obtain ⟨v, rr, hrr, hv⟩ := hmk4.head
              have ixr : atI (plcs r0) 0 = some (.str (pl v)) := by rw [hrr]; exact at_of (j := 0) rfl rfl
              refine w_ixL (SqL.of hR5) ixr ?_
              walk_at "go"
              rw [decide_eq_false (fun z => hv (fun y => nomatch y) (pl_inj ((V.str.inj z).trans pl_bs.symm)))]
              obtain ⟨mz, hmz⟩ : ∃ mz, mz = m5 := ⟨m5, rfl⟩
              rw [← hmz] at st5 fol5
              have stz := st5
              have frz := fr05
              have folz := fol5
              have hLz := hL5
              have hRz := hR5
              have hfz := hf5
              have hgz := hg5
              walk_at "go"
              refine ⟨pr4, r0, rfl, hRz, by omega, fun H7 p7 e7 hp7 => ?_⟩
              have lw : (wrapW r0).length = r0.length + 2 := by simp [wrapW]
              have hfz := ex_t e7 hfz
              have hgz := ex_t e7 hgz
              have hLz := e7 _ _ hLz
              have frz := frz.trans (Fr.ex e7)
              have stz := stz.ex e7
              walk_at "go"
              · exact ly_sz (by simp; omega)
              intro q1 hq1
              have g1 := Ex.new hq1 (o := .lst (plcs L ++ plcs (wrapW r0)))
              have k1 : upd H7 q1 (.lst (plcs L ++ plcs (wrapW r0))) q1 = some (.lst (plcs (L ++ (wrapW r0)))) := by rw [upd_same]; simp [plcs]
              have x1 := ex_t g1 hfz
              have x2 := ex_t g1 hgz
              generalize upd H7 q1 (.lst (plcs L ++ plcs (wrapW r0))) = G1 at *
              walk_at "go"
              intro q2 hq2
              have g2 := Ex.new hq2 (o := .tup [V.str "app"])
              have k2 : SqT K (upd G1 q2 (.tup [V.str "app"])) q2 [V.str "app"] := SqT.of upd_same
              have x1 := ex_t g2 x1
              have x2 := ex_t g2 x2
              generalize upd G1 q2 (.tup [V.str "app"]) = G2 at *
              walk_at "go"
              intro q3 G3 g3 hq3
              have x2 := ex_t g3 x2
              walk_at "go"
              intro q4 G4 g4 hq4
              rw [show [V.str "app"] ++ t1.enc ++ t2.enc = (Tm.app t1 t2).enc by simp [Tm.enc]] at hq4
              walk_at "go"
              intro q5 hq5
              have g5 := Ex.new hq5 (o := .tup [V.ref q1, V.ref q4, V.str "row"])
              have g15 := (((g1.trans g2).trans g3).trans g4).trans g5
              refine q _ q5 q1 q4 mz (L ++ (wrapW r0)) (.app t1 t2) .row (frz.trans (Fr.ex g15)) (stz.ex g15) folz (SqT.of upd_same) ((((g2.trans g3).trans g4).trans g5) _ _ k1) (hq4.ex g5) ?_
              exact (Mk.app hmk3 hmk4 hLd (.inl ⟨rfl, rfl⟩)).mono (by omega)
    exact FO
end
end Ly
set_option Elab.async false
set_option linter.all false
set_option maxRecDepth 100000
set_option maxHeartbeats 8000000
namespace Ly
open PySem PySem.Spec PyProof.Rows L2 Evl
local macro_rules | `(tactic| walk_at "ne") => `(tactic| first
  | assumption
  | ((refine' Ne.symm ?hq); (case hq => assumption))
  | ((refine' ne_of_none ?nh1 ?nh2); (case nh2 => assumption); (case nh1 => walk_at "hp"))
  | ((refine' Ne.symm (ne_of_none ?nh1 ?nh2)); (case nh2 => assumption); (case nh1 => walk_at "hp")))
local macro_rules | `(tactic| walk_at "hp") => `(tactic| first
  | assumption
  | exact upd_same
  | ((refine' SqL.of ?hq); (case hq => walk_at "hp"))
  | ((refine' SqT.of ?hq); (case hq => walk_at "hp"))
  | ((refine' (upd_ne ?hne).trans ?hrest); (case hne => walk_at "ne"); (case hrest => walk_at "hp"))
  | ((refine' ly_at ?hex ?hh); (case hex => assumption); (case hh => walk_at "hp"))
  | ((refine' ly_atF ?hex ?hnn ?hh); (case hex => assumption); (case hh => walk_at "hp"); (case hnn => walk_at "ne"))
  | ((refine' ex_t ?hex ?hh); (case hh => assumption); (case hex => walk_at "ex"))
  | ((refine' ex_l ?hex ?hh); (case hh => assumption); (case hex => walk_at "ex")))
local macro_rules | `(tactic| walk_at "ex") => `(tactic| first
  | assumption
  | exact Ex.refl _
  | ((refine' ex_new ?xa ?xb); (case xb => assumption); (case xa => walk_at "ex"))
  | ((refine' ex_upd ?xa ?xb); (case xb => walk_at "free"); (case xa => walk_at "ex"))
  | ((refine' Ex.trans ?xa ?xb); (case xb => assumption); (case xa => walk_at "ex")))
local macro_rules | `(tactic| walk_at "free") => `(tactic| first
  | assumption
  | ((refine' fresh_back ?xa ?xb); (case xb => assumption); (case xa => walk_at "ex")))
local macro_rules | `(tactic| walk_at "fr") => `(tactic| first
  | assumption
  | exact Fr.refl _ _
  | ((refine' Fr.own ?hq); (case hq => walk_at "fr"))
  | ((refine' Fr.new ?xa ?xb); (case xb => assumption); (case xa => walk_at "fr"))
  | ((refine' Fr.mut ?xa ?xb); (case xb => assumption); (case xa => walk_at "fr"))
  | ((refine' Fr.trans ?xa ?xb); (case xb => assumption); (case xa => walk_at "fr"))
  | ((refine' Fr.trans ?xa (Fr.ex ?xb)); (case xb => assumption); (case xa => walk_at "fr")))
local macro_rules | `(tactic| walk_at "go1") => `(tactic| first
  | (with_reducible refine' w_seq ?_)
  | (with_reducible refine' w_asg ?_)
  | (with_reducible refine' w_ret ?_)
  | (with_reducible refine' w_drop ?_)
  | (with_reducible refine' w_if ?_)
  | (with_reducible refine' w_next ?_)
  | (with_reducible refine' w_name ?_)
  | (with_reducible refine' w_sub ?_)
  | ((with_reducible refine' w_var ?hv ?_); (case hv => exact rfl))
  | (with_reducible refine' w_c ?_)
  | (with_reducible refine' w_op ?_)
  | (with_reducible refine' w_un ?_)
  | (with_reducible refine' w_ch ?_)
  | (with_reducible refine' w_I0 ?_)
  | ((with_reducible refine' w_I ?hc ?_); (case hc => first | (exact ly_mulL (by decide) (by decide)) | (exact ly_mulR (by decide) (by decide)) | (exact ly_mulL (by omega) (by omega)) | (show (_ : Int) ≠ 0; decide) | (show (_ : Int) ≠ 0; omega) | (exact ⟨by decide, by decide⟩) | (exact ⟨by omega, by omega⟩)))
  | (with_reducible refine' w_U ?_)
  | ((with_reducible refine' w_eq ?hs ?_); (case hs => exact rfl))
  | ((with_reducible refine' w_ne ?hs ?_); (case hs => exact rfl))
  | (with_reducible refine' w_isB ?_)
  | (with_reducible refine' w_notB ?_)
  | (with_reducible refine' w_nil ?_)
  | (with_reducible refine' w_cons ?_)
  | (with_reducible refine' w_tup ?_)
  | (with_reducible refine' w_lst ?_)
  | (with_reducible refine' w_cb ?_)
  | (with_reducible refine' w_call ?_)
  | (with_reducible refine' w_bm ?_)
  | (with_reducible refine' w_bm0 ?_)
  | ((with_reducible refine' w_app ?hh ?hz ?_); (case hh => walk_at "hp"); (case hz => first | exact ly_lt (by omega) | exact ly_lt (by simp only [List.length_append, List.length_map, List.length_cons, List.length_nil]; omega)))
  | ((with_reducible refine' w_popA ?hh ?_); (case hh => walk_at "hp"))
  | ((with_reducible refine' w_ext ?hh ?hh2 ?hz ?_); (case hh => walk_at "hp"); (case hh2 => walk_at "hp"))
  | ((with_reducible refine' w_ixL ?hh ?ha ?_); (case hh => walk_at "hp"); (case ha => first | exact rfl | exact at_map (by omega) | exact atI_last _ _ | ((refine' at_of ?ae ?ah); (case ah => assumption); (case ae => omega))))
  | ((with_reducible refine' w_ixT ?hh ?ha ?_); (case hh => walk_at "hp"); (case ha => first | exact rfl | exact at_map (by omega) | exact atI_last _ _ | ((refine' at_of ?ae ?ah); (case ah => assumption); (case ae => omega))))
  | ((with_reducible refine' w_cat ?hh ?hh2 ?hz ?_); (case hh => walk_at "hp"); (case hh2 => walk_at "hp"))
  | ((with_reducible refine' w_setL ?hh ?ha ?_); (case hh => walk_at "hp"); (case ha => exact rfl))
  | (with_reducible refine' w_test ?_)
  | (with_reducible refine' w_tB ?_)
  | (with_reducible refine' w_bl ?_)
  | (with_reducible refine' w_and ?_)
  | (with_reducible refine' w_or ?_)
  | (with_reducible refine' w_not ?_)
  | (with_reducible refine' w_andV ?_)
  | (with_reducible refine' w_orV ?_)
  | (with_reducible refine' w_notV ?_)
  | (with_reducible refine' w_ifE ?_)
  | (with_reducible refine' w_for ?_)
  | ((with_reducible refine' w_nin ?hh ?_); (case hh => walk_at "hp"))
  | ((with_reducible refine' w_sorted ?hh ?_); (case hh => walk_at "hp"))
  | (with_reducible refine' w_tsadd ?_)
  | ((with_reducible refine' w_tsadd1 ?hh ?_); (case hh => walk_at "hp"))
  | ((with_reducible refine' w_sadd ?hh ?hr ?_); (case hh => walk_at "hp"); (case hr => omega))
  | (with_reducible refine' w_iZ ?_)
  | ((with_reducible refine' w_iZ1 ?hh ?hh2 ?_); (case hh => walk_at "hp"); (case hh2 => walk_at "hp"))
  | (with_reducible refine' w_iS ?_)
  | (with_reducible refine' w_iS1 ?_)
  | ((with_reducible refine' w_gtup ?hh ?hn ?_); (case hh => walk_at "hp"); (case hn => exact rfl))
  | (with_reducible refine' w_gcons ?_)
  | (with_reducible refine' w_gnil ?_)
  | (with_reducible refine' w_js ?_)
  | (with_reducible refine' w_jsn ?_)
  | ((with_reducible refine' w_js1 ?hl ?_); (case hl => decide +kernel))
  | (with_reducible refine' w_fmt ?_)
  | ((with_reducible refine' w_fmt1 ?hl ?_); (case hl => decide +kernel))
  | (with_reducible refine' w_callS ?_)
  | ((with_reducible refine' w_truL ?hh ?_); (case hh => walk_at "hp"))
  | (with_reducible refine' w_lc ?_)
  | (with_reducible refine' w_yes ?_)
  | ((with_reducible refine' w_wipe ?he ?_); (case he => exact rfl))
  | (with_reducible refine' w_iL ?_)
  | (with_reducible refine' w_iT ?_)
  | (with_reducible refine' w_iR ?_)
  | ((with_reducible refine' w_iL1 ?hh ?_); (case hh => walk_at "hp"))
  | ((with_reducible refine' w_iT1 ?hh ?_); (case hh => walk_at "hp"))
  | ((with_reducible refine' w_iR1 ?h1 ?h2 ?_); (case h1 => omega); (case h2 => omega))
  | ((with_reducible refine' w_aug ?hv ?_); (case hv => exact rfl))
  | (with_reducible refine' w_ipI ?_)
  | ((with_reducible refine' w_isi ?hy ?hk ?_); (case hy => walk_at "ty"); (case hk => walk_at "kit"))
  | ((with_reducible refine' w_int ?_))
  | ((with_reducible refine' w_intB ?_))
  | ((with_reducible refine' w_abs ?_))
  | ((with_reducible refine' w_lenL ?hh ?_); (case hh => walk_at "hp"))
  | ((with_reducible refine' w_lenT ?hh ?_); (case hh => walk_at "hp"))
  | ((with_reducible refine' w_tupL ?hh ?_); (case hh => walk_at "hp"))
  | ((with_reducible refine' w_tupT ?hh ?_); (case hh => walk_at "hp"))
  | ((with_reducible refine' w_catA ?hh ?hh2 ?hz ?_); (case hh => walk_at "hp"); (case hh2 => walk_at "hp"); (case hz => walk_at "len"))
  | ((with_reducible refine' w_repB ?hh ?hne ?h2 ?h3 ?hz ?_); (case hh => walk_at "hp"); (case hne => simp); (case h2 => omega); (case h3 => omega); (case hz => exact Nat.le_of_ble_eq_true rfl))
  | ((with_reducible refine' w_eqN ?hh ?hh2 ?n1 ?n2 ?_); (case hh => walk_at "hp"); (case hh2 => walk_at "hp"); (case n1 => walk_at "nd"); (case n2 => walk_at "nd"))
  | ((with_reducible refine' w_neN ?hh ?hh2 ?n1 ?n2 ?_); (case hh => walk_at "hp"); (case hh2 => walk_at "hp"); (case n1 => walk_at "nd"); (case n2 => walk_at "nd"))
  | ((with_reducible refine' w_eqL ?hh ?hh2 ?n1 ?n2 ?_); (case hh => walk_at "hp"); (case hh2 => walk_at "hp"); (case n1 => walk_at "nd"); (case n2 => walk_at "nd"))
  | ((with_reducible refine' w_neL ?hh ?hh2 ?n1 ?n2 ?_); (case hh => walk_at "hp"); (case hh2 => walk_at "hp"); (case n1 => walk_at "nd"); (case n2 => walk_at "nd"))
  | ((with_reducible refine' w_neNon ?hh2 ?n2 ?_); (case hh2 => walk_at "hp"); (case n2 => walk_at "nd"))
  | ((with_reducible refine' w_eqNon ?hh2 ?n2 ?_); (case hh2 => walk_at "hp"); (case n2 => walk_at "nd"))
  | ((with_reducible refine' w_slA ?hh ?_); (case hh => walk_at "hp"))
  | ((with_reducible refine' w_disp ?hz ?_); (case hz => exact sz_of (Nat.le_of_ble_eq_true rfl)))
  | ((with_reducible refine' w_tyL ?hh ?_); (case hh => walk_at "hp"))
  | (with_reducible refine' iteT ?_)
  | (with_reducible refine' iteF ?_)
  | (with_reducible refine' w_nT ?_)
  | (with_reducible refine' w_nn ?_)
  | (with_reducible refine' w_nnT ?_)
  | (with_reducible refine' w_nnR ?_)
  | (with_reducible refine' w_neG ?_)
  | (with_reducible refine' w_eqG ?_)
  | (with_reducible refine' w_neS ?_)
  | (with_reducible refine' w_eqS ?_)
  | (with_reducible refine' w_neSb ?_)
  | (with_reducible refine' w_eqSb ?_)
  | (with_reducible refine' w_deIS ?_)
  | (with_reducible refine' w_deSI ?_)
  | (with_reducible refine' w_deISn ?_)
  | ((with_reducible refine' w_deST ?he ?_); (case he => decide +kernel))
  | ((with_reducible refine' w_deSF ?he ?_); (case he => decide +kernel))
  | ((with_reducible refine' w_deSTn ?he ?_); (case he => decide +kernel))
  | ((with_reducible refine' w_deSFn ?he ?_); (case he => decide +kernel))
  | (with_reducible refine' w_nF ?_)
  | dsimp only [Bool.not_true, Bool.not_false])
local macro_rules | `(tactic| walk_at "ty") => `(tactic| first
  | exact .base (.int _) | exact .base (.str _) | exact .base (.bl _) | exact .base .non
  | ((refine' tyx_t ?hq); (case hq => walk_at "hp")) | ((refine' tyx_l ?hq); (case hq => walk_at "hp")) | ((refine' .base (.tup ?hq)); (case hq => walk_at "hp")) | assumption)
local macro_rules | `(tactic| walk_at "go") => `(tactic| repeat walk_at "go1")
local macro_rules | `(tactic| walk_at "st") => `(tactic| try dsimp only [cxOf, Cx.nox, Cx.wish])
local macro_rules | `(tactic| walk_at "kit") => `(tactic| with_reducible first | exact kit_int_int | exact kit_int_str | exact kit_int_bool | exact kit_int_tuple | exact kit_int_list | exact kit_str_int | exact kit_str_str | exact kit_str_bool | exact kit_str_tuple | exact kit_str_list | exact kit_bool_int | exact kit_bool_str | exact kit_bool_bool | exact kit_bool_tuple | exact kit_bool_list | exact kit_NoneType_int | exact kit_NoneType_str | exact kit_NoneType_bool | exact kit_NoneType_tuple | exact kit_NoneType_list | exact kit_list_int | exact kit_list_str | exact kit_list_bool | exact kit_list_tuple | exact kit_list_list | exact kit_tuple_int | exact kit_tuple_str | exact kit_tuple_bool | exact kit_tuple_tuple | exact kit_tuple_list)
local macro_rules | `(tactic| walk_at "nd") => `(tactic| first
  | assumption
  | exact Tm.nds _
  | exact Nds.nil
  | exact Nds.ofInts _
  | ((refine' Nds.cons ?na ?nb); (case na => first | exact Nds.I _ | exact Nds.L | exact Nds.A); (case nb => walk_at "nd"))
  | ((refine' Nds.app ?na ?nb); (case na => walk_at "nd"); (case nb => walk_at "nd"))
  | ((refine' Nds.rep ?na _); (case na => walk_at "nd")))
local macro_rules | `(tactic| walk_at "len") => `(tactic| first
  | exact ly_sz (by omega)
  | ((simp only [List.length_append, List.length_cons, List.length_nil, List.length_map, PyProof.Rows.lm_len_rep_flat]); exact ly_sz (by omega)))
local macro_rules | `(tactic| walk_at "go1") => `(tactic| first
  | (with_reducible refine' w_kget2 ?_)
  | (with_reducible refine' w_isRN ?_)
  | (with_reducible refine' w_isNN ?_)
  | (with_reducible refine' w_isIN ?_)
  | ((with_reducible refine' w_kg ?hd ?_); (case hd => assumption)))
local macro_rules | `(tactic| walk_at "go1") => `(tactic| first
  | ((with_reducible refine' w_extT ?hh ?hh2 ?hz ?_); (case hh => walk_at "hp"); (case hh2 => walk_at "hp"))
  | ((with_reducible refine' w_I ?hc ?_); (case hc => exact ⟨by decide, by decide, by decide⟩))
  | (with_reducible refine' w_sl ?_)
  | (with_reducible refine' w_noP ?_)
  | (with_reducible refine' w_part ?_)
  | (with_reducible refine' w_part1 ?_)
  | (with_reducible refine' w_it ?_)
  | (with_reducible refine' w_it1 ?_)
  | ((with_reducible refine' w_lenZ ?hz ?_); (case hz => omega))
  | ((with_reducible refine' w_addZb ?hz ?_); (case hz => omega))
  | ((with_reducible refine' w_addZf ?hz ?_); (case hz => omega))
  | ((with_reducible refine' w_addZa ?hz ?_); (case hz => omega))
  | ((with_reducible refine' w_inS ?hh ?_); (case hh => walk_at "hp"))
  | ((with_reducible refine' w_ixT ?hh ?ha ?_); (case hh => assumption); (case ha => exact atI_nat (by assumption))))
local macro_rules | `(tactic| walk_at "go1") => `(tactic| first
  | (with_reducible refine' w_iR2 ?_)
  | ((with_reducible refine' w_iR21 ?h1 ?h2 ?h3 ?h4 ?_); (case h1 => omega); (case h2 => omega); (case h3 => omega); (case h4 => omega))
  | (with_reducible refine' w_nnI ?_)
  | (with_reducible refine' w_max ?_)
  | (with_reducible refine' w_break ?_)
  | (with_reducible refine' w_cont ?_))
section
variable {P : Program} {w : World} {K : PySem.W.Frag} {mg : Str → Option Value} {base : Heap} {tk : Nat → Tok} {cl : Nat → Addr}
theorem w_repCs {H : Hp} {Q : VK} {k : Nat} (z : k ≤ 3000000) (q : Q (.str (pl (List.replicate k 32))) H) : rRepC (.str " ") (.int (k : Int)) H Q := ⟨32, k, by rw [pl_space], rfl, z, q⟩
def spText : Sp := fun vs H Q _ => ∃ (s a : Addr) (m : Stm) (ws : List (List Nat)), vs = [.ref s, .ref a] ∧ StAt H s m ∧ H a = some (.lst (plcs ws)) ∧ ws.length ≤ 1000 ∧ (∀ w ∈ ws, w.length ≤ 10) ∧
  ∀ H' m' gs, Fr s H H' → StAt H' s m' → gs.length = ws.length → (rend gs ws).length ≤ 13 * ws.length → Q (.str (pl (rend gs ws))) H'
theorem ok_text {f : Addr} {fd : FuncData} (F : Fun K "_law_text" "_law_text" s_law_text f fd) (T : Txt w K mg tk cl)
    (D1 : Def P w K mg base CX0 1 "_law_draw" ["stream", "many"] spDraw) : FnOk P w K mg base CX0 2 f fd ["stream", "words"] spText := by
  obtain ⟨f1, fd1, g_law_draw, kp_law_draw, b_law_draw, G_law_draw⟩ := D1
  refine F.ok sc_law_text (fun vs H Q E h => ?_) (fun cdv A outer s H vs Q E hr h => ?_)
  · obtain ⟨s1, a, m, ws, rfl, _⟩ := h
    rfl
  · obtain ⟨s1, a, m, ws, rfl, st, ha, hl, hw, q⟩ := h
    refine ⟨_, (pss_cons (ps_set (i := 2) sc_law_text.nd rfl (.inl rfl) pe_str) (pss_cons (ps_for PassesOwn.never rfl (pi_range1 (by rfl) T.n_range (pa_cons (pe_callB call_len_seq (by rfl) T.n_len (by decide +kernel) (pa_cons (pv 1) pa_nil)) pa_nil)) (pg_name (i := 3) sc_law_text.nd rfl (.inl rfl)) (pss_cut (ps_if (PW.pt (pw_and (pt_cmpR op_gt (pv 3) pe_int (nomark _)) (pw_and1 (pt_cmpR op_eq (pe_call G_law_draw (hr.mono (by first | decide | omega)) (by rfl) g_law_draw kp_law_draw b_law_draw .nil pass0 (pa_cons (pv 0) (pa_cons pe_int pa_nil))) pe_int (nomark _))))) (pss_one (ps_set (i := 2) sc_law_text.nd rfl (.inl rfl) (pe_op op_addZ (pv 2) (pe_op op_repC pe_str (pe_op op_add pe_int (pe_call G_law_draw (hr.mono (by first | decide | omega)) (by rfl) g_law_draw kp_law_draw b_law_draw .nil pass0 (pa_cons (pv 0) (pa_cons pe_int pa_nil)))))))) pss_nil) (pss_one (ps_set (i := 2) sc_law_text.nd rfl (.inl rfl) (pe_op op_addZ (pv 2) (pe_ix ix_list (pv 1) (pv 3) (fun _ _ => rfl))))))) (pss_one (ps_ret (pv 2))))), ?_⟩
    refine sl_of (σ2 := [some _, some _, none, none]) rfl ?_
    have na := pl_off st ha
    have lws : (plcs ws).length = ws.length := List.length_map _
    walk_at "st"
    rw [pl_e]
    walk_at "go"
    refine for_range (lo := 0) (n := ((plcs ws).length : Int).toNat) (fun i σ H' => ∃ m' gs y, σ = [some (.ref s1), some (.ref a), some (.str (pl (rend gs (ws.take i)))), y] ∧ Fr s1 H H' ∧ StAt H' s1 m' ∧ gs.length = i ∧ (rend gs (ws.take i)).length ≤ 13 * i)
      ⟨m, [], none, by simp [rend], Fr.refl _ _, st, rfl, by simp [rend]⟩ ?_ ?_
    · rintro i σ H1 hi ⟨m1, gs, y, rfl, fr1, st1, hg, hlen⟩
      have hil : i < ws.length := by omega
      obtain ⟨w, hwi⟩ : ∃ w, ws[i]? = some w := ⟨_, List.getElem?_eq_getElem hil⟩
      have hwl := hw w (List.mem_of_getElem? hwi)
      have ha1 := fr1 _ _ na ha
      walk_at "go"
      refine w_cut (M := fun σ' H' => ∃ m' g, σ' = [some (.ref s1), some (.ref a), some (.str (pl (rend gs (ws.take i) ++ List.replicate g 32))), some (.int (0 + (i : Int)))] ∧ Fr s1 H H' ∧ StAt H' s1 m' ∧ g ≤ 3) ?_ ?_
      · walk_at "go"
        refine w_br (fun c1 => ?_) (fun c1 => ?_)
        · walk_at "go"
          refine ⟨s1, m1, 2, rfl, st1, by decide, by decide, fun H2 fr2 st2 => ?_⟩
          generalize m1.val 2 = n2 at *
          generalize m1.next 2 = m2 at *
          walk_at "go"
          refine w_br (fun c2 => ?_) (fun c2 => ?_)
          · walk_at "go"
            refine ⟨s1, m2, 3, rfl, st2, by decide, by decide, fun H3 fr3 st3 => ?_⟩
            have v3 := m2.val_lt (n := 3) (by decide)
            generalize m2.val 3 = n3 at *
            generalize m2.next 3 = m3 at *
            obtain ⟨c, rfl⟩ : ∃ k : Nat, n3 = (k : Int) := ⟨n3.toNat, (Int.toNat_of_nonneg v3.1).symm⟩
            walk_at "go"
            rw [show (1 : Int) + (c : Int) = ((1 + c : Nat) : Int) by omega]
            refine w_repCs (by omega) ?_
            walk_at "go"
            refine w_addZp (by omega) (by simp; omega) ?_
            walk_at "go"
            exact ⟨m3, 1 + c, rfl, (fr1.trans fr2).trans fr3, st3, by omega⟩
          · walk_at "go"
            exact ⟨m2, 0, by simp, fr1.trans fr2, st2, by omega⟩
        · walk_at "go"
          exact ⟨m1, 0, by simp, fr1, st1, by omega⟩
      · rintro σ' H2 ⟨m2, g, rfl, fr2, st2, hg3⟩
        have ha2 := fr2 _ _ na ha
        have ix : atI (plcs ws) (0 + (i : Int)) = some (.str (pl w)) := by
          rw [show (0 : Int) + (i : Int) = (i : Int) by omega]
          exact atI_nat (by rw [List.getElem?_map, hwi]; rfl)
        walk_at "go"
        refine w_ixL (SqL.of ha2) ix ?_
        refine w_addZp (by simp; omega) (by omega) ?_
        walk_at "go"
        have htk : ws.take (i + 1) = ws.take i ++ [w] := by rw [List.take_add_one, hwi]; rfl
        have hgl : gs.length = (ws.take i).length := by rw [List.length_take, hg]; omega
        refine ⟨m2, gs ++ [g], _, by rw [htk, rend_snoc g w hgl]; rfl, fr2, st2, by rw [List.length_append, hg]; rfl, ?_⟩
        rw [htk, rend_snoc g w hgl]
        simp only [List.length_append, List.length_replicate]
        omega
    · rintro σ H1 ⟨m1, gs, y, rfl, fr1, st1, hg, hlen⟩
      rw [lws, Int.toNat_natCast] at hg hlen
      rw [lws, Int.toNat_natCast, List.take_length] at *
      walk_at "go"
      exact q H1 m1 gs fr1 st1 hg hlen
end
end Ly
set_option Elab.async false
set_option linter.all false
set_option maxRecDepth 100000
set_option maxHeartbeats 8000000
namespace Ly
open PySem PySem.Spec PyProof.Rows L2 Evl
local macro_rules | `(tactic| walk_at "ne") => `(tactic| first
  | assumption
  | ((refine' Ne.symm ?hq); (case hq => assumption))
  | ((refine' ne_of_none ?nh1 ?nh2); (case nh2 => assumption); (case nh1 => walk_at "hp"))
  | ((refine' Ne.symm (ne_of_none ?nh1 ?nh2)); (case nh2 => assumption); (case nh1 => walk_at "hp")))
local macro_rules | `(tactic| walk_at "hp") => `(tactic| first
  | assumption
  | exact upd_same
  | ((refine' SqL.of ?hq); (case hq => walk_at "hp"))
  | ((refine' SqT.of ?hq); (case hq => walk_at "hp"))
  | ((refine' (upd_ne ?hne).trans ?hrest); (case hne => walk_at "ne"); (case hrest => walk_at "hp"))
  | ((refine' ly_at ?hex ?hh); (case hex => assumption); (case hh => walk_at "hp"))
  | ((refine' ly_atF ?hex ?hnn ?hh); (case hex => assumption); (case hh => walk_at "hp"); (case hnn => walk_at "ne"))
  | ((refine' ex_t ?hex ?hh); (case hh => assumption); (case hex => walk_at "ex"))
  | ((refine' ex_l ?hex ?hh); (case hh => assumption); (case hex => walk_at "ex")))
local macro_rules | `(tactic| walk_at "ex") => `(tactic| first
  | assumption
  | exact Ex.refl _
  | ((refine' ex_new ?xa ?xb); (case xb => assumption); (case xa => walk_at "ex"))
  | ((refine' ex_upd ?xa ?xb); (case xb => walk_at "free"); (case xa => walk_at "ex"))
  | ((refine' Ex.trans ?xa ?xb); (case xb => assumption); (case xa => walk_at "ex")))
local macro_rules | `(tactic| walk_at "free") => `(tactic| first
  | assumption
  | ((refine' fresh_back ?xa ?xb); (case xb => assumption); (case xa => walk_at "ex")))
local macro_rules | `(tactic| walk_at "fr") => `(tactic| first
  | assumption
  | exact Fr.refl _ _
  | ((refine' Fr.own ?hq); (case hq => walk_at "fr"))
  | ((refine' Fr.new ?xa ?xb); (case xb => assumption); (case xa => walk_at "fr"))
  | ((refine' Fr.mut ?xa ?xb); (case xb => assumption); (case xa => walk_at "fr"))
  | ((refine' Fr.trans ?xa ?xb); (case xb => assumption); (case xa => walk_at "fr"))
  | ((refine' Fr.trans ?xa (Fr.ex ?xb)); (case xb => assumption); (case xa => walk_at "fr")))
local macro_rules | `(tactic| walk_at "go1") => `(tactic| first
  | (with_reducible refine' w_seq ?_)
  | (with_reducible refine' w_asg ?_)
  | (with_reducible refine' w_ret ?_)
  | (with_reducible refine' w_drop ?_)
  | (with_reducible refine' w_if ?_)
  | (with_reducible refine' w_next ?_)
  | (with_reducible refine' w_name ?_)
  | (with_reducible refine' w_sub ?_)
  | ((with_reducible refine' w_var ?hv ?_); (case hv => exact rfl))
  | (with_reducible refine' w_c ?_)
  | (with_reducible refine' w_op ?_)
  | (with_reducible refine' w_un ?_)
  | (with_reducible refine' w_ch ?_)
  | (with_reducible refine' w_I0 ?_)
  | ((with_reducible refine' w_I ?hc ?_); (case hc => first | (exact ly_mulL (by decide) (by decide)) | (exact ly_mulR (by decide) (by decide)) | (exact ly_mulL (by omega) (by omega)) | (show (_ : Int) ≠ 0; decide) | (show (_ : Int) ≠ 0; omega) | (exact ⟨by decide, by decide⟩) | (exact ⟨by omega, by omega⟩)))
  | (with_reducible refine' w_U ?_)
  | ((with_reducible refine' w_eq ?hs ?_); (case hs => exact rfl))
  | ((with_reducible refine' w_ne ?hs ?_); (case hs => exact rfl))
  | (with_reducible refine' w_isB ?_)
  | (with_reducible refine' w_notB ?_)
  | (with_reducible refine' w_nil ?_)
  | (with_reducible refine' w_cons ?_)
  | (with_reducible refine' w_tup ?_)
  | (with_reducible refine' w_lst ?_)
  | (with_reducible refine' w_cb ?_)
  | (with_reducible refine' w_call ?_)
  | (with_reducible refine' w_bm ?_)
  | (with_reducible refine' w_bm0 ?_)
  | ((with_reducible refine' w_app ?hh ?hz ?_); (case hh => walk_at "hp"); (case hz => first | exact ly_lt (by omega) | exact ly_lt (by simp only [List.length_append, List.length_map, List.length_cons, List.length_nil]; omega)))
  | ((with_reducible refine' w_popA ?hh ?_); (case hh => walk_at "hp"))
  | ((with_reducible refine' w_ext ?hh ?hh2 ?hz ?_); (case hh => walk_at "hp"); (case hh2 => walk_at "hp"))
  | ((with_reducible refine' w_ixL ?hh ?ha ?_); (case hh => walk_at "hp"); (case ha => first | exact rfl | exact at_map (by omega) | exact atI_last _ _ | ((refine' at_of ?ae ?ah); (case ah => assumption); (case ae => omega))))
  | ((with_reducible refine' w_ixT ?hh ?ha ?_); (case hh => walk_at "hp"); (case ha => first | exact rfl | exact at_map (by omega) | exact atI_last _ _ | ((refine' at_of ?ae ?ah); (case ah => assumption); (case ae => omega))))
  | ((with_reducible refine' w_cat ?hh ?hh2 ?hz ?_); (case hh => walk_at "hp"); (case hh2 => walk_at "hp"))
  | ((with_reducible refine' w_setL ?hh ?ha ?_); (case hh => walk_at "hp"); (case ha => exact rfl))
  | (with_reducible refine' w_test ?_)
  | (with_reducible refine' w_tB ?_)
  | (with_reducible refine' w_bl ?_)
  | (with_reducible refine' w_and ?_)
  | (with_reducible refine' w_or ?_)
  | (with_reducible refine' w_not ?_)
  | (with_reducible refine' w_andV ?_)
  | (with_reducible refine' w_orV ?_)
  | (with_reducible refine' w_notV ?_)
  | (with_reducible refine' w_ifE ?_)
  | (with_reducible refine' w_for ?_)
  | ((with_reducible refine' w_nin ?hh ?_); (case hh => walk_at "hp"))
  | ((with_reducible refine' w_sorted ?hh ?_); (case hh => walk_at "hp"))
  | (with_reducible refine' w_tsadd ?_)
  | ((with_reducible refine' w_tsadd1 ?hh ?_); (case hh => walk_at "hp"))
  | ((with_reducible refine' w_sadd ?hh ?hr ?_); (case hh => walk_at "hp"); (case hr => omega))
  | (with_reducible refine' w_iZ ?_)
  | ((with_reducible refine' w_iZ1 ?hh ?hh2 ?_); (case hh => walk_at "hp"); (case hh2 => walk_at "hp"))
  | (with_reducible refine' w_iS ?_)
  | (with_reducible refine' w_iS1 ?_)
  | ((with_reducible refine' w_gtup ?hh ?hn ?_); (case hh => walk_at "hp"); (case hn => exact rfl))
  | (with_reducible refine' w_gcons ?_)
  | (with_reducible refine' w_gnil ?_)
  | (with_reducible refine' w_js ?_)
  | (with_reducible refine' w_jsn ?_)
  | ((with_reducible refine' w_js1 ?hl ?_); (case hl => decide +kernel))
  | (with_reducible refine' w_fmt ?_)
  | ((with_reducible refine' w_fmt1 ?hl ?_); (case hl => decide +kernel))
  | (with_reducible refine' w_callS ?_)
  | ((with_reducible refine' w_truL ?hh ?_); (case hh => walk_at "hp"))
  | (with_reducible refine' w_lc ?_)
  | (with_reducible refine' w_yes ?_)
  | ((with_reducible refine' w_wipe ?he ?_); (case he => exact rfl))
  | (with_reducible refine' w_iL ?_)
  | (with_reducible refine' w_iT ?_)
  | (with_reducible refine' w_iR ?_)
  | ((with_reducible refine' w_iL1 ?hh ?_); (case hh => walk_at "hp"))
  | ((with_reducible refine' w_iT1 ?hh ?_); (case hh => walk_at "hp"))
  | ((with_reducible refine' w_iR1 ?h1 ?h2 ?_); (case h1 => omega); (case h2 => omega))
  | ((with_reducible refine' w_aug ?hv ?_); (case hv => exact rfl))
  | (with_reducible refine' w_ipI ?_)
  | ((with_reducible refine' w_isi ?hy ?hk ?_); (case hy => walk_at "ty"); (case hk => walk_at "kit"))
  | ((with_reducible refine' w_int ?_))
  | ((with_reducible refine' w_intB ?_))
  | ((with_reducible refine' w_abs ?_))
  | ((with_reducible refine' w_lenL ?hh ?_); (case hh => walk_at "hp"))
  | ((with_reducible refine' w_lenT ?hh ?_); (case hh => walk_at "hp"))
  | ((with_reducible refine' w_tupL ?hh ?_); (case hh => walk_at "hp"))
  | ((with_reducible refine' w_tupT ?hh ?_); (case hh => walk_at "hp"))
  | ((with_reducible refine' w_catA ?hh ?hh2 ?hz ?_); (case hh => walk_at "hp"); (case hh2 => walk_at "hp"); (case hz => walk_at "len"))
  | ((with_reducible refine' w_repB ?hh ?hne ?h2 ?h3 ?hz ?_); (case hh => walk_at "hp"); (case hne => simp); (case h2 => omega); (case h3 => omega); (case hz => exact Nat.le_of_ble_eq_true rfl))
  | ((with_reducible refine' w_eqN ?hh ?hh2 ?n1 ?n2 ?_); (case hh => walk_at "hp"); (case hh2 => walk_at "hp"); (case n1 => walk_at "nd"); (case n2 => walk_at "nd"))
  | ((with_reducible refine' w_neN ?hh ?hh2 ?n1 ?n2 ?_); (case hh => walk_at "hp"); (case hh2 => walk_at "hp"); (case n1 => walk_at "nd"); (case n2 => walk_at "nd"))
  | ((with_reducible refine' w_eqL ?hh ?hh2 ?n1 ?n2 ?_); (case hh => walk_at "hp"); (case hh2 => walk_at "hp"); (case n1 => walk_at "nd"); (case n2 => walk_at "nd"))
  | ((with_reducible refine' w_neL ?hh ?hh2 ?n1 ?n2 ?_); (case hh => walk_at "hp"); (case hh2 => walk_at "hp"); (case n1 => walk_at "nd"); (case n2 => walk_at "nd"))
  | ((with_reducible refine' w_neNon ?hh2 ?n2 ?_); (case hh2 => walk_at "hp"); (case n2 => walk_at "nd"))
  | ((with_reducible refine' w_eqNon ?hh2 ?n2 ?_); (case hh2 => walk_at "hp"); (case n2 => walk_at "nd"))
  | ((with_reducible refine' w_slA ?hh ?_); (case hh => walk_at "hp"))
  | ((with_reducible refine' w_disp ?hz ?_); (case hz => exact sz_of (Nat.le_of_ble_eq_true rfl)))
  | ((with_reducible refine' w_tyL ?hh ?_); (case hh => walk_at "hp"))
  | (with_reducible refine' iteT ?_)
  | (with_reducible refine' iteF ?_)
  | (with_reducible refine' w_nT ?_)
  | (with_reducible refine' w_nn ?_)
  | (with_reducible refine' w_nnT ?_)
  | (with_reducible refine' w_nnR ?_)
  | (with_reducible refine' w_neG ?_)
  | (with_reducible refine' w_eqG ?_)
  | (with_reducible refine' w_neS ?_)
  | (with_reducible refine' w_eqS ?_)
  | (with_reducible refine' w_neSb ?_)
  | (with_reducible refine' w_eqSb ?_)
  | (with_reducible refine' w_deIS ?_)
  | (with_reducible refine' w_deSI ?_)
  | (with_reducible refine' w_deISn ?_)
  | ((with_reducible refine' w_deST ?he ?_); (case he => decide +kernel))
  | ((with_reducible refine' w_deSF ?he ?_); (case he => decide +kernel))
  | ((with_reducible refine' w_deSTn ?he ?_); (case he => decide +kernel))
  | ((with_reducible refine' w_deSFn ?he ?_); (case he => decide +kernel))
  | (with_reducible refine' w_nF ?_)
  | dsimp only [Bool.not_true, Bool.not_false])
local macro_rules | `(tactic| walk_at "ty") => `(tactic| first
  | exact .base (.int _) | exact .base (.str _) | exact .base (.bl _) | exact .base .non
  | ((refine' tyx_t ?hq); (case hq => walk_at "hp")) | ((refine' tyx_l ?hq); (case hq => walk_at "hp")) | ((refine' .base (.tup ?hq)); (case hq => walk_at "hp")) | assumption)
local macro_rules | `(tactic| walk_at "go") => `(tactic| repeat walk_at "go1")
local macro_rules | `(tactic| walk_at "st") => `(tactic| try dsimp only [cxOf, Cx.nox, Cx.wish])
local macro_rules | `(tactic| walk_at "kit") => `(tactic| with_reducible first | exact kit_int_int | exact kit_int_str | exact kit_int_bool | exact kit_int_tuple | exact kit_int_list | exact kit_str_int | exact kit_str_str | exact kit_str_bool | exact kit_str_tuple | exact kit_str_list | exact kit_bool_int | exact kit_bool_str | exact kit_bool_bool | exact kit_bool_tuple | exact kit_bool_list | exact kit_NoneType_int | exact kit_NoneType_str | exact kit_NoneType_bool | exact kit_NoneType_tuple | exact kit_NoneType_list | exact kit_list_int | exact kit_list_str | exact kit_list_bool | exact kit_list_tuple | exact kit_list_list | exact kit_tuple_int | exact kit_tuple_str | exact kit_tuple_bool | exact kit_tuple_tuple | exact kit_tuple_list)
local macro_rules | `(tactic| walk_at "nd") => `(tactic| first
  | assumption
  | exact Tm.nds _
  | exact Nds.nil
  | exact Nds.ofInts _
  | ((refine' Nds.cons ?na ?nb); (case na => first | exact Nds.I _ | exact Nds.L | exact Nds.A); (case nb => walk_at "nd"))
  | ((refine' Nds.app ?na ?nb); (case na => walk_at "nd"); (case nb => walk_at "nd"))
  | ((refine' Nds.rep ?na _); (case na => walk_at "nd")))
local macro_rules | `(tactic| walk_at "len") => `(tactic| first
  | exact ly_sz (by omega)
  | ((simp only [List.length_append, List.length_cons, List.length_nil, List.length_map, PyProof.Rows.lm_len_rep_flat]); exact ly_sz (by omega)))
local macro_rules | `(tactic| walk_at "go1") => `(tactic| first
  | (with_reducible refine' w_kget2 ?_)
  | (with_reducible refine' w_isRN ?_)
  | (with_reducible refine' w_isNN ?_)
  | (with_reducible refine' w_isIN ?_)
  | ((with_reducible refine' w_kg ?hd ?_); (case hd => assumption)))
local macro_rules | `(tactic| walk_at "go1") => `(tactic| first
  | ((with_reducible refine' w_extT ?hh ?hh2 ?hz ?_); (case hh => walk_at "hp"); (case hh2 => walk_at "hp"))
  | ((with_reducible refine' w_I ?hc ?_); (case hc => exact ⟨by decide, by decide, by decide⟩))
  | (with_reducible refine' w_sl ?_)
  | (with_reducible refine' w_noP ?_)
  | (with_reducible refine' w_part ?_)
  | (with_reducible refine' w_part1 ?_)
  | (with_reducible refine' w_it ?_)
  | (with_reducible refine' w_it1 ?_)
  | ((with_reducible refine' w_lenZ ?hz ?_); (case hz => omega))
  | ((with_reducible refine' w_addZb ?hz ?_); (case hz => omega))
  | ((with_reducible refine' w_addZf ?hz ?_); (case hz => omega))
  | ((with_reducible refine' w_addZa ?hz ?_); (case hz => omega))
  | ((with_reducible refine' w_inS ?hh ?_); (case hh => walk_at "hp"))
  | ((with_reducible refine' w_ixT ?hh ?ha ?_); (case hh => assumption); (case ha => exact atI_nat (by assumption))))
local macro_rules | `(tactic| walk_at "go1") => `(tactic| first
  | (with_reducible refine' w_iR2 ?_)
  | ((with_reducible refine' w_iR21 ?h1 ?h2 ?h3 ?h4 ?_); (case h1 => omega); (case h2 => omega); (case h3 => omega); (case h4 => omega))
  | (with_reducible refine' w_nnI ?_)
  | (with_reducible refine' w_max ?_)
  | (with_reducible refine' w_break ?_)
  | (with_reducible refine' w_cont ?_))
local macro_rules | `(tactic| walk_at "go1") => `(tactic| first
  | (with_reducible refine' w_m1 ?_)
  | (with_reducible refine' w_m11 ?_)
  | (with_reducible refine' w_st2 ?_)
  | (with_reducible refine' w_sg ?_)
  | (with_reducible refine' w_sg2 ?_)
  | (with_reducible refine' w_sgSp ?_)
  | ((with_reducible refine' w_lcnt ?hh ?_); (case hh => walk_at "hp")))
local macro_rules | `(tactic| walk_at "hp") => `(tactic| first
  | ((refine' SqX.t ?hq); (case hq => assumption)))
local macro_rules | `(tactic| walk_at "go1") => `(tactic| first
  | (with_reducible refine' w_tupD ?_)
  | ((with_reducible refine' w_catF ?hh ?hh2 ?nx ?ny ?hz ?_); (case hh => walk_at "hp"); (case hh2 => walk_at "hp"); (case nx => first | (simp; done) | exact ne_flat (by assumption) | exact Tm.enc_ne _); (case ny => first | exact Tm.enc_ne _ | (simp; done)); (case hz => walk_at "len")))
section
variable {P : Program} {w : World} {K : PySem.W.Frag} {mg : Str → Option Value} {base : Heap} {tk : Nat → Tok} {cl : Nat → Addr}
theorem nm_small {w : List Nat} (h : IsNm w) : w.length ≤ 10 ∧ ∀ c ∈ w, c < 200 := by
  obtain ⟨c, ds, rfl, hc, hd, hl⟩ := h.ex
  refine ⟨by simp; omega, fun x hx => ?_⟩
  rcases List.mem_cons.mp hx with rfl | hx
  · have := of_decide_eq_true hc
    omega
  · have := of_decide_eq_true (List.all_eq_true.mp hd x hx)
    omega
theorem tok_len10 {w : List Nat} (h : IsTok w) : w.length ≤ 10 := by
  rcases h with h | rfl | rfl | rfl | rfl
  · exact (nm_small h).1
  all_goals decide
theorem wf_ok {m : Nat} : ∀ {t : Tm} {d : Nat}, t.wf (d + m) → okF m d t
  | .var _, _, h => h
  | .lam b, d, h => by
    have h2 : b.wf (d + m + 1) := h
    rw [show d + m + 1 = d + 1 + m by omega] at h2
    exact wf_ok (t := b) h2
  | .app f a, d, h => ⟨wf_ok (t := f) h.1, wf_ok (t := a) h.2⟩
theorem lamN_ok2 {m : Nat} {b : Tm} : ∀ (n d : Nat), okF m (d + n) b → okF m d (Tm.lamN n b)
  | 0, _, h => h
  | n + 1, d, h => lamN_ok2 n (d + 1) (by rw [show d + 1 + n = d + (n + 1) by omega]; exact h)
theorem Mk.ok {fs sc D ws t kd} (h : Mk fs sc D ws t kd) : okF fs.length sc.length t := by
  induction h with
  | name hn hk =>
    have := numOf_lt hk
    simp only [List.length_map] at this
    exact this
  | abs h1 h2 h3 h4 ih =>
    rw [List.length_append] at ih
    exact lamN_ok2 _ _ ih
  | app h1 h2 hl hr ih1 ih2 => exact ⟨ih1, ih2⟩
theorem ok_vars14 {m : Nat} : ∀ {t : Tm} {d : Nat}, okF m d t → t.vars (d + m + t.enc.length)
  | .var n, d, h => by
    have h : n < d + m := h
    show n ≤ d + m + 1
    omega
  | .lam b, d, h => by
    have ih := ok_vars14 (t := b) (d := d + 1) h
    show b.vars (d + m + (b.enc.length + 1))
    exact Tm.vars_mono (by omega) ih
  | .app f a, d, h => by
    have i1 := ok_vars14 (t := f) (d := d) h.1
    have i2 := ok_vars14 (t := a) (d := d) h.2
    have e : (Tm.app f a).enc.length = f.enc.length + a.enc.length + 1 := by simp [Tm.enc]
    show f.vars _ ∧ a.vars _
    rw [e]
    exact ⟨Tm.vars_mono (by omega) i1, Tm.vars_mono (by omega) i2⟩
theorem own_same {fs : List (List Nat)} {m n : Nat} (h : (own fs m).length = (own fs n).length) : own fs m = own fs n := by
  rcases Nat.le_total m n with l | l
  · obtain ⟨r, e⟩ := own_pre (fs := fs) l
    rw [e, List.length_append] at h
    have : r = [] := List.length_eq_zero_iff.mp (by omega)
    rw [e, this, List.append_nil]
  · obtain ⟨r, e⟩ := own_pre (fs := fs) l
    rw [e, List.length_append] at h
    have : r = [] := List.length_eq_zero_iff.mp (by omega)
    rw [e, this, List.append_nil]
def fsA : List (List Nat) := [[120], [97], [98, 55], [121], [100]]
def fsB : List (List Nat) := [[101], [102], [99, 49], [103], [107]]
theorem fsA_eq : [V.str "x", V.str "a", V.str "b7", V.str "y", V.str "d"] = plcs fsA := by decide +kernel
theorem fsB_eq : [V.str "e", V.str "f", V.str "c1", V.str "g", V.str "k"] = plcs fsB := by decide +kernel
def nmT : List Nat → Bool
  | [] => false
  | c :: ds => isLow c && ds.all isDig && decide (ds.length ≤ 8)
theorem nmT_of {w : List Nat} (h : nmT w = true) : IsNm w := by
  cases w with
  | nil => cases h
  | cons c ds => ?_
  have h : (isLow c && ds.all isDig && decide (ds.length ≤ 8)) = true := h
  rw [Bool.and_eq_true, Bool.and_eq_true] at h
  exact ⟨⟨c, ds, rfl, h.1.1, h.1.2, of_decide_eq_true h.2⟩⟩
structure Fs14 (fs : List (List Nat)) : Prop where
  nm : ∀ w ∈ fs, IsNm w
  nd : fs.Nodup
  len : fs.length = 5
theorem fsA_ok : Fs14 fsA := ⟨fun w hw => nmT_of (List.all_eq_true.mp (by decide +kernel : fsA.all nmT = true) w hw), by decide, rfl⟩
theorem fsB_ok : Fs14 fsB := ⟨fun w hw => nmT_of (List.all_eq_true.mp (by decide +kernel : fsB.all nmT = true) w hw), by decide, rfl⟩
theorem Fs14.ok {fs : List (List Nat)} (h : Fs14 fs) : NmOk fs := ⟨fun w hw => nmB_of (h.nm w hw), h.nd⟩
theorem Fs14.scp {fs : List (List Nat)} (h : Fs14 fs) {m : Nat} (hm : m ≤ 2600) : Scp (own fs m) fs := ⟨own_nm hm, h.nm, own_nodup fs hm, h.nd, fun w hw => (own_mem hw).1⟩
theorem pl_ne {H : Hp} {s p : Addr} {m : Stm} {ws : List (List Nat)} (st : StAt H s m) (h : H p = some (.lst (plcs ws))) : p ≠ s := fun z => by
  rw [z, st.2.1] at h
  have h3 := HO.lst.inj (Option.some.inj h)
  match ws, h3 with
  | _ :: _, h3 => simp [plcs] at h3
theorem tb_x {P a : Addr} {H H' : Hp} {xs : List V} (b : Tb P H H') (t : GxR.TabG H P) (h : SqX H a xs) : SqX H' a xs := by
  obtain ⟨ob, g1, g2, g3⟩ := h
  exact ⟨ob, b.at t g1 (fun q z => nomatch z), g2, g3⟩
def spLaw (K : PySem.W.Frag) (PT : Addr) : Sp := fun vs H Q _ => ∃ (a : Addr) (ns : List Int), vs = [.ref a] ∧ SqL K H a (ns.map V.int) ∧ ns.length ≤ 63 ∧ GxR.TabG H PT ∧ ∀ H', Q (.bl true) H'
theorem ok_law {f : Addr} {fd : FuncData} {PT : Addr} (F : Fun K "law" "law" s_law f fd) (T : Txt w K mg tk cl)
    (D1 : Def P w K mg base CX0 1 "_law_stream" ["script"] (spStream K)) (D2 : Def P w K mg base CX0 1 "_law_draw" ["stream", "many"] spDraw) (D3 : Def P w K mg base CX0 2 "_law_term" ["stream", "size", "loose"] spTerm)
    (D4 : Def P w K mg base (L2.CX P w) 6 "show" ["term", "names"] (spShow K PT (cl 5))) (D5 : Def P w K mg base (L2.CX P w) 6 "parse" ["text", "names"] (spParse K (cl 1)))
    (D6 : Def P w K mg base CX0 20 "_law_make" ["stream", "depth", "scope", "names"] (spMake K 12)) (D7 : Def P w K mg base CX0 1 "_law_wrapped" ["words"] spWrap) (D8 : Def P w K mg base CX0 2 "_law_text" ["stream", "words"] spText) : FnOk P w K mg base (L2.CX P w) 60 f fd ["script"] (spLaw K PT) := by
  obtain ⟨f1, fd1, g_law_stream, kp_law_stream, b_law_stream, G_law_stream⟩ := D1
  obtain ⟨f2, fd2, g_law_draw, kp_law_draw, b_law_draw, G_law_draw⟩ := D2
  obtain ⟨f3, fd3, g_law_term, kp_law_term, b_law_term, G_law_term⟩ := D3
  obtain ⟨f4, fd4, g_show, kp_show, b_show, G_show⟩ := D4
  obtain ⟨f5, fd5, g_parse, kp_parse, b_parse, G_parse⟩ := D5
  obtain ⟨f6, fd6, g_law_make, kp_law_make, b_law_make, G_law_make⟩ := D6
  obtain ⟨f7, fd7, g_law_wrapped, kp_law_wrapped, b_law_wrapped, G_law_wrapped⟩ := D7
  obtain ⟨f8, fd8, g_law_text, kp_law_text, b_law_text, G_law_text⟩ := D8
  refine F.okX sc_law (fun vs H Q E h => ?_) (fun cdv A outer s H vs Q E hr h => ?_)
  · obtain ⟨a, ns, rfl, _⟩ := h
    rfl
  · obtain ⟨a, ns, rfl, hS, hlen, tab, q⟩ := h
    refine ⟨_, (pss_cons (ps_set (i := 1) sc_law.nd rfl (.inl rfl) (pe_call G_law_stream (hr.mono (by first | decide | omega)) (by rfl) g_law_stream kp_law_stream b_law_stream .nil pass0 (pa_cons (pv 0) pa_nil))) (pss_cut (ps_set (i := 2) sc_law.nd rfl (.inl rfl) (pe_ix ix_list (pe_lst (pa_cons (pe_lst (pa_cons pe_str (pa_cons pe_str (pa_cons pe_str (pa_cons pe_str (pa_cons pe_str pa_nil)))))) (pa_cons (pe_lst (pa_cons pe_str (pa_cons pe_str (pa_cons pe_str (pa_cons pe_str (pa_cons pe_str pa_nil)))))) pa_nil))) (pe_call G_law_draw (hr.mono (by first | decide | omega)) (by rfl) g_law_draw kp_law_draw b_law_draw .nil pass0 (pa_cons (pv 1) (pa_cons pe_int pa_nil))) (fun _ _ => rfl))) (pss_cons (ps_set (i := 3) sc_law.nd rfl (.inl rfl) (pe_call G_law_term (hr.mono (by first | decide | omega)) (by rfl) g_law_term kp_law_term b_law_term .nil pass0 (pa_cons (pv 1) (pa_cons (pe_op op_add pe_int (pe_call G_law_draw (hr.mono (by first | decide | omega)) (by rfl) g_law_draw kp_law_draw b_law_draw .nil pass0 (pa_cons (pv 1) (pa_cons pe_int pa_nil)))) (pa_cons pe_int pa_nil))))) (pss_cons (ps_set (i := 4) sc_law.nd rfl (.inl rfl) (pe_call G_show (hr.mono (by first | decide | omega)) (by rfl) g_show kp_show b_show .nil (passes_call (takes_of rfl rfl rfl rfl) (fun _ _ _ _ h => h)) (pa_cons (pv 3) (pa_cons (pv 2) pa_nil)))) (pss_cons (ps_if (PW.pt (pw_or (pt_not (pt_val (pe_callB call_isi (by rfl) T.n_isinstance (by decide +kernel) (pa_cons (pv 4) (pa_cons (pe_bltn (v := .ty "str") (by rfl) T.n_str (by decide +kernel) rfl) pa_nil))))) (pw_or1 (pt_cmpR (op_neD hr.units) (pe_call G_parse (hr.mono (by first | decide | omega)) (by rfl) g_parse kp_parse b_parse .nil (passes_call (takes_of rfl rfl rfl rfl) (fun _ _ _ _ h => h)) (pa_cons (pv 4) (pa_cons (pv 2) pa_nil))) (pv 3) (nomark _))))) (pss_one (ps_ret pe_bl)) pss_nil) (pss_cons (ps_asg (pe_call G_law_make (hr.mono (by first | decide | omega)) (by rfl) g_law_make kp_law_make b_law_make .nil pass0 (pa_cons (pv 1) (pa_cons (pe_call G_law_draw (hr.mono (by first | decide | omega)) (by rfl) g_law_draw kp_law_draw b_law_draw .nil pass0 (pa_cons (pv 1) (pa_cons pe_int pa_nil))) (pa_cons (pe_lst pa_nil) (pa_cons (pv 2) pa_nil))))) (pg_tup (by rfl) (pgs_cons (pg_name (i := 5) sc_law.nd rfl (.inl rfl)) (pgs_cons (pg_name (i := 6) sc_law.nd rfl (.inl rfl)) (pgs_cons (pg_name (i := 7) sc_law.nd rfl (.inl rfl)) pgs_nil))))) (pss_cons (ps_set (i := 8) sc_law.nd rfl (.inl rfl) (pe_call G_law_text (hr.mono (by first | decide | omega)) (by rfl) g_law_text kp_law_text b_law_text .nil pass0 (pa_cons (pv 1) (pa_cons (pv 5) pa_nil)))) (pss_cons (ps_set (i := 9) sc_law.nd rfl (.inl rfl) (pe_call G_law_text (hr.mono (by first | decide | omega)) (by rfl) g_law_text kp_law_text b_law_text .nil pass0 (pa_cons (pv 1) (pa_cons (pe_call G_law_wrapped (hr.mono (by first | decide | omega)) (by rfl) g_law_wrapped kp_law_wrapped b_law_wrapped .nil pass0 (pa_cons (pv 5) pa_nil)) pa_nil)))) (pss_cons (ps_if (PW.pt (pw_or (pt_cmpR (op_neD hr.units) (pe_call G_parse (hr.mono (by first | decide | omega)) (by rfl) g_parse kp_parse b_parse .nil (passes_call (takes_of rfl rfl rfl rfl) (fun _ _ _ _ h => h)) (pa_cons (pv 8) (pa_cons (pv 2) pa_nil))) (pv 6) (nomark _)) (pw_or1 (pt_cmpR (op_neD hr.units) (pe_call G_parse (hr.mono (by first | decide | omega)) (by rfl) g_parse kp_parse b_parse .nil (passes_call (takes_of rfl rfl rfl rfl) (fun _ _ _ _ h => h)) (pa_cons (pv 9) (pa_cons (pv 2) pa_nil))) (pv 6) (nomark _))))) (pss_one (ps_ret pe_bl)) pss_nil) (pss_one (ps_ret (pe_and (pe_cmpR (op_eqD hr.units) (pe_call G_parse (hr.mono (by first | decide | omega)) (by rfl) g_parse kp_parse b_parse .nil (passes_call (takes_of rfl rfl rfl rfl) (fun _ _ _ _ h => h)) (pa_cons (pe_call G_show (hr.mono (by first | decide | omega)) (by rfl) g_show kp_show b_show .nil (passes_call (takes_of rfl rfl rfl rfl) (fun _ _ _ _ h => h)) (pa_cons (pv 6) (pa_cons (pv 2) pa_nil))) (pa_cons (pv 2) pa_nil))) (pv 6) (nomark _)) (pe_one (pe_cmpR op_eq (pe_call G_show (hr.mono (by first | decide | omega)) (by rfl) g_show kp_show b_show .nil (passes_call (takes_of rfl rfl rfl rfl) (fun _ _ _ _ h => h)) (pa_cons (pe_call G_parse (hr.mono (by first | decide | omega)) (by rfl) g_parse kp_parse b_parse .nil (passes_call (takes_of rfl rfl rfl rfl) (fun _ _ _ _ h => h)) (pa_cons (pv 8) (pa_cons (pv 2) pa_nil))) (pa_cons (pv 2) pa_nil))) (pe_call G_show (hr.mono (by first | decide | omega)) (by rfl) g_show kp_show b_show .nil (passes_call (takes_of rfl rfl rfl rfl) (fun _ _ _ _ h => h)) (pa_cons (pe_call G_parse (hr.mono (by first | decide | omega)) (by rfl) g_parse kp_parse b_parse .nil (passes_call (takes_of rfl rfl rfl rfl) (fun _ _ _ _ h => h)) (pa_cons (pv 9) (pa_cons (pv 2) pa_nil))) (pa_cons (pv 2) pa_nil))) (nomark _))))))))))))))), ?_⟩
    refine sl_of (σ2 := [some _, none, none, none, none, none, none, none, none, none]) rfl ?_
    walk_at "st"
    walk_at "go"
    refine ⟨a, ns, rfl, hS, hlen, fun H1 s1 l e1 hs1 st1 => ?_⟩
    have tab1 := tab_ex tab e1
    generalize (⟨l, ns, 0, 0, mixOf ns⟩ : Stm) = m1 at *
    clear hs1 e1 hS tab
    walk_at "go"
    refine w_cut (M := fun σ' H' => ∃ (pn : Addr) (fs : List (List Nat)) (m' : Stm), σ' = [some (.ref a), some (.ref s1), some (.ref pn), none, none, none, none, none, none, none] ∧ StAt H' s1 m' ∧ GxR.TabG H' PT ∧ H' pn = some (.lst (plcs fs)) ∧ Fs14 fs) ?_ ?_
    · walk_at "go"
      intro p1 hp1
      rw [fsA_eq]
      have e2 := Ex.new hp1 (o := .lst (plcs fsA))
      have h2 : upd H1 p1 (.lst (plcs fsA)) p1 = some (.lst (plcs fsA)) := upd_same
      have st2 := st1.ex e2
      have tab2 := tab_ex tab1 e2
      generalize upd H1 p1 (.lst (plcs fsA)) = H2 at *
      clear e2 hp1 st1 tab1
      walk_at "go"
      intro p2 hp2
      rw [fsB_eq]
      have e3 := Ex.new hp2 (o := .lst (plcs fsB))
      have h3 : upd H2 p2 (.lst (plcs fsB)) p2 = some (.lst (plcs fsB)) := upd_same
      have h2 := e3 _ _ h2
      have st3 := st2.ex e3
      have tab3 := tab_ex tab2 e3
      generalize upd H2 p2 (.lst (plcs fsB)) = H3 at *
      clear e3 hp2 st2 tab2
      walk_at "go"
      intro p3 hp3
      have e4 := Ex.new hp3 (o := .lst [V.ref p1, V.ref p2])
      have h4 : upd H3 p3 (.lst [V.ref p1, V.ref p2]) p3 = some (.lst [V.ref p1, V.ref p2]) := upd_same
      have h2 := e4 _ _ h2
      have h3 := e4 _ _ h3
      have st4 := st3.ex e4
      have tab4 := tab_ex tab3 e4
      have n3 := (st3.ne hp3).1
      generalize upd H3 p3 (.lst [V.ref p1, V.ref p2]) = H4 at *
      clear e4 hp3 st3 tab3
      walk_at "go"
      refine ⟨s1, m1, 2, rfl, st4, by decide, by decide, fun H5 fr5 st5 => ?_⟩
      have v5 := m1.val_lt (n := 2) (by decide)
      have h2 := fr5 _ _ (pl_ne st4 h2) h2
      have h3 := fr5 _ _ (pl_ne st4 h3) h3
      have h4 := fr5 _ _ n3 h4
      have tab5 := tab_fr tab4 fr5 st4.2.1
      generalize m1.val 2 = n5 at *
      generalize m1.next 2 = m5 at *
      clear fr5 st4 tab4
      rcases (by omega : n5 = 0 ∨ n5 = 1) with rfl | rfl
      · refine w_ixL (SqL.of h4) (v := .ref p1) rfl ?_
        walk_at "go"
        exact ⟨p1, fsA, m5, rfl, st5, tab5, h2, fsA_ok⟩
      · refine w_ixL (SqL.of h4) (v := .ref p2) rfl ?_
        walk_at "go"
        exact ⟨p2, fsB, m5, rfl, st5, tab5, h3, fsB_ok⟩
    rintro σ' H2 ⟨pn, fs, m2, rfl, st2, tab2, hn2, F5⟩
    clear st1 tab1
    walk_at "go"
    refine ⟨s1, m2, 50, rfl, st2, by decide, by decide, fun H3 fr3 st3 => ?_⟩
    have v3 := m2.val_lt (n := 50) (by decide)
    have hn3 := fr3 _ _ (pl_ne st2 hn2) hn2
    have tab3 := tab_fr tab2 fr3 st2.2.1
    generalize m2.val 50 = n3 at *
    generalize m2.next 50 = m3 at *
    obtain ⟨sz, rfl⟩ : ∃ k : Nat, n3 = (k : Int) := ⟨n3.toNat, (Int.toNat_of_nonneg v3.1).symm⟩
    clear fr3 st2 hn2 tab2
    walk_at "go"
    refine ⟨s1, m3, 1 + sz, 5, rfl, st3, by omega, by omega, by decide, fun H4 pt m4 t fr4 st4 _ _ ht4 hwf _ htl => ?_⟩
    have hn4 := fr4 _ _ (pl_ne st3 hn3) hn3
    have tab4 := tab_fr tab3 fr4 st3.2.1
    have htl := htl (by decide)
    have hok : okF fs.length 0 t := wf_ok (by rw [F5.len]; exact hwf)
    have hfl := F5.len
    have hnm := F5.ok
    have hfw : ∀ w ∈ fs, w.length ≤ 1000000 := fun w hw => by
      have := (nm_small (F5.nm w hw)).1
      omega
    have hsmall : Small fs := fun w hw => (nm_small (F5.nm w hw)).2
    have hll := lams_le t
    have hop := opn_le t
    have hvr := ok_vars14 hok
    have hfit := fits_of (t := t) (Tm.vars_mono (by omega) hvr) (by omega)
    have htx : ∀ H : Hp, H pn = some (.lst (plcs fs)) → H pn = some (.lst (txts (fs.map pl))) := fun H h => by rw [h]; simp [plcs, txts]
    clear fr4 st3 hn3 tab3 hwf
    walk_at "go"
    refine ⟨pt, pn, t, fs, rfl, ht4, by omega, hn4, by omega, hfw, tab4, fun _ _ H5 bs m tb5 hbs hbl hm => ?_, fun hno => absurd ⟨hnm, hok⟩ hno⟩
    have hn5 := tb5.lst tab4 hn4
    have ht5 := tb_x tb5 tab4 ht4
    have st5 : StAt H5 s1 m4 := ⟨st4.1, tb5.lst tab4 st4.2.1, tb5.lst tab4 st4.2.2⟩
    have tab5 := tb5.1
    have S : Scp bs fs := by
      rw [hbs]
      exact F5.scp (by omega)
    have hshl := shw_len (fun w hw => nmB_of (S.nb w hw)) hnm.1 t 0 (by omega) hok
    clear tb5 tab4 hn4 ht4 st4
    walk_at "go"
    refine ⟨shw bs fs 0 t, pn, fs.map pl, t.enc, rfl, htx _ hn5, by omega, by simp; omega, S.parse (by omega) hok (by have := Nat.le_trans (Nat.le_add_right _ _) hop; omega), Tm.flat _, fun _ H6 p6 e6 hp6 => ?_, fun z => by rw [hfit] at z; cases z⟩
    have hn6 := e6 _ _ hn5
    have ht6 := ht5.ex e6
    have st6 := st5.ex e6
    have tab6 := tab_ex tab5 e6
    clear e6 hn5 ht5 st5 tab5
    walk_at "go"
    refine ⟨s1, m4, 5, rfl, st6, by decide, by decide, fun H7 fr7 st7 => ?_⟩
    have v7 := m4.val_lt (n := 5) (by decide)
    have hn7 := fr7 _ _ (pl_ne st6 hn6) hn6
    have tab7 := tab_fr tab6 fr7 st6.2.1
    generalize m4.val 5 = n7 at *
    generalize m4.next 5 = m7 at *
    obtain ⟨dd, rfl⟩ : ∃ k : Nat, n7 = (k : Int) := ⟨n7.toNat, (Int.toNat_of_nonneg v7.1).symm⟩
    clear fr7 st6 hn6 tab6 hp6 ht6
    walk_at "go"
    intro p8 hp8
    have e8 := Ex.new hp8 (o := .lst (plcs []))
    have h8 : upd H7 p8 (.lst (plcs [])) p8 = some (.lst (plcs [])) := upd_same
    rw [show (HO.lst ([] : List V)) = .lst (plcs []) from rfl]
    have hn8 := e8 _ _ hn7
    have st8 := st7.ex e8
    have tab8 := tab_ex tab7 e8
    generalize upd H7 p8 (.lst (plcs [])) = H8 at *
    clear e8 hp8 st7 tab7 hn7
    walk_at "go"
    have hfne : fs ≠ [] := fun z => by rw [z] at hfl; cases hfl
    have he0 : (if ([] : List (List Nat)) = [] ∧ fs = [] then 1 else 0) = 0 := if_neg (fun z => hfne z.2)
    refine ⟨s1, p8, pn, m7, dd, [], fs, rfl, st8, h8, hn8, by rw [he0]; omega, by decide, by simp, by omega, by simp, F5.nm, fun H9 p9 pw pu m9 ws u kd fr9 st9 _ hp9 hpw hpu hmk => ?_⟩
    rw [he0, Nat.add_zero] at hmk
    have hn9 := fr9 _ _ (pl_ne st8 hn8) hn8
    have tab9 := tab_fr tab8 fr9 st8.2.1
    have hsz := hmk.size
    have h2p : 2 ^ dd ≤ 2 ^ 4 := Nat.pow_le_pow_right (by decide) (by omega)
    have hok2 : okF fs.length 0 u := hmk.ok
    have hvr2 := ok_vars14 hok2
    have hfit2 := fits_of (t := u) (Tm.vars_mono (by omega) hvr2) (by omega)
    have hop2 := opn_le u
    have hll2 := lams_le u
    have hopn : u.opn ≤ 58 := by have := Nat.le_trans (Nat.le_add_right _ _) hop2; omega
    have htk : ∀ w ∈ ws, w.length ≤ 10 := fun w hw => tok_len10 (hmk.toks w hw)
    have htk2 : ∀ w ∈ wrapW ws, w.length ≤ 10 := fun w hw => tok_len10 (wrap_toks hmk.toks w hw)
    have lw2 : (wrapW ws).length = ws.length + 2 := by simp [wrapW]
    clear fr9 st8 hn8 tab8 h8 S hshl hvr hop hll hfit hok htl
    walk_at "go"
    refine ⟨s1, pw, m9, ws, rfl, st9, hpw, by omega, htk, fun H10 m10 g1 fr10 st10 hg1 hr1 => ?_⟩
    have hn10 := fr10 _ _ (pl_ne st9 hn9) hn9
    have hpw10 := fr10 _ _ (pl_ne st9 hpw) hpw
    have hu10 := hpu.fr fr10 st9.2.1
    have tab10 := tab_fr tab9 fr10 st9.2.1
    clear fr10 st9 hn9 tab9 hpw hpu
    walk_at "go"
    refine ⟨pw, ws, rfl, hpw10, by omega, fun H11 p11 e11 hp11 => ?_⟩
    have hn11 := e11 _ _ hn10
    have hu11 := hu10.ex e11
    have st11 := st10.ex e11
    have tab11 := tab_ex tab10 e11
    clear e11 hn10 hu10 st10 tab10 hpw10
    walk_at "go"
    refine ⟨s1, p11, m10, wrapW ws, rfl, st11, hp11, by omega, htk2, fun H12 m12 g2 fr12 st12 hg2 hr2 => ?_⟩
    have hn12 := fr12 _ _ (pl_ne st11 hn11) hn11
    have hu12 := hu11.fr fr12 st11.2.1
    have tab12 := tab_fr tab11 fr12 st11.2.1
    clear fr12 st11 hn11 tab11 hp11 hu11
    have hP1 := hmk.parse (by omega) (.inl rfl) hg1 0 0
    have hP2 := hmk.parse (by omega) (.inr rfl) hg2 0 0
    rw [List.replicate_zero, List.nil_append, List.append_nil] at hP1 hP2
    walk_at "go"
    refine ⟨rend g1 ws, pn, fs.map pl, u.enc, rfl, htx _ hn12, by omega, by simp; omega, hP1, Tm.flat _, fun _ H13 p13 e13 hp13 => ?_, fun z => by rw [hfit2] at z; cases z⟩
    have hn13 := e13 _ _ hn12
    have hu13 := hu12.ex e13
    have tab13 := tab_ex tab12 e13
    clear e13 hn12 hu12 st12 tab12
    walk_at "go"
    refine ⟨rend g2 (wrapW ws), pn, fs.map pl, u.enc, rfl, htx _ hn13, by omega, by simp; omega, hP2, Tm.flat _, fun _ H14 p14 e14 hp14 => ?_, fun z => by rw [hfit2] at z; cases z⟩
    have hn14 := e14 _ _ hn13
    have hu14 := hu13.ex e14
    have tab14 := tab_ex tab13 e14
    clear e14 hn13 hu13 tab13 hp13
    walk_at "go"
    refine ⟨pu, pn, u, fs, rfl, hu14, by omega, hn14, by omega, hfw, tab14, fun _ _ H15 bs2 m2 tb15 hbs2 hbl2 hm2 => ?_, fun hno => absurd ⟨hnm, hok2⟩ hno⟩
    have hn15 := tb15.lst tab14 hn14
    have hu15 := tb_x tb15 tab14 hu14
    have tab15 := tb15.1
    have S2 : Scp bs2 fs := by
      rw [hbs2]
      exact F5.scp (by omega)
    have hshl2 := shw_len (fun w hw => nmB_of (S2.nb w hw)) hnm.1 u 0 (by omega) hok2
    clear tb15 hn14 hu14 tab14 hp14
    walk_at "go"
    refine ⟨shw bs2 fs 0 u, pn, fs.map pl, u.enc, rfl, htx _ hn15, by omega, by simp; omega, S2.parse (by omega) hok2 hopn, Tm.flat _, fun _ H16 p16 e16 hp16 => ?_, fun z => by rw [hfit2] at z; cases z⟩
    have hn16 := e16 _ _ hn15
    have hu16 := hu15.ex e16
    have tab16 := tab_ex tab15 e16
    clear e16 hn15 hu15 tab15
    walk_at "go"
    refine ⟨rend g1 ws, pn, fs.map pl, u.enc, rfl, htx _ hn16, by omega, by simp; omega, hP1, Tm.flat _, fun _ H17 p17 e17 hp17 => ?_, fun z => by rw [hfit2] at z; cases z⟩
    have hn17 := e17 _ _ hn16
    have tab17 := tab_ex tab16 e17
    clear e17 hn16 hu16 tab16 hp16
    walk_at "go"
    refine ⟨p17, pn, u, fs, rfl, hp17, by omega, hn17, by omega, hfw, tab17, fun _ _ H18 bs3 m3' tb18 hbs3 hbl3 hm3 => ?_, fun hno => absurd ⟨hnm, hok2⟩ hno⟩
    have hn18 := tb18.lst tab17 hn17
    have tab18 := tb18.1
    clear tb18 hn17 tab17 hp17
    walk_at "go"
    refine ⟨rend g2 (wrapW ws), pn, fs.map pl, u.enc, rfl, htx _ hn18, by omega, by simp; omega, hP2, Tm.flat _, fun _ H19 p19 e19 hp19 => ?_, fun z => by rw [hfit2] at z; cases z⟩
    have hn19 := e19 _ _ hn18
    have tab19 := tab_ex tab18 e19
    clear e19 hn18 tab18
    walk_at "go"
    refine ⟨p19, pn, u, fs, rfl, hp19, by omega, hn19, by omega, hfw, tab19, fun _ _ H20 bs4 m4' tb20 hbs4 hbl4 hm4 => ?_, fun hno => absurd ⟨hnm, hok2⟩ hno⟩
    have eB : bs4 = bs3 := by
      rw [hbs4, hbs3]
      refine own_same ?_
      rw [← hbs4, ← hbs3, hbl4, hbl3]
    rw [eB]
    have S3 : Scp bs3 fs := by
      rw [hbs3]
      exact F5.scp (by omega)
    walk_at "go"
    rw [decide_eq_true rfl]
    exact q _
end
end Ly
set_option Elab.async false
set_option linter.all false
set_option maxRecDepth 100000
set_option maxHeartbeats 8000000
namespace Ly
open PySem PySem.Spec PyProof.Rows L2 Evl

-- endR _law_make ok_make 20:12 _law_draw _law_drawn_name _law_scope_names _law_use _law_wrapped
theorem all_mk {q : Program} {r0 : DefRec} {cT PT : Addr} {ocT : Value} {odT : Option Addr} {vsT : Array Value} {slT : Array (Option Value)} {l : PySem.W.OpenLaw} {w : World} {K : PySem.W.Frag} {h : Heap} {mg : Str → Option Value} {fa f1 f2 f3 f4 f5 f6 f7 f8 f9 f10 f11 f12 f13 f14 f15 f16 f17 f18 f19 f20 f21 f22 f23 f24 f25 f26 f27 f28 f29 f30 f31 f32 f33 f34 f35 f36 f37 f38 f39 cc0 cc1 cc5 cc21 cc22 : Addr} (X : K.In h) (G : h.Ns mainGlobals mg) (hfa : mg "law" = some (.ref fa))
    {od1 an1 od2 an2 od3 an3 od4 an4 od5 an5 od6 an6 od7 an7 od8 an8 od9 an9 od10 an10 od11 an11 od12 an12 od13 an13 od14 an14 od15 an15 od16 an16 od17 an17 od18 an18 od19 an19 od20 an20 od21 an21 od22 an22 od23 an23 od24 an24 od25 an25 od26 an26 od27 an27 od28 an28 od29 an29 od30 an30 od31 an31 od32 an32 od33 an33 od34 an34 od35 an35 od36 an36 od37 an37 od38 an38 od39 an39 : Option Addr} {sl1 sl2 sl3 sl4 sl5 sl6 sl7 sl8 sl9 sl10 sl11 sl12 sl13 sl14 sl15 sl16 sl17 sl18 sl19 sl20 sl21 sl22 sl23 sl24 sl25 sl26 sl27 sl28 sl29 sl30 sl31 sl32 sl33 sl34 sl35 sl36 sl37 sl38 sl39 : Array (Option Value)} {oc1 kV1 dc1 pm1 cd1 ct1 oc2 kV2 dc2 pm2 cd2 ct2 oc3 kV3 dc3 pm3 cd3 ct3 oc4 kV4 dc4 pm4 cd4 ct4 oc5 kV5 dc5 pm5 cd5 ct5 oc6 kV6 dc6 pm6 cd6 ct6 oc7 kV7 dc7 pm7 cd7 ct7 oc8 kV8 dc8 pm8 cd8 ct8 oc9 kV9 dc9 pm9 cd9 ct9 oc10 kV10 dc10 pm10 cd10 ct10 oc11 kV11 dc11 pm11 cd11 ct11 oc12 kV12 dc12 pm12 cd12 ct12 oc13 kV13 dc13 pm13 cd13 ct13 oc14 kV14 dc14 pm14 cd14 ct14 oc15 kV15 dc15 pm15 cd15 ct15 oc16 kV16 dc16 pm16 cd16 ct16 oc17 kV17 dc17 pm17 cd17 ct17 oc18 kV18 dc18 pm18 cd18 ct18 oc19 kV19 dc19 pm19 cd19 ct19 oc20 kV20 dc20 pm20 cd20 ct20 oc21 kV21 dc21 pm21 cd21 ct21 oc22 kV22 dc22 pm22 cd22 ct22 oc23 kV23 dc23 pm23 cd23 ct23 oc24 kV24 dc24 pm24 cd24 ct24 oc25 kV25 dc25 pm25 cd25 ct25 oc26 kV26 dc26 pm26 cd26 ct26 oc27 kV27 dc27 pm27 cd27 ct27 oc28 kV28 dc28 pm28 cd28 ct28 oc29 kV29 dc29 pm29 cd29 ct29 oc30 kV30 dc30 pm30 cd30 ct30 oc31 kV31 dc31 pm31 cd31 ct31 oc32 kV32 dc32 pm32 cd32 ct32 oc33 kV33 dc33 pm33 cd33 ct33 oc34 kV34 dc34 pm34 cd34 ct34 oc35 kV35 dc35 pm35 cd35 ct35 oc36 kV36 dc36 pm36 cd36 ct36 oc37 kV37 dc37 pm37 cd37 ct37 oc38 kV38 dc38 pm38 cd38 ct38 oc39 kV39 dc39 pm39 cd39 ct39 : Value} {t0 t1 t2 t3 t100 t101 t102 : Tok}
    (a1 : PySem.W.nsIn K mainGlobals "_law_draw" = some (some (.ref f1))) (l1 : K.lookup f1 = some ⟨oc1, od1, .func (PySem.W.fnOf "_law_draw" "_law_draw" (defArgs s_law_draw) (defBody s_law_draw) (defScope s_law_draw) .none kV1 dc1 pm1 an1 cd1 ct1), sl1⟩) (c1 : PySem.W.codeIn K cd1 "_law_draw" = true) (k1 : PySem.W.keepIn K (.ref f1) = true)
    (a2 : PySem.W.nsIn K mainGlobals "_law_stream" = some (some (.ref f2))) (l2 : K.lookup f2 = some ⟨oc2, od2, .func (PySem.W.fnOf "_law_stream" "_law_stream" (defArgs s_law_stream) (defBody s_law_stream) (defScope s_law_stream) .none kV2 dc2 pm2 an2 cd2 ct2), sl2⟩) (c2 : PySem.W.codeIn K cd2 "_law_stream" = true) (k2 : PySem.W.keepIn K (.ref f2) = true)
    (a3 : PySem.W.nsIn K mainGlobals "_law_term" = some (some (.ref f3))) (l3 : K.lookup f3 = some ⟨oc3, od3, .func (PySem.W.fnOf "_law_term" "_law_term" (defArgs s_law_term) (defBody s_law_term) (defScope s_law_term) .none kV3 dc3 pm3 an3 cd3 ct3), sl3⟩) (c3 : PySem.W.codeIn K cd3 "_law_term" = true) (k3 : PySem.W.keepIn K (.ref f3) = true)
    (a4 : PySem.W.nsIn K mainGlobals "check_size" = some (some (.ref f4))) (l4 : K.lookup f4 = some ⟨oc4, od4, .func (PySem.W.fnOf "check_size" "check_size" (defArgs s_check_size) (defBody s_check_size) (defScope s_check_size) .none kV4 dc4 pm4 an4 cd4 ct4), sl4⟩) (c4 : PySem.W.codeIn K cd4 "check_size" = true) (k4 : PySem.W.keepIn K (.ref f4) = true)
    (a5 : PySem.W.nsIn K mainGlobals "checked" = some (some (.ref f5))) (l5 : K.lookup f5 = some ⟨oc5, od5, .func (PySem.W.fnOf "checked" "checked" (defArgs s_checked) (defBody s_checked) (defScope s_checked) .none kV5 dc5 pm5 an5 cd5 ct5), sl5⟩) (c5 : PySem.W.codeIn K cd5 "checked" = true) (k5 : PySem.W.keepIn K (.ref f5) = true)
    (a6 : PySem.W.nsIn K mainGlobals "depths" = some (some (.ref f6))) (l6 : K.lookup f6 = some ⟨oc6, od6, .func (PySem.W.fnOf "depths" "depths" (defArgs s_depths) (defBody s_depths) (defScope s_depths) .none kV6 dc6 pm6 an6 cd6 ct6), sl6⟩) (c6 : PySem.W.codeIn K cd6 "depths" = true) (k6 : PySem.W.keepIn K (.ref f6) = true)
    (a7 : PySem.W.findIn K (.ref cc21) "__init__" = some (some (.ref f7))) (i7 : PySem.W.isFn K (.ref f7) = true) (l7 : K.lookup f7 = some ⟨oc7, od7, .func (PySem.W.fnOf "__init__" "Level.__init__" (defArgs s_Level_init) (defBody s_Level_init) (defScope s_Level_init) .none kV7 dc7 pm7 an7 cd7 ct7), sl7⟩) (c7 : PySem.W.codeIn K cd7 "Level.__init__" = true) (k7 : PySem.W.keepIn K (.ref f7) = true)
    (a8 : PySem.W.findIn K (.ref cc21) "is_whole" = some (some (.ref f8))) (i8 : PySem.W.isFn K (.ref f8) = true) (l8 : K.lookup f8 = some ⟨oc8, od8, .func (PySem.W.fnOf "is_whole" "Level.is_whole" (defArgs s_Level_is_whole) (defBody s_Level_is_whole) (defScope s_Level_is_whole) .none kV8 dc8 pm8 an8 cd8 ct8), sl8⟩) (c8 : PySem.W.codeIn K cd8 "Level.is_whole" = true) (k8 : PySem.W.keepIn K (.ref f8) = true)
    (a9 : PySem.W.findIn K (.ref cc21) "add_part" = some (some (.ref f9))) (i9 : PySem.W.isFn K (.ref f9) = true) (l9 : K.lookup f9 = some ⟨oc9, od9, .func (PySem.W.fnOf "add_part" "Level.add_part" (defArgs s_Level_add_part) (defBody s_Level_add_part) (defScope s_Level_add_part) .none kV9 dc9 pm9 an9 cd9 ct9), sl9⟩) (c9 : PySem.W.codeIn K cd9 "Level.add_part" = true) (k9 : PySem.W.keepIn K (.ref f9) = true)
    (a10 : PySem.W.findIn K (.ref cc21) "all_nodes" = some (some (.ref f10))) (i10 : PySem.W.isFn K (.ref f10) = true) (l10 : K.lookup f10 = some ⟨oc10, od10, .func (PySem.W.fnOf "all_nodes" "Level.all_nodes" (defArgs s_Level_all_nodes) (defBody s_Level_all_nodes) (defScope s_Level_all_nodes) .none kV10 dc10 pm10 an10 cd10 ct10), sl10⟩) (c10 : PySem.W.codeIn K cd10 "Level.all_nodes" = true) (k10 : PySem.W.keepIn K (.ref f10) = true)
    (a11 : PySem.W.findIn K (.ref cc22) "__init__" = some (some (.ref f11))) (i11 : PySem.W.isFn K (.ref f11) = true) (l11 : K.lookup f11 = some ⟨oc11, od11, .func (PySem.W.fnOf "__init__" "Reader.__init__" (defArgs s_Reader_init) (defBody s_Reader_init) (defScope s_Reader_init) .none kV11 dc11 pm11 an11 cd11 ct11), sl11⟩) (c11 : PySem.W.codeIn K cd11 "Reader.__init__" = true) (k11 : PySem.W.keepIn K (.ref f11) = true)
    (a12 : PySem.W.findIn K (.ref cc22) "variable" = some (some (.ref f12))) (i12 : PySem.W.isFn K (.ref f12) = true) (l12 : K.lookup f12 = some ⟨oc12, od12, .func (PySem.W.fnOf "variable" "Reader.variable" (defArgs s_Reader_variable) (defBody s_Reader_variable) (defScope s_Reader_variable) .none kV12 dc12 pm12 an12 cd12 ct12), sl12⟩) (c12 : PySem.W.codeIn K cd12 "Reader.variable" = true) (k12 : PySem.W.keepIn K (.ref f12) = true)
    (a13 : PySem.W.findIn K (.ref cc22) "end_level" = some (some (.ref f13))) (i13 : PySem.W.isFn K (.ref f13) = true) (l13 : K.lookup f13 = some ⟨oc13, od13, .func (PySem.W.fnOf "end_level" "Reader.end_level" (defArgs s_Reader_end_level) (defBody s_Reader_end_level) (defScope s_Reader_end_level) .none kV13 dc13 pm13 an13 cd13 ct13), sl13⟩) (c13 : PySem.W.codeIn K cd13 "Reader.end_level" = true) (k13 : PySem.W.keepIn K (.ref f13) = true)
    (a14 : PySem.W.findIn K (.ref cc22) "end_abstractions" = some (some (.ref f14))) (i14 : PySem.W.isFn K (.ref f14) = true) (l14 : K.lookup f14 = some ⟨oc14, od14, .func (PySem.W.fnOf "end_abstractions" "Reader.end_abstractions" (defArgs s_Reader_end_abstractions) (defBody s_Reader_end_abstractions) (defScope s_Reader_end_abstractions) .none kV14 dc14 pm14 an14 cd14 ct14), sl14⟩) (c14 : PySem.W.codeIn K cd14 "Reader.end_abstractions" = true) (k14 : PySem.W.keepIn K (.ref f14) = true)
    (a15 : PySem.W.findIn K (.ref cc22) "read_opener" = some (some (.ref f15))) (i15 : PySem.W.isFn K (.ref f15) = true) (l15 : K.lookup f15 = some ⟨oc15, od15, .func (PySem.W.fnOf "read_opener" "Reader.read_opener" (defArgs s_Reader_read_opener) (defBody s_Reader_read_opener) (defScope s_Reader_read_opener) .none kV15 dc15 pm15 an15 cd15 ct15), sl15⟩) (c15 : PySem.W.codeIn K cd15 "Reader.read_opener" = true) (k15 : PySem.W.keepIn K (.ref f15) = true)
    (a16 : PySem.W.findIn K (.ref cc22) "read_period" = some (some (.ref f16))) (i16 : PySem.W.isFn K (.ref f16) = true) (l16 : K.lookup f16 = some ⟨oc16, od16, .func (PySem.W.fnOf "read_period" "Reader.read_period" (defArgs s_Reader_read_period) (defBody s_Reader_read_period) (defScope s_Reader_read_period) .none kV16 dc16 pm16 an16 cd16 ct16), sl16⟩) (c16 : PySem.W.codeIn K cd16 "Reader.read_period" = true) (k16 : PySem.W.keepIn K (.ref f16) = true)
    (a17 : PySem.W.findIn K (.ref cc22) "read_closing" = some (some (.ref f17))) (i17 : PySem.W.isFn K (.ref f17) = true) (l17 : K.lookup f17 = some ⟨oc17, od17, .func (PySem.W.fnOf "read_closing" "Reader.read_closing" (defArgs s_Reader_read_closing) (defBody s_Reader_read_closing) (defScope s_Reader_read_closing) .none kV17 dc17 pm17 an17 cd17 ct17), sl17⟩) (c17 : PySem.W.codeIn K cd17 "Reader.read_closing" = true) (k17 : PySem.W.keepIn K (.ref f17) = true)
    (a18 : PySem.W.findIn K (.ref cc22) "finish" = some (some (.ref f18))) (i18 : PySem.W.isFn K (.ref f18) = true) (l18 : K.lookup f18 = some ⟨oc18, od18, .func (PySem.W.fnOf "finish" "Reader.finish" (defArgs s_Reader_finish) (defBody s_Reader_finish) (defScope s_Reader_finish) .none kV18 dc18 pm18 an18 cd18 ct18), sl18⟩) (c18 : PySem.W.codeIn K cd18 "Reader.finish" = true) (k18 : PySem.W.keepIn K (.ref f18) = true)
    (a19 : PySem.W.findIn K (.ref cc22) "read_name" = some (some (.ref f19))) (i19 : PySem.W.isFn K (.ref f19) = true) (l19 : K.lookup f19 = some ⟨oc19, od19, .func (PySem.W.fnOf "read_name" "Reader.read_name" (defArgs s_Reader_read_name) (defBody s_Reader_read_name) (defScope s_Reader_read_name) .none kV19 dc19 pm19 an19 cd19 ct19), sl19⟩) (c19 : PySem.W.codeIn K cd19 "Reader.read_name" = true) (k19 : PySem.W.keepIn K (.ref f19) = true)
    (a20 : PySem.W.findIn K (.ref cc22) "read" = some (some (.ref f20))) (i20 : PySem.W.isFn K (.ref f20) = true) (l20 : K.lookup f20 = some ⟨oc20, od20, .func (PySem.W.fnOf "read" "Reader.read" (defArgs s_Reader_read) (defBody s_Reader_read) (defScope s_Reader_read) .none kV20 dc20 pm20 an20 cd20 ct20), sl20⟩) (c20 : PySem.W.codeIn K cd20 "Reader.read" = true) (k20 : PySem.W.keepIn K (.ref f20) = true)
    (a21 : PySem.W.nsIn K mainGlobals "name_end" = some (some (.ref f21))) (l21 : K.lookup f21 = some ⟨oc21, od21, .func (PySem.W.fnOf "name_end" "name_end" (defArgs s_name_end) (defBody s_name_end) (defScope s_name_end) .none kV21 dc21 pm21 an21 cd21 ct21), sl21⟩) (c21 : PySem.W.codeIn K cd21 "name_end" = true) (k21 : PySem.W.keepIn K (.ref f21) = true)
    (a22 : PySem.W.nsIn K mainGlobals "token_end" = some (some (.ref f22))) (l22 : K.lookup f22 = some ⟨oc22, od22, .func (PySem.W.fnOf "token_end" "token_end" (defArgs s_token_end) (defBody s_token_end) (defScope s_token_end) .none kV22 dc22 pm22 an22 cd22 ct22), sl22⟩) (c22 : PySem.W.codeIn K cd22 "token_end" = true) (k22 : PySem.W.keepIn K (.ref f22) = true)
    (a23 : PySem.W.nsIn K mainGlobals "parse" = some (some (.ref f23))) (l23 : K.lookup f23 = some ⟨oc23, od23, .func (PySem.W.fnOf "parse" "parse" (defArgs s_parse) (defBody s_parse) (defScope s_parse) .none kV23 dc23 pm23 an23 cd23 ct23), sl23⟩) (c23 : PySem.W.codeIn K cd23 "parse" = true) (k23 : PySem.W.keepIn K (.ref f23) = true)
    (a24 : PySem.W.nsIn K mainGlobals "is_name" = some (some (.ref f24))) (l24 : K.lookup f24 = some ⟨oc24, od24, .func (PySem.W.fnOf "is_name" "is_name" (defArgs s_is_name) (defBody s_is_name) (defScope s_is_name) .none kV24 dc24 pm24 an24 cd24 ct24), sl24⟩) (c24 : PySem.W.codeIn K cd24 "is_name" = true) (k24 : PySem.W.keepIn K (.ref f24) = true)
    (a25 : PySem.W.nsIn K mainGlobals "name_table" = some (some (.ref f25))) (l25 : K.lookup f25 = some ⟨oc25, od25, .func (PySem.W.fnOf "name_table" "name_table" (defArgs s_name_table) (defBody s_name_table) (defScope s_name_table) .none kV25 dc25 pm25 an25 cd25 ct25), sl25⟩) (c25 : PySem.W.codeIn K cd25 "name_table" = true) (k25 : PySem.W.keepIn K (.ref f25) = true)
    (a26 : PySem.W.nsIn K mainGlobals "numbered_name" = some (some (.ref f26))) (l26 : K.lookup f26 = some ⟨oc26, od26, .func (PySem.W.fnOf "numbered_name" "numbered_name" (defArgs s_numbered_name) (defBody s_numbered_name) (defScope s_numbered_name) .none kV26 dc26 pm26 an26 cd26 ct26), sl26⟩) (c26 : PySem.W.codeIn K cd26 "numbered_name" = true) (k26 : PySem.W.keepIn K (.ref f26) = true)
    (a27 : PySem.W.nsIn K mainGlobals "bound_names" = some (some (.ref f27))) (l27 : K.lookup f27 = some ⟨oc27, od27, .func (PySem.W.fnOf "bound_names" "bound_names" (defArgs s_bound_names) (defBody s_bound_names) (defScope s_bound_names) .none kV27 dc27 pm27 an27 cd27 ct27), sl27⟩) (c27 : PySem.W.codeIn K cd27 "bound_names" = true) (k27 : PySem.W.keepIn K (.ref f27) = true)
    (a28 : PySem.W.nsIn K mainGlobals "written_variable" = some (some (.ref f28))) (l28 : K.lookup f28 = some ⟨oc28, od28, .func (PySem.W.fnOf "written_variable" "written_variable" (defArgs s_written_variable) (defBody s_written_variable) (defScope s_written_variable) .none kV28 dc28 pm28 an28 cd28 ct28), sl28⟩) (c28 : PySem.W.codeIn K cd28 "written_variable" = true) (k28 : PySem.W.keepIn K (.ref f28) = true)
    (a29 : PySem.W.nsIn K mainGlobals "is_abstraction" = some (some (.ref f29))) (l29 : K.lookup f29 = some ⟨oc29, od29, .func (PySem.W.fnOf "is_abstraction" "is_abstraction" (defArgs s_is_abstraction) (defBody s_is_abstraction) (defScope s_is_abstraction) .none kV29 dc29 pm29 an29 cd29 ct29), sl29⟩) (c29 : PySem.W.codeIn K cd29 "is_abstraction" = true) (k29 : PySem.W.keepIn K (.ref f29) = true)
    (a30 : PySem.W.nsIn K mainGlobals "written_abstraction" = some (some (.ref f30))) (l30 : K.lookup f30 = some ⟨oc30, od30, .func (PySem.W.fnOf "written_abstraction" "written_abstraction" (defArgs s_written_abstraction) (defBody s_written_abstraction) (defScope s_written_abstraction) .none kV30 dc30 pm30 an30 cd30 ct30), sl30⟩) (c30 : PySem.W.codeIn K cd30 "written_abstraction" = true) (k30 : PySem.W.keepIn K (.ref f30) = true)
    (a31 : PySem.W.nsIn K mainGlobals "written_application" = some (some (.ref f31))) (l31 : K.lookup f31 = some ⟨oc31, od31, .func (PySem.W.fnOf "written_application" "written_application" (defArgs s_written_application) (defBody s_written_application) (defScope s_written_application) .none kV31 dc31 pm31 an31 cd31 ct31), sl31⟩) (c31 : PySem.W.codeIn K cd31 "written_application" = true) (k31 : PySem.W.keepIn K (.ref f31) = true)
    (a32 : PySem.W.nsIn K mainGlobals "show" = some (some (.ref f32))) (l32 : K.lookup f32 = some ⟨oc32, od32, .func (PySem.W.fnOf "show" "show" (defArgs s_show) (defBody s_show) (defScope s_show) .none kV32 dc32 pm32 an32 cd32 ct32), sl32⟩) (c32 : PySem.W.codeIn K cd32 "show" = true) (k32 : PySem.W.keepIn K (.ref f32) = true)
    (a33 : PySem.W.nsIn K mainGlobals "_law_drawn_name" = some (some (.ref f33))) (l33 : K.lookup f33 = some ⟨oc33, od33, .func (PySem.W.fnOf "_law_drawn_name" "_law_drawn_name" (defArgs s_law_drawn_name) (defBody s_law_drawn_name) (defScope s_law_drawn_name) .none kV33 dc33 pm33 an33 cd33 ct33), sl33⟩) (c33 : PySem.W.codeIn K cd33 "_law_drawn_name" = true) (k33 : PySem.W.keepIn K (.ref f33) = true)
    (a34 : PySem.W.nsIn K mainGlobals "_law_scope_names" = some (some (.ref f34))) (l34 : K.lookup f34 = some ⟨oc34, od34, .func (PySem.W.fnOf "_law_scope_names" "_law_scope_names" (defArgs s_law_scope_names) (defBody s_law_scope_names) (defScope s_law_scope_names) .none kV34 dc34 pm34 an34 cd34 ct34), sl34⟩) (c34 : PySem.W.codeIn K cd34 "_law_scope_names" = true) (k34 : PySem.W.keepIn K (.ref f34) = true)
    (a35 : PySem.W.nsIn K mainGlobals "_law_use" = some (some (.ref f35))) (l35 : K.lookup f35 = some ⟨oc35, od35, .func (PySem.W.fnOf "_law_use" "_law_use" (defArgs s_law_use) (defBody s_law_use) (defScope s_law_use) .none kV35 dc35 pm35 an35 cd35 ct35), sl35⟩) (c35 : PySem.W.codeIn K cd35 "_law_use" = true) (k35 : PySem.W.keepIn K (.ref f35) = true)
    (a36 : PySem.W.nsIn K mainGlobals "_law_wrapped" = some (some (.ref f36))) (l36 : K.lookup f36 = some ⟨oc36, od36, .func (PySem.W.fnOf "_law_wrapped" "_law_wrapped" (defArgs s_law_wrapped) (defBody s_law_wrapped) (defScope s_law_wrapped) .none kV36 dc36 pm36 an36 cd36 ct36), sl36⟩) (c36 : PySem.W.codeIn K cd36 "_law_wrapped" = true) (k36 : PySem.W.keepIn K (.ref f36) = true)
    (a37 : PySem.W.nsIn K mainGlobals "_law_make" = some (some (.ref f37))) (l37 : K.lookup f37 = some ⟨oc37, od37, .func (PySem.W.fnOf "_law_make" "_law_make" (defArgs s_law_make) (defBody s_law_make) (defScope s_law_make) .none kV37 dc37 pm37 an37 cd37 ct37), sl37⟩) (c37 : PySem.W.codeIn K cd37 "_law_make" = true) (k37 : PySem.W.keepIn K (.ref f37) = true)
    (a38 : PySem.W.nsIn K mainGlobals "_law_text" = some (some (.ref f38))) (l38 : K.lookup f38 = some ⟨oc38, od38, .func (PySem.W.fnOf "_law_text" "_law_text" (defArgs s_law_text) (defBody s_law_text) (defScope s_law_text) .none kV38 dc38 pm38 an38 cd38 ct38), sl38⟩) (c38 : PySem.W.codeIn K cd38 "_law_text" = true) (k38 : PySem.W.keepIn K (.ref f38) = true)
    (a39 : PySem.W.nsIn K mainGlobals "law" = some (some (.ref f39))) (l39 : K.lookup f39 = some ⟨oc39, od39, .func (PySem.W.fnOf "law" "law" (defArgs s_law) (defBody s_law) (defScope s_law) .none kV39 dc39 pm39 an39 cd39 ct39), sl39⟩) (c39 : PySem.W.codeIn K cd39 "law" = true) (k39 : PySem.W.keepIn K (.ref f39) = true)
    (z_int : PySem.W.nsIn K mainGlobals "int" = some none)
    (z_list : PySem.W.nsIn K mainGlobals "list" = some none)
    (z_len : PySem.W.nsIn K mainGlobals "len" = some none)
    (z_abs : PySem.W.nsIn K mainGlobals "abs" = some none)
    (z_isinstance : PySem.W.nsIn K mainGlobals "isinstance" = some none)
    (z_tuple : PySem.W.nsIn K mainGlobals "tuple" = some none)
    (z_range : PySem.W.nsIn K mainGlobals "range" = some none)
    (z_zip : PySem.W.nsIn K mainGlobals "zip" = some none)
    (z_reversed : PySem.W.nsIn K mainGlobals "reversed" = some none)
    (z_all : PySem.W.nsIn K mainGlobals "all" = some none)
    (z_str : PySem.W.nsIn K mainGlobals "str" = some none)
    (z_max : PySem.W.nsIn K mainGlobals "max" = some none)
    (z_enumerate : PySem.W.nsIn K mainGlobals "enumerate" = some none)
    (z_ValueError : PySem.W.nsIn K mainGlobals "ValueError" = some none)
    (g_MOST_NODES : PySem.W.nsIn K mainGlobals "MOST_NODES" = some (some (.int 1000 t0)))
    (g_MOST_VARIABLE : PySem.W.nsIn K mainGlobals "MOST_VARIABLE" = some (some (.int 1000000 t1)))
    (g_MOST_LENGTH : PySem.W.nsIn K mainGlobals "MOST_LENGTH" = some (some (.int 10 t2)))
    (g_MOST_OPEN : PySem.W.nsIn K mainGlobals "MOST_OPEN" = some (some (.int 60 t3)))
    (g_LETTERS : PySem.W.nsIn K mainGlobals "LETTERS" = some (some (.str "abcdefghijklmnopqrstuvwxyz" t100)))
    (g_DIGITS : PySem.W.nsIn K mainGlobals "DIGITS" = some (some (.str "0123456789" t101)))
    (g_SIGNS : PySem.W.nsIn K mainGlobals "SIGNS" = some (some (.str "\\.()" t102)))
    (e_LyditeError : PySem.W.nsIn K mainGlobals "LyditeError" = some (some (.ref cc0)))
    (e_TooLarge : PySem.W.nsIn K mainGlobals "TooLarge" = some (some (.ref cc1)))
    (e_BadNames : PySem.W.nsIn K mainGlobals "BadNames" = some (some (.ref cc5)))
    (e_Level : PySem.W.nsIn K mainGlobals "Level" = some (some (.ref cc21)))
    (e_Reader : PySem.W.nsIn K mainGlobals "Reader" = some (some (.ref cc22)))
    (y_t_LyditeError : PySem.W.typeIn K (.ref cc0) = some (.type "type"))
    (y_h3_LyditeError : PySem.W.hasDictIn K cc0 = true)
    (y_x_TooLarge : PySem.W.excIn K cc1 [.type "ValueError", .type "Exception", .type "BaseException", .type "object"] "ValueError.__new__" = true)
    (y_k_TooLarge : PySem.W.keepIn K (.ref cc1) = true)
    (y_b_TooLarge : PySem.W.subIn K (.ref cc1) (.type "BaseException") = some true)
    (y_t_TooLarge : PySem.W.typeIn K (.ref cc1) = some (.type "type"))
    (y_s0_TooLarge : PySem.W.subIn K (.ref cc1) (.ref cc0) = some true)
    (y_sv_TooLarge : PySem.W.subIn K (.ref cc1) (.type "ValueError") = some true)
    (y_s1_TooLarge : PySem.W.subIn K (.ref cc1) (.ref cc1) = some true)
    (y_s5_TooLarge : PySem.W.subIn K (.ref cc1) (.ref cc5) = some false)
    (y_h1_TooLarge : PySem.W.findIn K (.ref cc1) "__getattribute__" = some (some (.builtin "BaseException.__getattribute__")))
    (y_h2_TooLarge : PySem.W.findIn K (.ref cc1) "__getattr__" = some none)
    (y_h3_TooLarge : PySem.W.hasDictIn K cc1 = true)
    (y_h4_TooLarge : PySem.W.findIn K (.ref cc1) "__class__" = some (some (.builtin "object.__class__")))
    (y_h7_TooLarge : PySem.W.mroIn K cc1 (.type "object") = some true)
    (y_h5_TooLarge : PySem.W.specialIn K (.builtin "object.__class__") "__get__" = some (some (.builtin "getset_descriptor.__get__")))
    (y_h6_TooLarge : PySem.W.takesIn K (.builtin "object.__class__") = some true)
    (y_x_BadNames : PySem.W.excIn K cc5 [.type "ValueError", .type "Exception", .type "BaseException", .type "object"] "ValueError.__new__" = true)
    (y_k_BadNames : PySem.W.keepIn K (.ref cc5) = true)
    (y_b_BadNames : PySem.W.subIn K (.ref cc5) (.type "BaseException") = some true)
    (y_t_BadNames : PySem.W.typeIn K (.ref cc5) = some (.type "type"))
    (y_s0_BadNames : PySem.W.subIn K (.ref cc5) (.ref cc0) = some true)
    (y_sv_BadNames : PySem.W.subIn K (.ref cc5) (.type "ValueError") = some true)
    (y_s1_BadNames : PySem.W.subIn K (.ref cc5) (.ref cc1) = some false)
    (y_s5_BadNames : PySem.W.subIn K (.ref cc5) (.ref cc5) = some true)
    (y_h1_BadNames : PySem.W.findIn K (.ref cc5) "__getattribute__" = some (some (.builtin "BaseException.__getattribute__")))
    (y_h2_BadNames : PySem.W.findIn K (.ref cc5) "__getattr__" = some none)
    (y_h3_BadNames : PySem.W.hasDictIn K cc5 = true)
    (y_h4_BadNames : PySem.W.findIn K (.ref cc5) "__class__" = some (some (.builtin "object.__class__")))
    (y_h7_BadNames : PySem.W.mroIn K cc5 (.type "object") = some true)
    (y_pg_Level : PySem.W.plainGet K cc21 Str.empty = true)
    (y_hd_Level : PySem.W.hasDictIn K cc21 = true)
    (y_po_Level : PySem.W.plainOver K cc21 = true)
    (y_sa_Level : PySem.W.findIn K (.ref cc21) "__setattr__" = some (some (.builtin "object.__setattr__")))
    (y_mk_Level : PySem.W.makesIn K cc21 = true)
    (y_kc_Level : PySem.W.keepIn K (.ref cc21) = true)
    (y_nf_Level_opener : PySem.W.findIn K (.ref cc21) "opener" = some none)
    (y_nf_Level_naming : PySem.W.findIn K (.ref cc21) "naming" = some none)
    (y_nf_Level_names : PySem.W.findIn K (.ref cc21) "names" = some none)
    (y_nf_Level_parts : PySem.W.findIn K (.ref cc21) "parts" = some none)
    (y_nf_Level_nodes : PySem.W.findIn K (.ref cc21) "nodes" = some none)
    (y_pg_Reader : PySem.W.plainGet K cc22 Str.empty = true)
    (y_hd_Reader : PySem.W.hasDictIn K cc22 = true)
    (y_po_Reader : PySem.W.plainOver K cc22 = true)
    (y_sa_Reader : PySem.W.findIn K (.ref cc22) "__setattr__" = some (some (.builtin "object.__setattr__")))
    (y_mk_Reader : PySem.W.makesIn K cc22 = true)
    (y_kc_Reader : PySem.W.keepIn K (.ref cc22) = true)
    (y_nf_Reader_numbers : PySem.W.findIn K (.ref cc22) "numbers" = some none)
    (y_nf_Reader_bound : PySem.W.findIn K (.ref cc22) "bound" = some none)
    (y_nf_Reader_depth : PySem.W.findIn K (.ref cc22) "depth" = some none)
    (y_nf_Reader_levels : PySem.W.findIn K (.ref cc22) "levels" = some none)
    (y_nf_Reader_naming : PySem.W.findIn K (.ref cc22) "naming" = some none)
    (eT : cd24 = .ref cT) (lT : K.lookup cT = some ⟨ocT, odT, .fields vsT, slT⟩) (vT : vsT[11]? = some (.ref PT)) (nT : K.lookup PT = none) (rT : (recsOf q).find? (fun e => e.name == ("is_name" : Str)) = some r0)
    (hT : ∀ (y : Str) (c P : Addr) (r : DefRec), (recsOf q).find? (fun e => e.name == y) = some r → PySem.W.tabIn K y = some (c, P) → PySem.W.CodeHd h c P ∧ h.get? P = some { cls := .none, data := .fields #[] })
    : LamX.LawAtS l w K (L2.CX l.prog w) 60 63 "script" mg fa h := by
  have e := hfa.symm.trans (PySem.W.mg_of X G a39)
  cases e
  have T : Txt w K mg (fun n => match n with | 0 => t0 | 1 => t1 | 2 => t2 | 3 => t3 | 100 => t100 | 101 => t101 | _ => t102) (fun n => match n with | 0 => cc0 | 1 => cc1 | 5 => cc5 | 21 => cc21 | _ => cc22) := ⟨PySem.W.mg_none_of X G z_int, PySem.W.mg_none_of X G z_list, PySem.W.mg_none_of X G z_len, PySem.W.mg_none_of X G z_abs, PySem.W.mg_none_of X G z_isinstance, PySem.W.mg_none_of X G z_tuple, PySem.W.mg_none_of X G z_range, PySem.W.mg_none_of X G z_zip, PySem.W.mg_none_of X G z_reversed, PySem.W.mg_none_of X G z_all, PySem.W.mg_none_of X G z_str, PySem.W.mg_none_of X G z_max, PySem.W.mg_none_of X G z_enumerate, PySem.W.mg_of X G g_MOST_NODES, PySem.W.mg_of X G g_MOST_VARIABLE, PySem.W.mg_of X G g_MOST_LENGTH, PySem.W.mg_of X G g_MOST_OPEN, PySem.W.mg_of X G g_LETTERS, PySem.W.mg_of X G g_DIGITS, PySem.W.mg_of X G g_SIGNS, PySem.W.mg_none_of X G z_ValueError, PySem.W.mg_of X G e_LyditeError, y_t_LyditeError, y_h3_LyditeError, PySem.W.mg_of X G e_TooLarge, y_x_TooLarge, y_k_TooLarge, y_b_TooLarge, y_t_TooLarge, y_s0_TooLarge, y_sv_TooLarge, y_s1_TooLarge, y_s5_TooLarge, y_h1_TooLarge, y_h2_TooLarge, y_h3_TooLarge, y_h4_TooLarge, y_h7_TooLarge, y_h5_TooLarge, y_h6_TooLarge, PySem.W.mg_of X G e_BadNames, y_x_BadNames, y_k_BadNames, y_b_BadNames, y_t_BadNames, y_s0_BadNames, y_sv_BadNames, y_s1_BadNames, y_s5_BadNames, y_h1_BadNames, y_h2_BadNames, y_h3_BadNames, y_h4_BadNames, y_h7_BadNames, PySem.W.mg_of X G e_Level, y_pg_Level, y_hd_Level, y_po_Level, y_sa_Level, y_mk_Level, y_kc_Level, y_nf_Level_opener, y_nf_Level_naming, y_nf_Level_names, y_nf_Level_parts, y_nf_Level_nodes, PySem.W.mg_of X G e_Reader, y_pg_Reader, y_hd_Reader, y_po_Reader, y_sa_Reader, y_mk_Reader, y_kc_Reader, y_nf_Reader_numbers, y_nf_Reader_bound, y_nf_Reader_depth, y_nf_Reader_levels, y_nf_Reader_naming⟩
  have tabE : PySem.W.tabIn K "is_name" = some (cT, PT) := by
    subst eT
    unfold PySem.W.tabIn
    rw [a24]
    simp only [l24, PySem.W.fnOf, lT, vT]
  have tabH := hT _ _ _ _ rT tabE
  exact ⟨PySem.W.fnOf "law" "law" (defArgs s_law) (defBody s_law) (defScope s_law) .none kV39 dc39 pm39 an39 cd39 ct39, [(cT, PT)], spLaw K PT, fun p hp => by rw [List.mem_singleton.mp hp]; exact tabH.2, fun p hp => by rw [List.mem_singleton.mp hp]; exact nT, fun p hp => by rw [List.mem_singleton.mp hp]; exact tabH.1, fun s v => .of_eq rfl, fun H a ns hl _ hH hS => ⟨a, ns, rfl, hS, hl, ⟨#[], hH (cT, PT) (List.mem_singleton.mpr rfl), by first | trivial | simp [TriplesOk]⟩, fun _ => rfl⟩, fun base _ _ hTB => by
    have tbH0 := hTB (cT, PT) (List.mem_singleton.mpr rfl)
    have tbH : GxR.TabB base mg cT PT := ⟨tbH0.1, tbH0.2, tbH0.3⟩
    have F1 := fun_mk (st := s_law_draw) l1 c1 k1
    have D1 := Def.of (P := l.prog) (w := w) (base := base) (k := 1) (PySem.W.mg_of X G a1) k1 (F1.binds (ps := ["stream", "many"]) fun _ _ _ _ _ _ us hl => match us, hl with | [_, _], _ => rfl) (ok_draw F1 T)
    have F2 := fun_mk (st := s_law_stream) l2 c2 k2
    have D2 := Def.of (P := l.prog) (w := w) (base := base) (k := 1) (PySem.W.mg_of X G a2) k2 (F2.binds (ps := ["script"]) fun _ _ _ _ _ _ us hl => match us, hl with | [_], _ => rfl) (ok_stream F2 T)
    have F3 := fun_mk (st := s_law_term) l3 c3 k3
    have D3 := Def.of (P := l.prog) (w := w) (base := base) (k := 2) (PySem.W.mg_of X G a3) k3 (F3.binds (ps := ["stream", "size", "loose"]) fun _ _ _ _ _ _ us hl => match us, hl with | [_, _, _], _ => rfl) (ok_term F3 T D1)
    have F4 := fun_mk (st := s_check_size) l4 c4 k4
    have D4 := Def.of (P := l.prog) (w := w) (base := base) (k := 1) (PySem.W.mg_of X G a4) k4 (F4.binds (ps := ["size"]) fun _ _ _ _ _ _ us hl => match us, hl with | [_], _ => rfl) (ok_check_size F4 T)
    have F5 := fun_mk (st := s_checked) l5 c5 k5
    have D5 := Def.of (P := l.prog) (w := w) (base := base) (k := 2) (PySem.W.mg_of X G a5) k5 (F5.binds (ps := ["term"]) fun _ _ _ _ _ _ us hl => match us, hl with | [_], _ => rfl) (ok_checked F5 T D4)
    have F6 := fun_mk (st := s_depths) l6 c6 k6
    have D6 := Def.of (P := l.prog) (w := w) (base := base) (k := 1) (PySem.W.mg_of X G a6) k6 (F6.binds (ps := ["term"]) fun _ _ _ _ _ _ us hl => match us, hl with | [_], _ => rfl) (ok_depths F6 T)
    have F7 := fun_mk (st := s_Level_init) l7 c7 k7
    have D7 := DefC.of (P := l.prog) (w := w) (mg := mg) (base := base) (k := 1) ⟨y_mk_Level, a7, i7, y_kc_Level⟩ (F7.binds (ps := ["self", "opener"]) fun _ _ _ _ _ _ us hl => match us, hl with | [_, _], _ => rfl) (ok_lvinit F7 T)
    have F8 := fun_mk (st := s_Level_is_whole) l8 c8 k8
    have D8 := C8.Met.mk (P := l.prog) (w := w) (K := K) (mg := mg) (base := base) (k := 1) (m := "is_whole") (dvs := []) ⟨f8, _, ["self"], [], T.cls_Level, ⟨a8, i8, k8⟩, ok_lvwhole F8 T, (F8.binds (ps := ["self"]) fun _ _ _ _ _ _ us hl => match us, hl with | [_], _ => rfl), .nil⟩
    have F9 := fun_mk (st := s_Level_add_part) l9 c9 k9
    have D9 := C8.Met.mk (P := l.prog) (w := w) (K := K) (mg := mg) (base := base) (k := 1) (m := "add_part") (dvs := []) ⟨f9, _, ["self", "nodes"], [], T.cls_Level, ⟨a9, i9, k9⟩, ok_lvadd F9 T, (F9.binds (ps := ["self", "nodes"]) fun _ _ _ _ _ _ us hl => match us, hl with | [_, _], _ => rfl), .nil⟩
    have F10 := fun_mk (st := s_Level_all_nodes) l10 c10 k10
    have D10 := C8.Met.mk (P := l.prog) (w := w) (K := K) (mg := mg) (base := base) (k := 1) (m := "all_nodes") (dvs := []) ⟨f10, _, ["self"], [], T.cls_Level, ⟨a10, i10, k10⟩, ok_lvall F10 T, (F10.binds (ps := ["self"]) fun _ _ _ _ _ _ us hl => match us, hl with | [_], _ => rfl), .nil⟩
    have F11 := fun_mk (st := s_Reader_init) l11 c11 k11
    have D11 := DefC.of (P := l.prog) (w := w) (mg := mg) (base := base) (k := 3) ⟨y_mk_Reader, a11, i11, y_kc_Reader⟩ (F11.binds (ps := ["self", "names"]) fun _ _ _ _ _ _ us hl => match us, hl with | [_, _], _ => rfl) (ok_rdinit F11 T D7)
    have F12 := fun_mk (st := s_Reader_variable) l12 c12 k12
    have D12 := C8.Met.mk (P := l.prog) (w := w) (K := K) (mg := mg) (base := base) (k := 1) (m := "variable") (dvs := []) ⟨f12, _, ["self", "name", "at"], [], T.cls_Reader, ⟨a12, i12, k12⟩, ok_rdvar F12 T, (F12.binds (ps := ["self", "name", "at"]) fun _ _ _ _ _ _ us hl => match us, hl with | [_, _, _], _ => rfl), .nil⟩
    have F13 := fun_mk (st := s_Reader_end_level) l13 c13 k13
    have D13 := C8.Met.mk (P := l.prog) (w := w) (K := K) (mg := mg) (base := base) (k := 2) (m := "end_level") (dvs := []) ⟨f13, _, ["self"], [], T.cls_Reader, ⟨a13, i13, k13⟩, ok_rdend F13 T D10 D9, (F13.binds (ps := ["self"]) fun _ _ _ _ _ _ us hl => match us, hl with | [_], _ => rfl), .nil⟩
    have F14 := fun_mk (st := s_Reader_end_abstractions) l14 c14 k14
    have D14 := C8.Met.mk (P := l.prog) (w := w) (K := K) (mg := mg) (base := base) (k := 3) (m := "end_abstractions") (dvs := []) ⟨f14, _, ["self", "at"], [], T.cls_Reader, ⟨a14, i14, k14⟩, ok_rdabs F14 T D8 D13, (F14.binds (ps := ["self", "at"]) fun _ _ _ _ _ _ us hl => match us, hl with | [_, _], _ => rfl), .nil⟩
    have F15 := fun_mk (st := s_Reader_read_opener) l15 c15 k15
    have D15 := C8.Met.mk (P := l.prog) (w := w) (K := K) (mg := mg) (base := base) (k := 3) (m := "read_opener") (dvs := []) ⟨f15, _, ["self", "token", "at"], [], T.cls_Reader, ⟨a15, i15, k15⟩, ok_rdopen F15 T D7, (F15.binds (ps := ["self", "token", "at"]) fun _ _ _ _ _ _ us hl => match us, hl with | [_, _, _], _ => rfl), .nil⟩
    have F16 := fun_mk (st := s_Reader_read_period) l16 c16 k16
    have D16 := C8.Met.mk (P := l.prog) (w := w) (K := K) (mg := mg) (base := base) (k := 1) (m := "read_period") (dvs := []) ⟨f16, _, ["self", "at"], [], T.cls_Reader, ⟨a16, i16, k16⟩, ok_rdper F16 T, (F16.binds (ps := ["self", "at"]) fun _ _ _ _ _ _ us hl => match us, hl with | [_, _], _ => rfl), .nil⟩
    have F17 := fun_mk (st := s_Reader_read_closing) l17 c17 k17
    have D17 := C8.Met.mk (P := l.prog) (w := w) (K := K) (mg := mg) (base := base) (k := 4) (m := "read_closing") (dvs := []) ⟨f17, _, ["self", "at"], [], T.cls_Reader, ⟨a17, i17, k17⟩, ok_rdclo F17 T D14 D13, (F17.binds (ps := ["self", "at"]) fun _ _ _ _ _ _ us hl => match us, hl with | [_, _], _ => rfl), .nil⟩
    have F18 := fun_mk (st := s_Reader_finish) l18 c18 k18
    have D18 := C8.Met.mk (P := l.prog) (w := w) (K := K) (mg := mg) (base := base) (k := 4) (m := "finish") (dvs := []) ⟨f18, _, ["self", "at"], [], T.cls_Reader, ⟨a18, i18, k18⟩, ok_rdfin F18 T D14 D10, (F18.binds (ps := ["self", "at"]) fun _ _ _ _ _ _ us hl => match us, hl with | [_, _], _ => rfl), .nil⟩
    have F19 := fun_mk (st := s_Reader_read_name) l19 c19 k19
    have D19 := C8.Met.mk (P := l.prog) (w := w) (K := K) (mg := mg) (base := base) (k := 2) (m := "read_name") (dvs := []) ⟨f19, _, ["self", "name", "at"], [], T.cls_Reader, ⟨a19, i19, k19⟩, ok_rdname F19 T D12 D9, (F19.binds (ps := ["self", "name", "at"]) fun _ _ _ _ _ _ us hl => match us, hl with | [_, _, _], _ => rfl), .nil⟩
    have F20 := fun_mk (st := s_Reader_read) l20 c20 k20
    have D20 := C8.Met.mk (P := l.prog) (w := w) (K := K) (mg := mg) (base := base) (k := 5) (m := "read") (dvs := []) ⟨f20, _, ["self", "token", "at"], [], T.cls_Reader, ⟨a20, i20, k20⟩, ok_rdread F20 T D15 D16 D17 D19, (F20.binds (ps := ["self", "token", "at"]) fun _ _ _ _ _ _ us hl => match us, hl with | [_, _, _], _ => rfl), .nil⟩
    have F21 := fun_mk (st := s_name_end) l21 c21 k21
    have D21 := Def.of (P := l.prog) (w := w) (base := base) (k := 1) (PySem.W.mg_of X G a21) k21 (F21.binds (ps := ["text", "start"]) fun _ _ _ _ _ _ us hl => match us, hl with | [_, _], _ => rfl) (ok_nameend F21 T)
    have F22 := fun_mk (st := s_token_end) l22 c22 k22
    have D22 := Def.of (P := l.prog) (w := w) (base := base) (k := 2) (PySem.W.mg_of X G a22) k22 (F22.binds (ps := ["text", "start"]) fun _ _ _ _ _ _ us hl => match us, hl with | [_, _], _ => rfl) (ok_tokend F22 T D21)
    have F23 := fun_mk (st := s_parse) l23 c23 k23
    have D23 := Def.of (P := l.prog) (w := w) (base := base) (k := 6) (PySem.W.mg_of X G a23) k23 (F23.binds (ps := ["text", "names"]) fun _ _ _ _ _ _ us hl => match us, hl with | [_, _], _ => rfl) (ok_parse F23 T D11 D22 D20 D18 D5)
    have F24 := fun_mk (st := s_is_name) l24 c24 k24
    have D24 := Def.of (P := l.prog) (w := w) (base := base) (k := 2) (PySem.W.mg_of X G a24) k24 (F24.binds (ps := ["value"]) fun _ _ _ _ _ _ us hl => match us, hl with | [_], _ => rfl) ((fun F T => ok_isname F T tbH eT) F24 T)
    have F25 := fun_mk (st := s_name_table) l25 c25 k25
    have D25 := Def.of (P := l.prog) (w := w) (base := base) (k := 3) (PySem.W.mg_of X G a25) k25 (F25.binds (ps := ["names"]) fun _ _ _ _ _ _ us hl => match us, hl with | [_], _ => rfl) (ok_nmtable F25 T D24)
    have F26 := fun_mk (st := s_numbered_name) l26 c26 k26
    have D26 := Def.of (P := l.prog) (w := w) (base := base) (k := 1) (PySem.W.mg_of X G a26) k26 (F26.binds (ps := ["number"]) fun _ _ _ _ _ _ us hl => match us, hl with | [_], _ => rfl) (ok_numbered F26 T)
    have F27 := fun_mk (st := s_bound_names) l27 c27 k27
    have D27 := Def.of (P := l.prog) (w := w) (base := base) (k := 2) (PySem.W.mg_of X G a27) k27 (F27.binds (ps := ["count", "taken"]) fun _ _ _ _ _ _ us hl => match us, hl with | [_, _], _ => rfl) (ok_bound F27 T D26)
    have F28 := fun_mk (st := s_written_variable) l28 c28 k28
    have D28 := Def.of (P := l.prog) (w := w) (base := base) (k := 1) (PySem.W.mg_of X G a28) k28 (F28.binds (ps := ["number", "depth", "bound", "names"]) fun _ _ _ _ _ _ us hl => match us, hl with | [_, _, _, _], _ => rfl) (ok_wvar F28 T)
    have F29 := fun_mk (st := s_is_abstraction) l29 c29 k29
    have D29 := Def.of (P := l.prog) (w := w) (base := base) (k := 1) (PySem.W.mg_of X G a29) k29 (F29.binds (ps := ["text"]) fun _ _ _ _ _ _ us hl => match us, hl with | [_], _ => rfl) (ok_isabs F29 T)
    have F30 := fun_mk (st := s_written_abstraction) l30 c30 k30
    have D30 := Def.of (P := l.prog) (w := w) (base := base) (k := 2) (PySem.W.mg_of X G a30) k30 (F30.binds (ps := ["name", "body"]) fun _ _ _ _ _ _ us hl => match us, hl with | [_, _], _ => rfl) (ok_wabs F30 T D29)
    have F31 := fun_mk (st := s_written_application) l31 c31 k31
    have D31 := Def.of (P := l.prog) (w := w) (base := base) (k := 2) (PySem.W.mg_of X G a31) k31 (F31.binds (ps := ["function", "argument"]) fun _ _ _ _ _ _ us hl => match us, hl with | [_, _], _ => rfl) (ok_wapp F31 T D29)
    have F32 := fun_mk (st := s_show) l32 c32 k32
    have D32 := Def.of (P := l.prog) (w := w) (base := base) (k := 6) (PySem.W.mg_of X G a32) k32 (F32.binds (ps := ["term", "names"]) fun _ _ _ _ _ _ us hl => match us, hl with | [_, _], _ => rfl) (ok_show F32 T D27 D25 D6 D30 D31 D28)
    have F33 := fun_mk (st := s_law_drawn_name) l33 c33 k33
    have D33 := Def.of (P := l.prog) (w := w) (base := base) (k := 2) (PySem.W.mg_of X G a33) k33 (F33.binds (ps := ["stream"]) fun _ _ _ _ _ _ us hl => match us, hl with | [_], _ => rfl) (ok_dname F33 T D1)
    have F34 := fun_mk (st := s_law_scope_names) l34 c34 k34
    have D34 := Def.of (P := l.prog) (w := w) (base := base) (k := 1) (PySem.W.mg_of X G a34) k34 (F34.binds (ps := ["scope", "names"]) fun _ _ _ _ _ _ us hl => match us, hl with | [_, _], _ => rfl) (ok_scn F34 T)
    have F35 := fun_mk (st := s_law_use) l35 c35 k35
    have D35 := Def.of (P := l.prog) (w := w) (base := base) (k := 1) (PySem.W.mg_of X G a35) k35 (F35.binds (ps := ["name", "scope", "names"]) fun _ _ _ _ _ _ us hl => match us, hl with | [_, _, _], _ => rfl) (ok_use F35 T)
    have F36 := fun_mk (st := s_law_wrapped) l36 c36 k36
    have D36 := Def.of (P := l.prog) (w := w) (base := base) (k := 1) (PySem.W.mg_of X G a36) k36 (F36.binds (ps := ["words"]) fun _ _ _ _ _ _ us hl => match us, hl with | [_], _ => rfl) (ok_wrap F36 T)
    have F37 := fun_mk (st := s_law_make) l37 c37 k37
    have D37 := Def.of (P := l.prog) (w := w) (base := base) (k := 20) (PySem.W.mg_of X G a37) k37 (F37.binds (ps := ["stream", "depth", "scope", "names"]) fun _ _ _ _ _ _ us hl => match us, hl with | [_, _, _, _], _ => rfl) (ok_make F37 T D1 D33 D34 D35 D36 (PySem.W.mg_of X G a37) k37 (F37.binds (ps := ["stream", "depth", "scope", "names"]) fun _ _ _ _ _ _ us hl => match us, hl with | [_, _, _, _], _ => rfl) 12)
    have F38 := fun_mk (st := s_law_text) l38 c38 k38
    have D38 := Def.of (P := l.prog) (w := w) (base := base) (k := 2) (PySem.W.mg_of X G a38) k38 (F38.binds (ps := ["stream", "words"]) fun _ _ _ _ _ _ us hl => match us, hl with | [_, _], _ => rfl) (ok_text F38 T D1)
    have F39 := fun_mk (st := s_law) l39 c39 k39
    exact ok_law F39 T D2 D1 D3 D32 D23 D37 D36 D38⟩
theorem walk {l : PySem.W.OpenLaw} {q : Program} {loose : List Str} {XP : (Str → Option Value) → Heap → Prop} {YP : World → Heap → Prop} {d : DefRec} {K : Params → PySem.W.Frag} (hn : l.most = some 63) (hdf : d.params.defaults = [])
    (hY : ∀ (w : World) (h : Heap), YP w h → (K w.params).In h)
    (F : ∀ (w : World) (mg : Str → Option Value) (fa : Addr) (h : Heap), (K w.params).In h → h.Ns mainGlobals mg → mg d.name = some (.ref fa) →
      (∀ (y : Str) (c P : Addr) (r : DefRec), (recsOf q).find? (fun e => e.name == y) = some r → PySem.W.tabIn (K w.params) y = some (c, P) → PySem.W.CodeHd h c P ∧ h.get? P = some { cls := .none, data := .fields #[] }) →
      LamX.LawAtS l w (K w.params) (L2.CX l.prog w) 60 63 "script" mg fa h) :
    PySem.W.WalkO q loose XP YP l.row.toRowW d [] (fun f vs => PySem.call f vs) :=
  walk_tab (n := 63) (k := 60) (x := "script") (CX := fun w => L2.CX l.prog w) hn (by decide) hdf ⟨rfl, by decide, by decide⟩ hY F fun _ _ _ _ _ z => (match z with | ⟨_, _, _, _, _, _, _, _, _, _, _, _, e⟩ => e)
end Ly
open PySem PySem.W PyProof.Rows in
set_option maxRecDepth 100000 in
set_option maxHeartbeats 0 in
theorem PySem.Challenge.cw_lydite_k14_whole_shown_and_read_holds : PySem.Challenge.rw_lydite_k14_whole_shown_and_read.Holds := by
  w_on; o_law; k_head; (case hw => w_witness2)
  k_fill
  refine Ly.walk (l := PySem.Challenge.rw_lydite_k14_whole_shown_and_read) rfl rfl (fun w h Y => PySem.W.kIn_of Y) ?F
  case F =>
    intro w mg fa h KX G hmg hT0
    refine' Ly.all_mk KX G hmg ?a1 ?l1 ?c1 ?k1 ?a2 ?l2 ?c2 ?k2 ?a3 ?l3 ?c3 ?k3 ?a4 ?l4 ?c4 ?k4 ?a5 ?l5 ?c5 ?k5 ?a6 ?l6 ?c6 ?k6 ?a7 ?i7 ?l7 ?c7 ?k7 ?a8 ?i8 ?l8 ?c8 ?k8 ?a9 ?i9 ?l9 ?c9 ?k9 ?a10 ?i10 ?l10 ?c10 ?k10 ?a11 ?i11 ?l11 ?c11 ?k11 ?a12 ?i12 ?l12 ?c12 ?k12 ?a13 ?i13 ?l13 ?c13 ?k13 ?a14 ?i14 ?l14 ?c14 ?k14 ?a15 ?i15 ?l15 ?c15 ?k15 ?a16 ?i16 ?l16 ?c16 ?k16 ?a17 ?i17 ?l17 ?c17 ?k17 ?a18 ?i18 ?l18 ?c18 ?k18 ?a19 ?i19 ?l19 ?c19 ?k19 ?a20 ?i20 ?l20 ?c20 ?k20 ?a21 ?l21 ?c21 ?k21 ?a22 ?l22 ?c22 ?k22 ?a23 ?l23 ?c23 ?k23 ?a24 ?l24 ?c24 ?k24 ?a25 ?l25 ?c25 ?k25 ?a26 ?l26 ?c26 ?k26 ?a27 ?l27 ?c27 ?k27 ?a28 ?l28 ?c28 ?k28 ?a29 ?l29 ?c29 ?k29 ?a30 ?l30 ?c30 ?k30 ?a31 ?l31 ?c31 ?k31 ?a32 ?l32 ?c32 ?k32 ?a33 ?l33 ?c33 ?k33 ?a34 ?l34 ?c34 ?k34 ?a35 ?l35 ?c35 ?k35 ?a36 ?l36 ?c36 ?k36 ?a37 ?l37 ?c37 ?k37 ?a38 ?l38 ?c38 ?k38 ?a39 ?l39 ?c39 ?k39 ?z_int ?z_list ?z_len ?z_abs ?z_isinstance ?z_tuple ?z_range ?z_zip ?z_reversed ?z_all ?z_str ?z_max ?z_enumerate ?z_ValueError ?g_MOST_NODES ?g_MOST_VARIABLE ?g_MOST_LENGTH ?g_MOST_OPEN ?g_LETTERS ?g_DIGITS ?g_SIGNS ?e_LyditeError ?e_TooLarge ?e_BadNames ?e_Level ?e_Reader ?y_t_LyditeError ?y_h3_LyditeError ?y_x_TooLarge ?y_k_TooLarge ?y_b_TooLarge ?y_t_TooLarge ?y_s0_TooLarge ?y_sv_TooLarge ?y_s1_TooLarge ?y_s5_TooLarge ?y_h1_TooLarge ?y_h2_TooLarge ?y_h3_TooLarge ?y_h4_TooLarge ?y_h7_TooLarge ?y_h5_TooLarge ?y_h6_TooLarge ?y_x_BadNames ?y_k_BadNames ?y_b_BadNames ?y_t_BadNames ?y_s0_BadNames ?y_sv_BadNames ?y_s1_BadNames ?y_s5_BadNames ?y_h1_BadNames ?y_h2_BadNames ?y_h3_BadNames ?y_h4_BadNames ?y_h7_BadNames ?y_pg_Level ?y_hd_Level ?y_po_Level ?y_sa_Level ?y_mk_Level ?y_kc_Level ?y_nf_Level_opener ?y_nf_Level_naming ?y_nf_Level_names ?y_nf_Level_parts ?y_nf_Level_nodes ?y_pg_Reader ?y_hd_Reader ?y_po_Reader ?y_sa_Reader ?y_mk_Reader ?y_kc_Reader ?y_nf_Reader_numbers ?y_nf_Reader_bound ?y_nf_Reader_depth ?y_nf_Reader_levels ?y_nf_Reader_naming ?eT ?lT ?vT ?nT ?rT hT0
    (case e_LyditeError => k_is)
    (case e_TooLarge => k_is)
    (case e_BadNames => k_is)
    (case e_Level => k_is)
    (case e_Reader => k_is)
    (case a1 => k_is)
    (case l1 => k_is)
    (case c1 => k_is)
    (case k1 => k_is)
    (case a2 => k_is)
    (case l2 => k_is)
    (case c2 => k_is)
    (case k2 => k_is)
    (case a3 => k_is)
    (case l3 => k_is)
    (case c3 => k_is)
    (case k3 => k_is)
    (case a4 => k_is)
    (case l4 => k_is)
    (case c4 => k_is)
    (case k4 => k_is)
    (case a5 => k_is)
    (case l5 => k_is)
    (case c5 => k_is)
    (case k5 => k_is)
    (case a6 => k_is)
    (case l6 => k_is)
    (case c6 => k_is)
    (case k6 => k_is)
    (case a7 => k_is)
    (case i7 => k_is)
    (case l7 => k_is)
    (case c7 => k_is)
    (case k7 => k_is)
    (case a8 => k_is)
    (case i8 => k_is)
    (case l8 => k_is)
    (case c8 => k_is)
    (case k8 => k_is)
    (case a9 => k_is)
    (case i9 => k_is)
    (case l9 => k_is)
    (case c9 => k_is)
    (case k9 => k_is)
    (case a10 => k_is)
    (case i10 => k_is)
    (case l10 => k_is)
    (case c10 => k_is)
    (case k10 => k_is)
    (case a11 => k_is)
    (case i11 => k_is)
    (case l11 => k_is)
    (case c11 => k_is)
    (case k11 => k_is)
    (case a12 => k_is)
    (case i12 => k_is)
    (case l12 => k_is)
    (case c12 => k_is)
    (case k12 => k_is)
    (case a13 => k_is)
    (case i13 => k_is)
    (case l13 => k_is)
    (case c13 => k_is)
    (case k13 => k_is)
    (case a14 => k_is)
    (case i14 => k_is)
    (case l14 => k_is)
    (case c14 => k_is)
    (case k14 => k_is)
    (case a15 => k_is)
    (case i15 => k_is)
    (case l15 => k_is)
    (case c15 => k_is)
    (case k15 => k_is)
    (case a16 => k_is)
    (case i16 => k_is)
    (case l16 => k_is)
    (case c16 => k_is)
    (case k16 => k_is)
    (case a17 => k_is)
    (case i17 => k_is)
    (case l17 => k_is)
    (case c17 => k_is)
    (case k17 => k_is)
    (case a18 => k_is)
    (case i18 => k_is)
    (case l18 => k_is)
    (case c18 => k_is)
    (case k18 => k_is)
    (case a19 => k_is)
    (case i19 => k_is)
    (case l19 => k_is)
    (case c19 => k_is)
    (case k19 => k_is)
    (case a20 => k_is)
    (case i20 => k_is)
    (case l20 => k_is)
    (case c20 => k_is)
    (case k20 => k_is)
    (case a21 => k_is)
    (case l21 => k_is)
    (case c21 => k_is)
    (case k21 => k_is)
    (case a22 => k_is)
    (case l22 => k_is)
    (case c22 => k_is)
    (case k22 => k_is)
    (case a23 => k_is)
    (case l23 => k_is)
    (case c23 => k_is)
    (case k23 => k_is)
    (case a24 => k_is)
    (case l24 => k_is)
    (case c24 => k_is)
    (case k24 => k_is)
    (case a25 => k_is)
    (case l25 => k_is)
    (case c25 => k_is)
    (case k25 => k_is)
    (case a26 => k_is)
    (case l26 => k_is)
    (case c26 => k_is)
    (case k26 => k_is)
    (case a27 => k_is)
    (case l27 => k_is)
    (case c27 => k_is)
    (case k27 => k_is)
    (case a28 => k_is)
    (case l28 => k_is)
    (case c28 => k_is)
    (case k28 => k_is)
    (case a29 => k_is)
    (case l29 => k_is)
    (case c29 => k_is)
    (case k29 => k_is)
    (case a30 => k_is)
    (case l30 => k_is)
    (case c30 => k_is)
    (case k30 => k_is)
    (case a31 => k_is)
    (case l31 => k_is)
    (case c31 => k_is)
    (case k31 => k_is)
    (case a32 => k_is)
    (case l32 => k_is)
    (case c32 => k_is)
    (case k32 => k_is)
    (case a33 => k_is)
    (case l33 => k_is)
    (case c33 => k_is)
    (case k33 => k_is)
    (case a34 => k_is)
    (case l34 => k_is)
    (case c34 => k_is)
    (case k34 => k_is)
    (case a35 => k_is)
    (case l35 => k_is)
    (case c35 => k_is)
    (case k35 => k_is)
    (case a36 => k_is)
    (case l36 => k_is)
    (case c36 => k_is)
    (case k36 => k_is)
    (case a37 => k_is)
    (case l37 => k_is)
    (case c37 => k_is)
    (case k37 => k_is)
    (case a38 => k_is)
    (case l38 => k_is)
    (case c38 => k_is)
    (case k38 => k_is)
    (case a39 => k_is)
    (case l39 => k_is)
    (case c39 => k_is)
    (case k39 => k_is)
    (case z_int => k_is)
    (case z_list => k_is)
    (case z_len => k_is)
    (case z_abs => k_is)
    (case z_isinstance => k_is)
    (case z_tuple => k_is)
    (case z_range => k_is)
    (case z_zip => k_is)
    (case z_reversed => k_is)
    (case z_all => k_is)
    (case z_str => k_is)
    (case z_max => k_is)
    (case z_enumerate => k_is)
    (case z_ValueError => k_is)
    (case g_MOST_NODES => k_is)
    (case g_MOST_VARIABLE => k_is)
    (case g_MOST_LENGTH => k_is)
    (case g_MOST_OPEN => k_is)
    (case g_LETTERS => k_is)
    (case g_DIGITS => k_is)
    (case g_SIGNS => k_is)
    (case y_t_LyditeError => k_is)
    (case y_h3_LyditeError => k_is)
    (case y_x_TooLarge => k_exc)
    (case y_k_TooLarge => k_is)
    (case y_b_TooLarge => k_is)
    (case y_t_TooLarge => k_is)
    (case y_s0_TooLarge => k_is)
    (case y_sv_TooLarge => k_is)
    (case y_s1_TooLarge => k_is)
    (case y_s5_TooLarge => k_is)
    (case y_h1_TooLarge => k_is)
    (case y_h2_TooLarge => k_is)
    (case y_h3_TooLarge => k_is)
    (case y_h4_TooLarge => k_is)
    (case y_h7_TooLarge => k_is)
    (case y_h5_TooLarge => k_is)
    (case y_h6_TooLarge => k_is)
    (case y_x_BadNames => k_exc)
    (case y_k_BadNames => k_is)
    (case y_b_BadNames => k_is)
    (case y_t_BadNames => k_is)
    (case y_s0_BadNames => k_is)
    (case y_sv_BadNames => k_is)
    (case y_s1_BadNames => k_is)
    (case y_s5_BadNames => k_is)
    (case y_h1_BadNames => k_is)
    (case y_h2_BadNames => k_is)
    (case y_h3_BadNames => k_is)
    (case y_h4_BadNames => k_is)
    (case y_h7_BadNames => k_is)
    (case y_pg_Level => k_is)
    (case y_hd_Level => k_is)
    (case y_po_Level => k_is)
    (case y_sa_Level => k_is)
    (case y_mk_Level => k_is)
    (case y_kc_Level => k_is)
    (case y_nf_Level_opener => k_is)
    (case y_nf_Level_naming => k_is)
    (case y_nf_Level_names => k_is)
    (case y_nf_Level_parts => k_is)
    (case y_nf_Level_nodes => k_is)
    (case y_pg_Reader => k_is)
    (case y_hd_Reader => k_is)
    (case y_po_Reader => k_is)
    (case y_sa_Reader => k_is)
    (case y_mk_Reader => k_is)
    (case y_kc_Reader => k_is)
    (case y_nf_Reader_numbers => k_is)
    (case y_nf_Reader_bound => k_is)
    (case y_nf_Reader_depth => k_is)
    (case y_nf_Reader_levels => k_is)
    (case y_nf_Reader_naming => k_is)
    (case eT => exact rfl)
    (case lT => k_is)
    (case vT => exact rfl)
    (case nT => kernel_rfl)
    (case rT => exact rfl)
