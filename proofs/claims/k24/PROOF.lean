import PyProof.Rows.All
import Wide.All
import OpenK.AllK
import Wide.FinOn
import HandS.ForMost
import HandS.IsInst
import HandS.Style
import HandS.Walk
import HandS.TupMul
import HandS.TupAny
import HandS.Evl
import HandS.Strs
import HandS.SortInts
import PyProof.P3Eq
import HandS.ForExc
import HandS.ExcIs
import HandS.FStr
import HandS.RaiseMore
import HandS.Dict
import HandS.More
import HandS.Iter
import HandS.CallLocal
import KE.GoesMore
import KE.GoesEnum
import HandS.Rev
import HandS.Comp
import HandS.HotCalls
import HandS.ExcCtx
import HandS.SuiteRaise
import HandS.WordsExc
import HandS.TryMany
import HandS.RaiseFrom
import HandS.Conv
import HandS.Deep
import HandS.SetKeys
import HandS.List
import HandS.DictComp
import HandS.RevRange
import PySem.Challenge.RW_lydite_k24_developments
set_option Elab.async false
set_option linter.all false
set_option maxRecDepth 100000
namespace Ly
open PySem PySem.Spec PyProof.Rows L2 Evl

section
variable {K : PySem.W.Frag} {σ : L2.St} {H H' H0 : Hp} {Q : VK} {D : Ends} {ta tb tc te to : TE} {tA : TA} {t u : TT} {s1 s2 : TS} {g : TG}
theorem w_var {i : Nat} {v : V} (h : σ[i]? = some (some v)) (q : Q v H) : tVar i σ H Q := ⟨v, h, q⟩
theorem w_c {v : V} (q : Q v H) : tC v σ H Q := q
theorem w_op {r : R2} (h : ta σ H fun x H1 => tb σ H1 fun y H2 => r x y H2 Q) : tOp r ta tb σ H Q := h
theorem w_un {r : V → Hp → VK → Prop} (h : ta σ H fun x H1 => r x H1 Q) : tUn r ta σ H Q := h
theorem w_I0 {f : Int → Int → V} {i j : Int} (q : Q (f i j) H) : rI0 f (.int i) (.int j) H Q := ⟨i, j, rfl, rfl, q⟩
theorem w_I {C : Int → Int → Prop} {f : Int → Int → V} {i j : Int} (c : C i j) (q : Q (f i j) H) : rI C f (.int i) (.int j) H Q := ⟨i, j, rfl, rfl, c, q⟩
theorem w_U {f : Int → V} {i : Int} (q : Q (f i) H) : rU f (.int i) H Q := ⟨i, rfl, q⟩
theorem w_eq {x y : V} (s : scal x y = true) (q : Q (.bl (decide (x = y))) H) : rEq x y H Q := ⟨s, q⟩
theorem w_ne {x y : V} (s : scal x y = true) (q : Q (.bl (!decide (x = y))) H) : rNe x y H Q := ⟨s, q⟩
theorem w_isB {a b : Bool} (q : Q (.bl (decide (a = b))) H) : rIsB (.bl a) (.bl b) H Q := ⟨a, b, rfl, rfl, q⟩
theorem w_notB {a b : Bool} (q : Q (.bl (!decide (a = b))) H) : rNotB (.bl a) (.bl b) H Q := ⟨a, b, rfl, rfl, q⟩
theorem w_nil {R : List V → Hp → Prop} (q : R [] H) : tNil σ H R := q
theorem w_cons {R : List V → Hp → Prop} {tr : TA} (h : ta σ H fun x H1 => tr σ H1 fun xs H2 => R (x :: xs) H2) : tCons ta tr σ H R := h
theorem w_tup (h : tA σ H fun xs H1 => xs.length ≤ sizeLine ∧ ∀ p, H1 p = none → Q (.ref p) (upd H1 p (.tup xs))) : tTup tA σ H Q := h
theorem w_lst (h : tA σ H fun xs H1 => xs.length ≤ sizeLine ∧ ∀ p, H1 p = none → Q (.ref p) (upd H1 p (.lst xs))) : tLst tA σ H Q := h
theorem w_cb {r : List V → Hp → VK → Prop} (h : tA σ H fun vs H1 => r vs H1 Q) : tCB r tA σ H Q := h
theorem w_call {sp : Sp} {dvs : List V} {E : XK} (h : tA σ H fun vs H1 => sp (vs ++ dvs) H1 Q E) : tCall sp dvs E tA σ H Q := h
theorem w_isi {x : V} {n : String} {t : Value} {b : Bool} (h : TyX K H x t) (k : PySem.W.kitOne K t (.type n) = some b) (q : Q (.bl b) H) : rIsi K [x, .ty n] H Q :=
  ⟨x, .ty n, t, .type n, b, rfl, .ty n, h, k, q⟩
theorem w_bm {T : String} {r : V → List V → Hp → VK → Prop} (h : to σ H fun x H1 => tyV K T x H1 ∧ tA σ H1 fun xs H2 => r x xs H2 Q) : tBM K T r to tA σ H Q := h
theorem w_bm0 {T : String} {r : V → List V → Hp → VK → Prop} (h : to σ H fun x H1 => tyV K T x H1 ∧ r x [] H1 Q) : tBM0 K T r to σ H Q := h
theorem w_app {l : Addr} {xs : List V} {y : V} (h : H l = some (.lst xs)) (z : xs.length < sizeLine) (q : Q .non (upd H l (.lst (xs ++ [y])))) : rAppend (.ref l) [y] H Q := ⟨l, xs, y, rfl, rfl, h, z, q⟩
theorem w_popA {l : Addr} {xs : List V} {y : V} (h : H l = some (.lst (xs ++ [y]))) (q : Q y (upd H l (.lst xs))) : rPop (.ref l) [] H Q :=
  ⟨l, xs ++ [y], y, rfl, rfl, h, by simp, by rw [List.dropLast_concat]; exact q⟩
theorem w_sadd {w : World} {a : Addr} {k : Int} {S : Int → Bool} {n : Nat} (h : H a = some (SetO w a S n)) (r : n + 1 < 4096) (q : Q .non (upd H a (SetO w a (fun j => S j || decide (j = k)) (if S k = true then n else n + 1)))) : rSAdd w (.ref a) [.int k] H Q := ⟨a, k, S, n, rfl, rfl, h, r, q⟩
theorem w_tsadd {w : World} (h : ta σ H fun x H1 => (∃ a S n, x = V.ref a ∧ H1 a = some (SetO w a S n)) ∧ tA σ H1 fun xs H2 => rSAdd w x xs H2 Q) : tSAdd w ta tA σ H Q := h
theorem w_tsadd1 {w : World} {a : Addr} {S : Int → Bool} {n : Nat} {B : Prop} (h : H a = some (SetO w a S n)) (q : B) : (∃ b S' n', V.ref a = V.ref b ∧ H b = some (SetO w b S' n')) ∧ B := ⟨⟨a, S, n, rfl, h⟩, q⟩
theorem w_ext {l b : Addr} {xs zs : List V} (h : H l = some (.lst xs)) (h2 : H b = some (.lst zs)) (z : xs.length + zs.length ≤ sizeLine) (q : Q .non (upd H l (.lst (xs ++ zs)))) : rExtend (.ref l) [.ref b] H Q := ⟨l, b, xs, zs, rfl, rfl, h, h2, z, q⟩
theorem w_ixL {p : Addr} {xs : List V} {i : Int} {v : V} (h : SqL K H p xs) (a : atI xs i = some v) (q : Q v H) : rIxL K (.ref p) (.int i) H Q := ⟨p, xs, i, v, rfl, rfl, h, a, q⟩
theorem w_ixT {p : Addr} {xs : List V} {i : Int} {v : V} (h : SqT K H p xs) (a : atI xs i = some v) (q : Q v H) : rIxT K (.ref p) (.int i) H Q := ⟨p, xs, i, v, rfl, rfl, h, a, q⟩
theorem w_cat {a b : Addr} {xs ys : List V} (h : H a = some (.lst xs)) (h2 : H b = some (.lst ys)) (z : xs.length + ys.length ≤ sizeLine) (q : ∀ p, H p = none → Q (.ref p) (upd H p (.lst (xs ++ ys)))) : rCat (.ref a) (.ref b) H Q := ⟨a, b, xs, ys, rfl, rfl, h, h2, z, q⟩
theorem w_test {R : Bool → Hp → Prop} (h : te σ H fun x H1 => ∃ k, x = .bl k ∧ R k H1) : tTest te σ H R := h
theorem w_tB {R : Bool → Hp → Prop} (h : te σ H fun x H1 => ∃ k, x = .bl k ∧ R k H1) : tB te σ H R := h
theorem w_bl {A : Bool → Prop} {k : Bool} (h : A k) : ∃ c, V.bl k = .bl c ∧ A c := ⟨k, rfl, h⟩
theorem w_and {R : Bool → Hp → Prop} (h : t σ H fun c H1 => if c = true then u σ H1 R else R false H1) : tAnd t u σ H R := h
theorem w_or {R : Bool → Hp → Prop} (h : t σ H fun c H1 => if c = true then R true H1 else u σ H1 R) : tOr t u σ H R := h
theorem w_not {R : Bool → Hp → Prop} (h : t σ H fun c H1 => R (!c) H1) : tNot t σ H R := h
theorem w_andV (h : ta σ H fun x H1 => ∃ c, x = .bl c ∧ if c = true then tb σ H1 Q else Q (.bl false) H1) : tAndV ta tb σ H Q := h
theorem w_orV (h : ta σ H fun x H1 => ∃ c, x = .bl c ∧ if c = true then Q (.bl true) H1 else tb σ H1 Q) : tOrV ta tb σ H Q := h
theorem w_notV (h : ta σ H fun x H1 => ∃ c, x = .bl c ∧ Q (.bl (!c)) H1) : tNotV ta σ H Q := h
theorem w_ifE (h : t σ H fun c H1 => if c = true then ta σ H1 Q else tb σ H1 Q) : tIf t ta tb σ H Q := h
theorem w_ch {r r' : R2} (h : ta σ H fun x H1 => tb σ H1 fun y H2 => r x y H2 fun z H3 => ∃ k, z = .bl k ∧ (if k = true then tc σ H3 fun w' H4 => r' y w' H4 Q else Q (.bl false) H3)) : tChain r r' ta tb tc σ H Q := h
-- statements
theorem sl_of {t : TS} {D : Ends} {σ σ2 : L2.St} {H : Hp} (e : σ = σ2) (h : t D σ2 H) : t D σ H := by
  rw [e]
  exact h
theorem w_seq (h : s1 { D with nx := s2 D } σ H) : tSeq s1 s2 D σ H := h
theorem w_cut {M : L2.St → Hp → Prop} (h : s1 { D with nx := M } σ H) (q : ∀ σ' H', M σ' H' → s2 D σ' H') : tCut s1 s2 D σ H := ⟨M, h, q⟩
theorem w_while (W : Nat → L2.St → Hp → Prop) (m0 : Nat) (h0 : W m0 σ H) (hs : ∀ m σ H, W m σ H → t σ H fun b H1 => if b = true then ∃ N : L2.St → Hp → Prop, (∀ σ' H', N σ' H' → ∃ m', m' < m ∧ W m' σ' H') ∧ s1 { D with nx := N, ct := N, bk := D.nx } σ H1 else D.nx σ H1) : tWhile t s1 D σ H := ⟨W, ⟨m0, h0⟩, hs⟩
theorem w_truL {l : Addr} {xs : List V} {A : Bool → Prop} (h : SqL K H l xs) (q : A (!xs.isEmpty)) : ∃ k, TruV K (.ref l) H k ∧ A k := ⟨_, .inl ⟨xs, h, rfl⟩, q⟩
theorem w_next (h : D.nx σ H) : tNext D σ H := h
theorem w_drop (h : te σ H fun _ H1 => D.nx σ H1) : tDrop te D σ H := h
theorem w_ret (h : te σ H D.rt) : tRet te D σ H := h
theorem w_asg (h : te σ H fun x H1 => g x σ H1 D.nx) : tAsg te g D σ H := h
theorem w_if (h : t σ H fun b H1 => if b = true then s1 D σ H1 else s2 D σ H1) : tIfS t s1 s2 D σ H := h
theorem w_name {v : V} {i : Nat} {R : L2.St → Hp → Prop} (h : R (σ.set i (some v)) H) : gName i v σ H R := h
theorem w_sub {v : V} {st : TSet} {R : L2.St → Hp → Prop} (h : ta σ H fun o H1 => tb σ H1 fun i H2 => st o i v H2 fun H3 => R σ H3) : gSub ta tb st v σ H R := h
theorem w_setL {R : Hp → Prop} {p : Addr} {xs : List V} {k : Int} {j : Nat} {v : V} (h : H p = some (.lst xs)) (a : ixN xs.length k = some j) (q : R (upd H p (.lst (xs.set j v)))) : rSetL (.ref p) (.int k) v H R := ⟨p, xs, k, j, rfl, rfl, h, a, q⟩
theorem w_aug {i : Nat} {x : V} {ti : TIp} (h : σ[i]? = some (some x)) (q : te σ H fun y H1 => ti x y H1 fun z H2 => D.nx (σ.set i (some z)) H2) : tAug i te ti D σ H := ⟨x, h, q⟩
theorem w_ipI {f : Int → Int → Int} {i j : Int} (q : Q (.int (f i j)) H) : ipI f (.int i) (.int j) H Q := ⟨i, j, rfl, rfl, q⟩
end

def ForB (J : It) (g : TG) (tb : TS) (D : Ends) (σ : L2.St) (H1 : Hp) : Prop := ∃ W : Nat → Nat → L2.St → Hp → Prop, (∃ m, W 0 m σ H1) ∧ ∀ i m σ H, W i m σ H →
  (J.stop i H ∧ D.nx σ H) ∨ (J.go i H ∧ ∃ N : L2.St → Hp → Prop, (∀ σ' H', N σ' H' → ∃ m', m' < m ∧ W (i + 1) m' σ' H') ∧ ∀ x H', J.yld i H x H' → g x σ H' fun σ2 H2 => tb { D with nx := N, ct := N, bk := D.nx } σ2 H2)
def LcB (J : It) (g : TG) (tt : TT) (te : TE) (vs : List Nat) (Q : VK) (σ : L2.St) (H1 : Hp) (Dl : Addr) : Prop := ∃ W : Nat → Nat → Hp → Prop, (∃ m, W 0 m (upd H1 Dl (.lst []))) ∧ ∀ i m H, W i m H →
  (J.stop i H ∧ Q (.ref Dl) H) ∨ (J.go i H ∧ ∃ Nx : Hp → Prop, (∀ H', Nx H' → ∃ m', m' < m ∧ W (i + 1) m' H') ∧ ∀ x H', J.yld i H x H' → g x (wipe σ vs) H' fun σ2 H2 => wipe σ2 vs = wipe σ vs ∧ tt σ2 H2 fun b H3 =>
    if b = true then te σ2 H3 fun y H4 => ∃ acc, H4 Dl = some (.lst acc) ∧ acc.length < sizeLine ∧ Nx (upd H4 Dl (.lst (acc ++ [y]))) else Nx H3)
section
variable {K : PySem.W.Frag} {σ : L2.St} {H : Hp} {D : Ends} {ta tb : TE} {tA : TA} {g : TG} {s1 : TS} {wi : TI} {R : It → Hp → Prop}
theorem w_for (h : wi σ H fun J H1 => ForB J g s1 D σ H1) : tFor wi g s1 D σ H := h
theorem w_iL (h : ta σ H fun x H1 => ∃ a, x = .ref a ∧ (∃ xs, SqL K H1 a xs) ∧ R (Itl K a) H1) : iList K ta σ H R := h
theorem w_iL1 {a : Addr} {xs : List V} {B : Addr → Prop} (h : SqL K H a xs) (q : B a) : ∃ b, V.ref a = .ref b ∧ (∃ ys, SqL K H b ys) ∧ B b := ⟨a, rfl, ⟨xs, h⟩, q⟩
theorem w_iT (h : ta σ H fun x H1 => ∃ a, x = .ref a ∧ (∃ xs, SqT K H1 a xs) ∧ R (Itt K a) H1) : iTup K ta σ H R := h
theorem w_iT1 {a : Addr} {xs : List V} {B : Addr → Prop} (h : SqT K H a xs) (q : B a) : ∃ b, V.ref a = .ref b ∧ (∃ ys, SqT K H b ys) ∧ B b := ⟨a, rfl, ⟨xs, h⟩, q⟩
theorem w_iR (h : tA σ H fun vs H1 => ∃ j : Int, vs = [.int j] ∧ -(2 ^ 62) ≤ j ∧ j < 2 ^ 62 ∧ R (Itr 0 j.toNat) H1) : iRng1 tA σ H R := h
theorem w_iR1 {j : Int} {B : Int → Prop} (h1 : -(2 ^ 62) ≤ j) (h2 : j < 2 ^ 62) (q : B j) : ∃ k, [V.int j] = [V.int k] ∧ -(2 ^ 62) ≤ k ∧ k < 2 ^ 62 ∧ B k := ⟨j, rfl, h1, h2, q⟩
theorem w_yes {R : Bool → Hp → Prop} (h : R true H) : tYes σ H R := h
theorem w_wipe {σ2 : L2.St} {vs : List Nat} {B : Prop} (e : wipe σ2 vs = wipe σ vs) (q : B) : wipe σ2 vs = wipe σ vs ∧ B := ⟨e, q⟩
theorem w_lc {tt : TT} {te : TE} {vs : List Nat} {Q : VK} (h : wi σ H fun J H1 => ∀ Dl, H1 Dl = none → LcB J g tt te vs Q σ H1 Dl) : tLc wi g tt te vs σ H Q := h
end

def Fr (s : Addr) (H H' : Hp) : Prop := ∀ a o, a ≠ s → H a = some o → H' a = some o
section
variable {K : PySem.W.Frag} {H H' H0 H1 H2 : Hp} {a p s : Addr} {o : HO} {xs ys : List V}
theorem Fr.refl (s : Addr) (H : Hp) : Fr s H H := fun _ _ _ h => h
theorem Fr.ex (e : Ex H H') : Fr s H H' := fun a o _ h => e a o h
theorem Fr.trans (a : Fr s H H1) (b : Fr s H1 H2) : Fr s H H2 := fun x o n h => b x o n (a x o n h)
theorem Fr.new (e : Fr s H H') (h : H' p = none) : Fr s H (upd H' p o) := fun x u n ha => by
  have q := e x u n ha
  rw [upd_ne (ne_of_none q h)]
  exact q
theorem Fr.mut (e : Fr s H H') (h : H p = none) : Fr s H (upd H' p o) := fun x u n ha => by
  rw [upd_ne (ne_of_none ha h)]
  exact e x u n ha
theorem Fr.own (e : Fr s H H') : Fr s H (upd H' s o) := fun x u n ha => by
  rw [upd_ne n]
  exact e x u n ha
theorem Fr.free (e : Fr s H H') (hs : H s = some o) (h : H' p = none) (h2 : p ≠ s) : H p = none := by
  cases q : H p with
  | none => rfl
  | some u =>
    rw [e p u h2 q] at h
    cases h
theorem fr_t (e : Fr s H H') (hs : H s = some (.lst ys)) (h : SqT K H a xs) : SqT K H' a xs := by
  rcases h with (h | ⟨ob, h⟩) | h
  · exact .inl (.inl (e a _ (fun z => by rw [z, hs] at h; cases h) h))
  · exact .inl (.inr ⟨ob, e a _ (fun z => by rw [z, hs] at h; cases h) h⟩)
  · exact .inr h
theorem ex_upd (e : Ex H H') (h : H p = none) : Ex H (upd H' p o) := e.mut h
theorem ex_new (e : Ex H H') (h : H' p = none) : Ex H (upd H' p o) := e.trans (Ex.new h)
theorem ly_at (e : Ex H H') (h : H a = some o) : H' a = some o := e a o h
theorem ly_atF (e : Fr s H H') (n : a ≠ s) (h : H a = some o) : H' a = some o := e a o n h
theorem ly_mulL {i j : Int} (h1 : -(2 ^ 64) < i) (h2 : i < 2 ^ 64) : CMul i j := .inl ⟨h1, h2⟩
theorem ly_mulR {i j : Int} (h1 : -(2 ^ 64) < j) (h2 : j < 2 ^ 64) : CMul i j := .inr ⟨h1, h2⟩
end
section
variable {K : PySem.W.Frag} {H : Hp} {Q : VK} {p : Addr} {xs : List V}
theorem w_int {i : Int} {A : Int → Prop} {B : Prop} (q : A i) : (∃ j, [V.int i] = [V.int j] ∧ A j) ∨ B := .inl ⟨i, rfl, q⟩
theorem w_intB {k : Bool} {A : Prop} {B : Bool → Prop} (q : B k) : A ∨ ∃ c, [V.bl k] = [V.bl c] ∧ B c := .inr ⟨k, rfl, q⟩
theorem w_abs {i : Int} {A : Int → Prop} (q : A i) : ∃ j, [V.int i] = [V.int j] ∧ A j := ⟨i, rfl, q⟩
theorem w_lenL {A : Addr → List V → Prop} (h : SqL K H p xs) (q : A p xs) : ∃ a ys, [V.ref p] = [V.ref a] ∧ (SqL K H a ys ∨ SqT K H a ys) ∧ A a ys := ⟨p, xs, rfl, .inl h, q⟩
theorem w_lenT {A : Addr → List V → Prop} (h : SqT K H p xs) (q : A p xs) : ∃ a ys, [V.ref p] = [V.ref a] ∧ (SqL K H a ys ∨ SqT K H a ys) ∧ A a ys := ⟨p, xs, rfl, .inr h, q⟩
theorem w_tupL {A B : Addr → List V → Prop} (h : SqL K H p xs) (q : A p xs) : ∃ a ys, [V.ref p] = [V.ref a] ∧ ((SqL K H a ys ∧ A a ys) ∨ (SqT K H a ys ∧ B a ys)) := ⟨p, xs, rfl, .inl ⟨h, q⟩⟩
theorem w_tupT {A B : Addr → List V → Prop} (h : SqT K H p xs) (q : B p xs) : ∃ a ys, [V.ref p] = [V.ref a] ∧ ((SqL K H a ys ∧ A a ys) ∨ (SqT K H a ys ∧ B a ys)) := ⟨p, xs, rfl, .inr ⟨h, q⟩⟩
theorem w_nT {A B : Prop} (h : B) : if (!true) = true then A else B := iteF h
theorem w_nF {A B : Prop} (h : A) : if (!false) = true then A else B := iteT h
theorem w_br {c A B : Prop} [Decidable c] (h1 : c → A) (h2 : ¬ c → B) : if decide c = true then A else B := ite2 (fun h => h1 (of_decide_eq_true h)) (fun h => h2 (fun z => h (decide_eq_true z)))
theorem w_deIS {i : Int} {x : Str} {A B : Prop} (h : B) : if decide (V.int i = V.str x) = true then A else B := iteF h
theorem w_deSI {i : Int} {x : Str} {A B : Prop} (h : B) : if decide (V.str x = V.int i) = true then A else B := iteF h
theorem w_deST {x y : Str} {A B : Prop} (e : x = y) (h : A) : if decide (V.str x = V.str y) = true then A else B := by
  rw [decide_eq_true (by rw [e])]
  exact iteT h
theorem w_deSF {x y : Str} {A B : Prop} (e : x ≠ y) (h : B) : if decide (V.str x = V.str y) = true then A else B := by
  rw [decide_eq_false (fun z => e (V.str.inj z))]
  exact iteF h
theorem w_deISn {i : Int} {x : Str} {A B : Prop} (h : A) : if (!decide (V.int i = V.str x)) = true then A else B := iteT h
theorem w_deSTn {x y : Str} {A B : Prop} (e : x = y) (h : B) : if (!decide (V.str x = V.str y)) = true then A else B := by
  rw [decide_eq_true (by rw [e])]
  exact iteF h
theorem w_deSFn {x y : Str} {A B : Prop} (e : x ≠ y) (h : A) : if (!decide (V.str x = V.str y)) = true then A else B := by
  rw [decide_eq_false (fun z => e (V.str.inj z))]
  exact iteT h
theorem w_neS {x : V} {A B : Prop} (h : B) : if (!decide (x = x)) = true then A else B := by
  rw [decide_eq_true rfl]
  exact iteF h
theorem w_eqS {x : V} {A B : Prop} (h : A) : if decide (x = x) = true then A else B := by
  rw [decide_eq_true rfl]
  exact iteT h
theorem w_neSb {x : Bool} {A B : Prop} (h : B) : if (!decide (x = x)) = true then A else B := by
  rw [decide_eq_true rfl]
  exact iteF h
theorem w_eqSb {x : Bool} {A B : Prop} (h : A) : if decide (x = x) = true then A else B := by
  rw [decide_eq_true rfl]
  exact iteT h
theorem w_neG {α : Type} {x : α} [Decidable (x = x)] {A B : Prop} (h : B) : if (!decide (x = x)) = true then A else B := by
  rw [decide_eq_true rfl]
  exact iteF h
theorem w_eqG {α : Type} {x : α} [Decidable (x = x)] {A B : Prop} (h : A) : if decide (x = x) = true then A else B := by
  rw [decide_eq_true rfl]
  exact iteT h
theorem w_nn {B : Prop} (q : B) : V.non = V.non ∧ B := ⟨rfl, q⟩
theorem w_nnT {A B : Prop} (h : B) : if (!decide (V.non = V.non)) = true then A else B := iteF h
theorem w_nnR {a : Addr} {A B : Prop} (h : A) : if (!decide (V.ref a = V.non)) = true then A else B := iteT h
theorem w_brI {i j : Int} {A B : Prop} (h1 : i = j → A) (h2 : i ≠ j → B) : if decide (V.int i = V.int j) = true then A else B := w_br (fun h => h1 (V.int.inj h)) (fun h => h2 (fun z => h (by rw [z])))
theorem w_disp {R : Addr → Prop} (z : xs.length ≤ sizeLine) (q : ∀ p, H p = none → R p) : xs.length ≤ sizeLine ∧ ∀ p, H p = none → R p := ⟨z, q⟩
theorem w_tyL {R : Prop} (h : SqL K H p xs) (q : R) : tyV K "list" (.ref p) H ∧ R := ⟨.inl ⟨rfl, xs, h⟩, q⟩
end
theorem kcls_mk {K : PySem.W.Frag} {t : Value} {C : Addr} {r : Bool} (d : PySem.W.hasDictIn K C = true) (ty : PySem.W.typeIn K (.ref C) = some (.type "type")) (s : PySem.W.subIn K t (.ref C) = some r) : PySem.W.kitCls K t (.ref C) = some r := by
  have h : ((PySem.W.clsIn K C).isSome && PySem.W.typeIn K (.ref C) == some (.type "type")) = true := by
    obtain ⟨cd, hc, _⟩ := PySem.W.any_some d
    rw [hc, ty]
    simp
  show (if ((PySem.W.clsIn K C).isSome && PySem.W.typeIn K (.ref C) == some (.type "type")) = true then PySem.W.subIn K t (.ref C) else none) = some r
  rw [if_pos h, s]
theorem exm_mk {K : PySem.W.Frag} {t : Value} {C : Addr} {r : Bool} (b : PySem.W.subIn K (.ref C) (.type "BaseException") = some true) (d : PySem.W.hasDictIn K C = true) (ty : PySem.W.typeIn K (.ref C) = some (.type "type")) (s : PySem.W.subIn K t (.ref C) = some r) : PySem.W.exmOne K t (.ref C) = some r := by
  unfold PySem.W.exmOne
  rw [b]
  simp [kcls_mk d ty s]
section
variable {K : PySem.W.Frag} {σ : L2.St} {H : Hp} {Q : VK} {te : TE} {tA : TA}
theorem w_js {ts : List TE} {acc : Str} {R : Str → Hp → Prop} (h : te σ H fun x H1 => ∃ y : Str, x = .str y ∧ (acc ++ y).length ≤ sizeLine ∧ tJs ts (acc ++ y) σ H1 R) : tJs (te :: ts) acc σ H R := h
theorem w_jsn {acc : Str} {R : Str → Hp → Prop} (h : R acc H) : tJs [] acc σ H R := h
theorem w_js1 {z acc : Str} {A : Str → Prop} (hl : (acc ++ z).length ≤ sizeLine) (q : A z) : ∃ y : Str, V.str z = .str y ∧ (acc ++ y).length ≤ sizeLine ∧ A y := ⟨z, rfl, hl, q⟩
theorem w_fmt (h : te σ H fun x H1 => (∃ y : Str, x = .str y ∧ y.length ≤ sizeLine ∧ Q (.str y) H1) ∨ ∃ i : Int, x = .int i ∧ i.natAbs.log2 < 1920 ∧ Q (.str (toString i)) H1) : tFmt te σ H Q := h
theorem w_fmt1 {i : Int} {A : Prop} {B : Int → Prop} (hl : i.natAbs.log2 < 1920) (q : B i) : A ∨ ∃ j : Int, V.int i = .int j ∧ j.natAbs.log2 < 1920 ∧ B j := .inr ⟨i, rfl, hl, q⟩
theorem w_callS {sp : Sp} {E : L2.St → XK} (h : tA σ H fun vs H1 => sp vs H1 Q (E σ)) : tCallS sp E tA σ H Q := h
end
section
variable {K : PySem.W.Frag} {H H' : Hp} {Q : VK} {a b p : Addr} {xs ys : List V}
theorem w_catA (h : SqT K H a xs) (h2 : SqT K H b ys) (z : xs.length + ys.length ≤ sizeLine) (q : ∀ p H', Ex H H' → SqT K H' p (xs ++ ys) → Q (.ref p) H') : rCatA K (.ref a) (.ref b) H Q :=
  ⟨a, b, xs, ys, rfl, rfl, h, h2, z, fun e => q b H (Ex.refl H) (by rw [e]; exact h2), fun _ e => q a H (Ex.refl H) (by rw [e, List.append_nil]; exact h), fun _ _ p hp => q p _ (Ex.new hp) (SqT.of upd_same)⟩
theorem w_slA {lo hi : Option Int} (h : SqT K H a xs) (q : ∀ p H', Ex H H' → SqT K H' p (cutV xs lo hi) → Q (.ref p) H') : rSlA K (.ref a) lo hi H Q := by
  refine ⟨a, xs, rfl, h, fun e => q a H (Ex.refl H) ?_, fun _ p hp => q p _ (Ex.new hp) (SqT.of upd_same)⟩
  unfold cutV
  rw [e.1, e.2]
  simpa using h
theorem tyx_t (h : SqT K H a xs) : TyX K H (.ref a) (.type "tuple") := by
  rcases h with (h | ⟨o, h⟩) | ⟨o, _, _, h, c, _⟩
  · exact .base (.tup h)
  · exact .fTuple h
  · exact .kTuple h c
theorem tyx_l (h : SqL K H a xs) : TyX K H (.ref a) (.type "list") := by
  rcases h with (h | ⟨o, h⟩) | ⟨o, _, _, h, c, _⟩
  · exact .base (.lst h)
  · exact .base (.frz h)
  · exact .kList h c
end
set_option maxHeartbeats 4000000 in
theorem mul_one_meets (l : Addr) (items : Array Value) (n : Nat) (di : Option Addr) (ss : Array (Option Value)) (u : Tok) :
    Meets (Builtin.«tuple.__mul__» ⟨[.ref l, .int 1 u], []⟩) (fun _ R s => s.heap.get? l = some { cls := .type "tuple", dict := di, data := .seq items n, slots := ss } ∧ R (.ok (.ret (Value.ref l))) s) :=
  .of_wp fun prog w A R s ⟨hl, h⟩ => by
    obtain ⟨hp, g, d, tk, os⟩ := s
    have idx := AutoSeq1.idx_int
    have c1 : (items.isEmpty || (1 : Int) == 1) = true := by simp
    have c0 : (decide ((1 : Int) < -(2 ^ 63)) || decide ((1 : Int) ≥ 2 ^ 63)) = false := by decide
    wp_walk using wpAny_loadPart' hl
    repeat (first
      | (refine wpAny_ite_false (decide_eq_false (fun z => by rw [c0] at z; cases z)) ?_; wp_walk using wpAny_loadPart' hl)
      | (refine wpAny_ite_true (decide_eq_true (by simp)) ?_; wp_walk using wpAny_loadPart' hl))
    exact ⟨_, rfl, h⟩
set_option maxHeartbeats 4000000 in
theorem mul_zero_meets (l : Addr) (items : Array Value) (n : Nat) (di : Option Addr) (ss : Array (Option Value)) (u : Tok) (em : items.isEmpty = false) :
    Meets (Builtin.«tuple.__mul__» ⟨[.ref l, .int 0 u], []⟩) (fun _ R s => s.heap.get? l = some { cls := .type "tuple", dict := di, data := .seq items n, slots := ss } ∧
      R (.ok (.ret (Value.ref s.heap.objs.size))) { s with heap := s.heap.push { cls := Value.type "tuple", data := Data.seq #[] }, toks := s.toks }) :=
  .of_wp fun prog w A R s ⟨hl, h⟩ => by
    obtain ⟨hp, g, d, tk, os⟩ := s
    have idx := AutoSeq1.idx_int
    have c1 : (items.isEmpty || (0 : Int) == 1) = false := by rw [em]; rfl
    have c2 : (decide ((0 : Int) ≤ 0) || items.isEmpty) = true := by simp
    have c0 : (decide ((0 : Int) < -(2 ^ 63)) || decide ((0 : Int) ≥ 2 ^ 63)) = false := by decide
    wp_walk using wpAny_loadPart' hl
    repeat (first
      | (refine wpAny_ite_false (decide_eq_false (fun z => by rw [c0] at z; cases z)) ?_; wp_walk using wpAny_loadPart' hl)
      | (refine wpAny_ite_false (decide_eq_false (fun z => by rw [c1] at z; cases z)) ?_; wp_walk using wpAny_loadPart' hl)
      | (refine wpAny_ite_true (decide_eq_true c2) ?_; wp_walk using wpAny_loadPart' hl))
    exact ⟨_, rfl, h⟩
def rRepB (K : PySem.W.Frag) : R2 := fun x y H Q => ∃ (l : Addr) (k : Int) (xs : List V), x = .ref l ∧ y = .int k ∧ SqT K H l xs ∧ xs ≠ [] ∧ 0 ≤ k ∧ k ≤ 3000 ∧ xs.length ≤ 1000 ∧ (k = 1 → Q (.ref l) H) ∧ (k ≠ 1 → ∀ p, H p = none → Q (.ref p) (upd H p (.tup (List.replicate k.toNat xs).flatten)))
theorem op_repB {X : Cx} : OpR X (binaryOp .Mult) (rRepB X.K) := by
  intro pins s σ H x y v u Q I rx ry ⟨l, k, xs, ex, ey, hT, hne, k0, k3, hz, q1, q⟩
  subst ex ey
  cases rx
  obtain ⟨tt, eu⟩ := ry
  subst eu
  obtain ⟨its, r, ⟨⟨cl, di, da, ss⟩, hob, hcl, n, hda⟩, _⟩ := I.tuple hT
  simp only at hcl hda
  subst hcl hda
  have el : its.length = xs.length := r.length.symm
  have es : its.toArray.size = xs.length := by rw [List.size_toArray, el]
  have pos : 0 < xs.length := List.length_pos_iff.mpr hne
  have em : its.toArray.isEmpty = false := by
    rw [Array.isEmpty_eq_false_iff_exists_mem]
    obtain ⟨a0, ha0⟩ := List.exists_mem_of_length_pos (l := its) (by omega)
    exact ⟨a0, by simpa using ha0⟩
  have big : k.toNat * xs.length ≤ 3000 * 1000 := Nat.mul_le_mul (by omega) hz
  have prod : ((its.toArray.size : Nat) : Int) * k = ((k.toNat * xs.length : Nat) : Int) := by
    rw [es, Int.natCast_mul, Int.toNat_of_nonneg (by omega), Int.mul_comm]
  have fl : (List.replicate k.toNat its).flatten.length = k.toNat * xs.length := by rw [PyProof.Rows.lm_len_rep_flat, el]
  have sl := sizeLine_eq
  have d0 : (decide (k < -(2 ^ 63)) || decide (k ≥ 2 ^ 63)) = false := by simp; omega
  refine wpAny_binaryOp_repeat_ref (T := "tuple") (U := "int") (by decide) ⟨_, hob, rfl⟩ (fun z => typeIs_int z k tt) noFill_tuple_mul F.fills_int_mul F.slot_int_rmul repeat_tuple F.slot_int_index.lookup (call_meets F.slot_int_rmul (typeIs_int s k tt) F.entry_int_rmul (F.args_int_rmul_2 _ _)
    (int_rmul_tuple k tt l its.toArray n di ss) ⟨hob, rfl, ⟨_, hob, rfl⟩, ?_⟩)
  have made : ∀ (xs2 : List V) (us : List Value), Vals xs2 us → xs2.length ≤ 3000000 → (∀ p, H p = none → Q (.ref p) (upd H p (.tup xs2))) → EP X pins σ Q (.ref s.heap.objs.size) { s with heap := s.heap.push { cls := Value.type "tuple", data := Data.seq us.toArray }, toks := s.toks } := fun xs2 us rv hlen q2 =>
    ⟨.ref s.heap.objs.size, _, I.laid (t' := s.toks) (o := .tup xs2) (fun _ _ z => Heap.get?_push_of_some _ z) (Nat.le_refl _) ⟨by omega, _, rv, IsTup.new _ _⟩, rfl, q2 _ (I.hok.fresh (Nat.le_refl _))⟩
  by_cases h1 : k = 1
  · subst h1
    exact call_meets F.slot_tuple_mul ⟨_, hob, rfl⟩ F.entry_tuple_mul (F.args_tuple_mul_2 _ _) (mul_one_meets l its.toArray n di ss tt) ⟨hob, .ref l, H, I, rfl, q1 rfl⟩
  · by_cases h2 : k = 0
    · subst h2
      exact call_meets F.slot_tuple_mul ⟨_, hob, rfl⟩ F.entry_tuple_mul (F.args_tuple_mul_2 _ _) (mul_zero_meets l its.toArray n di ss tt em) ⟨hob, made [] [] .nil (by simp) (q h1)⟩
    · have d1 : (its.toArray.isEmpty || k == 1) = false := by rw [em]; simp; omega
      have d2 : (decide (k ≤ 0) || its.toArray.isEmpty) = false := by rw [em]; simp; omega
      have d4 : Builtin.Tuple.tupleTooMany (((its.toArray.size : Nat) : Int) * k) = false := by
        rw [prod]
        unfold Builtin.Tuple.tupleTooMany
        exact decide_eq_false (by omega)
      have tm : Meets _ _ := tuple_mulW l its.toArray n di ss k tt d0 d1 d2 (by rw [prod]; omega) d4 (by rw [size_rep, List.size_toArray, fl]; omega)
      refine call_meets F.slot_tuple_mul ⟨_, hob, rfl⟩ F.entry_tuple_mul (F.args_tuple_mul_2 _ _) tm ⟨hob, ?_⟩
      rw [size_rep]
      exact made _ _ (r.rep k.toNat) (by rw [PyProof.Rows.lm_len_rep_flat]; omega) (q h1)
theorem w_repB {K : PySem.W.Frag} {H : Hp} {Q : VK} {l : Addr} {k : Int} {xs : List V} (h : SqT K H l xs) (hne : xs ≠ []) (h2 : 0 ≤ k) (h3 : k ≤ 3000) (hz : xs.length ≤ 1000) (q : ∀ p H', Ex H H' → SqT K H' p (List.replicate k.toNat xs).flatten → Q (.ref p) H') : rRepB K (.ref l) (.int k) H Q := by
  refine ⟨l, k, xs, rfl, rfl, h, hne, h2, h3, hz, fun e => q l H (Ex.refl H) ?_, fun _ p hp => q p _ (Ex.new hp) (SqT.of upd_same)⟩
  subst e
  simpa using h
section
variable {X : Cx} {K : PySem.W.Frag}
theorem ix_listK (e : X.K = K) : IxR X (rIxL K) := by
  rw [← e]
  exact ix_list
theorem ix_tupK (e : X.K = K) : IxR X (rIxT K) := by
  rw [← e]
  exact ix_tup
end
def Kp (H H' : Hp) : Prop := (∀ a xs, H a = some (.lst xs) → ∃ ys, H' a = some (.lst ys)) ∧ ∀ a xs, H a = some (.tup xs) → H' a = some (.tup xs)
section
variable {K : PySem.W.Frag} {H H' H1 : Hp} {a s l : Addr} {xs ys : List V}
theorem Kp.refl (H : Hp) : Kp H H := ⟨fun _ xs h => ⟨xs, h⟩, fun _ _ h => h⟩
theorem Kp.trans (e : Kp H H1) (f : Kp H1 H') : Kp H H' := ⟨fun a xs h => by
  obtain ⟨ys, h1⟩ := e.1 a xs h
  exact f.1 a ys h1, fun a xs h => f.2 a xs (e.2 a xs h)⟩
theorem Kp.ex (e : Ex H H') : Kp H H' := ⟨fun a xs h => ⟨xs, e a _ h⟩, fun a xs h => e a _ h⟩
theorem Kp.fr (e : Fr s H H') (h : H s = some (.lst xs)) (h2 : H' s = some (.lst ys)) : Kp H H' := ⟨fun a zs q => by
  by_cases z : a = s
  · rw [z]
    exact ⟨_, h2⟩
  · exact ⟨_, e a _ z q⟩, fun a zs q => e a _ (fun z => by rw [z, h] at q; cases q) q⟩
theorem Kp.put (h : H l = some (.lst xs)) : Kp H (upd H l (.lst ys)) := ⟨fun a zs q => by
  by_cases z : a = l
  · rw [z]
    exact ⟨_, upd_same⟩
  · exact ⟨zs, by rw [upd_ne z]; exact q⟩, fun a zs q => by
  rw [upd_ne (fun z => by rw [z, h] at q; cases q)]
  exact q⟩
/-- the values of the law that asks is_term -/
inductive Kd (H : Hp) : V → Prop
  | int (i : Int) : Kd H (.int i)
  | str (x : Str) : Kd H (.str x)
  | bl (b : Bool) : Kd H (.bl b)
  | non : Kd H .non
  | lst {a : Addr} {xs : List V} (h : H a = some (.lst xs)) : Kd H (.ref a)
  | tup {a : Addr} {xs : List V} (h : H a = some (.tup xs)) : Kd H (.ref a)
theorem Kd.mono {v : V} (h : Kd H v) (e : Kp H H') : Kd H' v := by
  cases h with
  | int i => exact .int i
  | str x => exact .str x
  | bl b => exact .bl b
  | non => exact .non
  | lst h =>
    obtain ⟨ys, h⟩ := e.1 _ _ h
    exact .lst h
  | tup h => exact .tup (e.2 _ _ h)
end
theorem Kd.ty {H : Hp} {v : V} (h : Kd H v) (K : PySem.W.Frag) : ∃ n, TyX K H v (.type n) ∧ n = (match v with | .int _ => "int" | .str _ => "str" | .bl _ => "bool" | .non => "NoneType" | _ => n) := by
  cases h with
  | int i => exact ⟨_, .base (.int i), rfl⟩
  | str i => exact ⟨_, .base (.str i), rfl⟩
  | bl i => exact ⟨_, .base (.bl i), rfl⟩
  | non => exact ⟨_, .base .non, rfl⟩
  | lst h => exact ⟨_, .base (.lst h), rfl⟩
  | tup h => exact ⟨_, .base (.tup h), rfl⟩
theorem all_nil {H : Hp} : ∀ x ∈ ([] : List V), Kd H x := fun x h => absurd h (by simp)
theorem all_cons {H : Hp} {v : V} {xs : List V} (h : Kd H v) (t : ∀ x ∈ xs, Kd H x) : ∀ x ∈ v :: xs, Kd H x := fun x hx => by
  rcases List.mem_cons.mp hx with e | e
  · rw [e]
    exact h
  · exact t x e
section
variable {K : PySem.W.Frag}
theorem kit_int_int : PySem.W.kitOne K (.type "int") (.type "int") = some true := kit_ty (by decide +kernel)
theorem kit_int_str : PySem.W.kitOne K (.type "int") (.type "str") = some false := kit_ty (by decide +kernel)
theorem kit_int_bool : PySem.W.kitOne K (.type "int") (.type "bool") = some false := kit_ty (by decide +kernel)
theorem kit_int_tuple : PySem.W.kitOne K (.type "int") (.type "tuple") = some false := kit_ty (by decide +kernel)
theorem kit_int_list : PySem.W.kitOne K (.type "int") (.type "list") = some false := kit_ty (by decide +kernel)
theorem kit_str_int : PySem.W.kitOne K (.type "str") (.type "int") = some false := kit_ty (by decide +kernel)
theorem kit_str_str : PySem.W.kitOne K (.type "str") (.type "str") = some true := kit_ty (by decide +kernel)
theorem kit_str_bool : PySem.W.kitOne K (.type "str") (.type "bool") = some false := kit_ty (by decide +kernel)
theorem kit_str_tuple : PySem.W.kitOne K (.type "str") (.type "tuple") = some false := kit_ty (by decide +kernel)
theorem kit_str_list : PySem.W.kitOne K (.type "str") (.type "list") = some false := kit_ty (by decide +kernel)
theorem kit_bool_int : PySem.W.kitOne K (.type "bool") (.type "int") = some true := kit_ty (by decide +kernel)
theorem kit_bool_str : PySem.W.kitOne K (.type "bool") (.type "str") = some false := kit_ty (by decide +kernel)
theorem kit_bool_bool : PySem.W.kitOne K (.type "bool") (.type "bool") = some true := kit_ty (by decide +kernel)
theorem kit_bool_tuple : PySem.W.kitOne K (.type "bool") (.type "tuple") = some false := kit_ty (by decide +kernel)
theorem kit_bool_list : PySem.W.kitOne K (.type "bool") (.type "list") = some false := kit_ty (by decide +kernel)
theorem kit_NoneType_int : PySem.W.kitOne K (.type "NoneType") (.type "int") = some false := kit_ty (by decide +kernel)
theorem kit_NoneType_str : PySem.W.kitOne K (.type "NoneType") (.type "str") = some false := kit_ty (by decide +kernel)
theorem kit_NoneType_bool : PySem.W.kitOne K (.type "NoneType") (.type "bool") = some false := kit_ty (by decide +kernel)
theorem kit_NoneType_tuple : PySem.W.kitOne K (.type "NoneType") (.type "tuple") = some false := kit_ty (by decide +kernel)
theorem kit_NoneType_list : PySem.W.kitOne K (.type "NoneType") (.type "list") = some false := kit_ty (by decide +kernel)
theorem kit_list_int : PySem.W.kitOne K (.type "list") (.type "int") = some false := kit_ty (by decide +kernel)
theorem kit_list_str : PySem.W.kitOne K (.type "list") (.type "str") = some false := kit_ty (by decide +kernel)
theorem kit_list_bool : PySem.W.kitOne K (.type "list") (.type "bool") = some false := kit_ty (by decide +kernel)
theorem kit_list_tuple : PySem.W.kitOne K (.type "list") (.type "tuple") = some false := kit_ty (by decide +kernel)
theorem kit_list_list : PySem.W.kitOne K (.type "list") (.type "list") = some true := kit_ty (by decide +kernel)
theorem kit_tuple_int : PySem.W.kitOne K (.type "tuple") (.type "int") = some false := kit_ty (by decide +kernel)
theorem kit_tuple_str : PySem.W.kitOne K (.type "tuple") (.type "str") = some false := kit_ty (by decide +kernel)
theorem kit_tuple_bool : PySem.W.kitOne K (.type "tuple") (.type "bool") = some false := kit_ty (by decide +kernel)
theorem kit_tuple_tuple : PySem.W.kitOne K (.type "tuple") (.type "tuple") = some true := kit_ty (by decide +kernel)
theorem kit_tuple_list : PySem.W.kitOne K (.type "tuple") (.type "list") = some false := kit_ty (by decide +kernel)
end
/-- a def that may be called by its name -/
def Def (P : Program) (w : World) (K : PySem.W.Frag) (mg : Str → Option Value) (base : Heap) (CX : CXT) (k : Nat) (x : Str) (ps : List Str) (sp : Sp) : Prop :=
  ∃ (f : Addr) (fd : FuncData), mg x = some (.ref f) ∧ PySem.W.keepIn K (.ref f) = true ∧ Binds K fd ps [] ∧ FnOk P w K mg base CX k f fd ps sp
theorem Def.of {P : Program} {w : World} {K : PySem.W.Frag} {mg : Str → Option Value} {base : Heap} {CX : CXT} {k : Nat} {x : Str} {ps : List Str} {sp : Sp} {f : Addr} {fd : FuncData} (g : mg x = some (.ref f)) (kp : PySem.W.keepIn K (.ref f) = true) (b : Binds K fd ps []) (G : FnOk P w K mg base CX k f fd ps sp) : Def P w K mg base CX k x ps sp := ⟨f, fd, g, kp, b, G⟩
theorem drop_at {α : Type} {xs : List α} {i : Nat} {x : α} (h : xs[i]? = some x) : xs.drop i = x :: xs.drop (i + 1) := by
  obtain ⟨h1, rfl⟩ := List.getElem?_eq_some_iff.mp h
  exact List.drop_eq_getElem_cons h1
inductive Tm where
  | var (n : Nat)
  | lam (b : Tm)
  | app (f a : Tm)
def Tm.enc : Tm → List V
  | .var n => [.int n]
  | .lam b => .str "lam" :: b.enc
  | .app f a => .str "app" :: (f.enc ++ a.enc)
/-- its free variables are below d -/
def Tm.wf : Nat → Tm → Prop
  | d, .var n => n < d
  | d, .lam b => b.wf (d + 1)
  | d, .app f a => f.wf d ∧ a.wf d
def encs (ts : List Tm) : List V := (ts.map Tm.enc).flatten
/-- whatever terms stand for what waits (the last one first), the whole is a term -/
def Comp (loose : Nat) (nodes : List V) (wait : List Nat) : Prop := ∀ ts : List Tm, ts.length = wait.length → (∀ p ∈ ts.zip wait.reverse, p.1.wf (p.2 + loose)) → ∃ t : Tm, t.wf loose ∧ t.enc = nodes ++ encs ts
theorem Comp.start (loose : Nat) : Comp loose [] [0] := fun ts hl hw => by
  match ts, hl with
  | [t], _ =>
    refine ⟨t, ?_, by simp [encs]⟩
    have := hw (t, 0) (by simp)
    simpa using this
theorem Comp.done {loose : Nat} {nodes : List V} (h : Comp loose nodes []) : ∃ t : Tm, t.wf loose ∧ t.enc = nodes := by
  obtain ⟨t, h1, h2⟩ := h [] rfl (by simp)
  exact ⟨t, h1, by rw [h2]; simp [encs]⟩
theorem Comp.var {loose : Nat} {nodes : List V} {wait : List Nat} {d n : Nat} (h : Comp loose nodes (wait ++ [d])) (hn : n < d + loose) : Comp loose (nodes ++ [.int n]) wait := fun ts hl hw => by
  obtain ⟨t, h1, h2⟩ := h (.var n :: ts) (by simp [hl]) (fun p hp => by
    rw [List.reverse_append] at hp
    rcases List.mem_cons.mp hp with e | e
    · subst e
      exact hn
    · exact hw p e)
  exact ⟨t, h1, by rw [h2]; simp [encs, Tm.enc]⟩
theorem Comp.lam {loose : Nat} {nodes : List V} {wait : List Nat} {d : Nat} (h : Comp loose nodes (wait ++ [d])) : Comp loose (nodes ++ [.str "lam"]) (wait ++ [d + 1]) := fun ts hl hw => by
  match ts, hl with
  | [], hl => simp at hl
  | b :: r, hl =>
    rw [List.reverse_append] at hw
    obtain ⟨t, h1, h2⟩ := h (.lam b :: r) (by simpa using hl) (fun p hp => by
      rw [List.reverse_append] at hp
      rcases List.mem_cons.mp hp with e | e
      · subst e
        have := hw (b, d + 1) (by simp)
        show b.wf (d + loose + 1)
        have e2 : d + loose + 1 = d + 1 + loose := by omega
        rw [e2]
        exact this
      · exact hw p (List.mem_cons_of_mem _ e))
    exact ⟨t, h1, by rw [h2]; simp [encs, Tm.enc]⟩
theorem Comp.app {loose : Nat} {nodes : List V} {wait : List Nat} {d : Nat} (h : Comp loose nodes (wait ++ [d])) : Comp loose (nodes ++ [.str "app"]) (wait ++ [d] ++ [d]) := fun ts hl hw => by
  match ts, hl with
  | [], hl => simp at hl
  | [_], hl => simp at hl
  | f :: a :: r, hl =>
    rw [List.reverse_append, List.reverse_append] at hw
    obtain ⟨t, h1, h2⟩ := h (.app f a :: r) (by simpa using hl) (fun p hp => by
      rw [List.reverse_append] at hp
      rcases List.mem_cons.mp hp with e | e
      · subst e
        exact ⟨hw (f, d) (by simp), hw (a, d) (by simp)⟩
      · exact hw p (List.mem_cons_of_mem _ (List.mem_cons_of_mem _ e)))
    exact ⟨t, h1, by rw [h2]; simp [encs, Tm.enc]⟩
def Flat (xs : List V) : Prop := ∀ x ∈ xs, (∃ i, x = .int i) ∨ ∃ s, x = .str s
theorem Flat.app {xs ys : List V} (h : Flat xs) (t : Flat ys) : Flat (xs ++ ys) := fun x hx => by
  rcases List.mem_append.mp hx with e | e
  · exact h x e
  · exact t x e
theorem Flat.rep {xs : List V} (h : Flat xs) (n : Nat) : Flat (List.replicate n xs).flatten := fun x hx => by
  obtain ⟨l, h1, h2⟩ := List.mem_flatten.mp hx
  rw [(List.mem_replicate.mp h1).2] at h2
  exact h x h2
theorem Flat.one (x : V) (h : (∃ i, x = .int i) ∨ ∃ s, x = .str s) : Flat [x] := fun y hy => by
  rw [List.mem_singleton.mp hy]
  exact h
theorem Flat.two (x z : V) (h : (∃ i, x = .int i) ∨ ∃ s, x = .str s) (h2 : (∃ i, z = .int i) ∨ ∃ s, z = .str s) : Flat [x, z] := fun y hy => by
  rcases List.mem_cons.mp hy with e | e
  · rw [e]
    exact h
  · rw [List.mem_singleton.mp e]
    exact h2
theorem Flat.cons {x : V} {xs : List V} (h : (∃ i, x = .int i) ∨ ∃ s, x = .str s) (t : Flat xs) : Flat (x :: xs) := fun y hy => by
  rcases List.mem_cons.mp hy with e | e
  · rw [e]
    exact h
  · exact t y e
theorem Flat.nil : Flat [] := fun x h => absurd h (by simp)
theorem Tm.flat : ∀ t : Tm, Flat t.enc
  | .var n => Flat.one _ (.inl ⟨_, rfl⟩)
  | .lam b => Flat.cons (.inr ⟨_, rfl⟩) b.flat
  | .app f a => Flat.cons (.inr ⟨_, rfl⟩) (f.flat.app a.flat)
/-- no variable too great -/
def okV : V → Bool
  | .int i => decide (i ≤ 1000000)
  | _ => true
def fitsV (xs : List V) : Bool := decide (xs.length ≤ 1000) && xs.all okV
def Nds (xs : List V) : Prop := ∀ x ∈ xs, (∃ i, x = .int i) ∨ x = .str "lam" ∨ x = .str "app"
theorem Nds.flat {xs : List V} (h : Nds xs) : Flat xs := fun x hx => by
  rcases h x hx with e | e | e
  · exact .inl e
  · exact .inr ⟨_, e⟩
  · exact .inr ⟨_, e⟩
theorem Nds.nil : Nds [] := fun x h => absurd h (by simp)
theorem Nds.app {xs ys : List V} (h : Nds xs) (t : Nds ys) : Nds (xs ++ ys) := fun x hx => by
  rcases List.mem_append.mp hx with e | e
  · exact h x e
  · exact t x e
theorem Nds.cons {x : V} {xs : List V} (h : (∃ i, x = .int i) ∨ x = .str "lam" ∨ x = .str "app") (t : Nds xs) : Nds (x :: xs) := fun y hy => by
  rcases List.mem_cons.mp hy with e | e
  · rw [e]
    exact h
  · exact t y e
theorem Nds.rep {xs : List V} (h : Nds xs) (n : Nat) : Nds (List.replicate n xs).flatten := fun x hx => by
  obtain ⟨l, h1, h2⟩ := List.mem_flatten.mp hx
  rw [(List.mem_replicate.mp h1).2] at h2
  exact h x h2
theorem Nds.tail {x : V} {xs : List V} (h : Nds (x :: xs)) : Nds xs := fun y hy => h y (List.mem_cons_of_mem _ hy)
theorem Nds.take {xs : List V} (h : Nds xs) (n : Nat) : Nds (xs.take n) := fun x hx => h x (List.mem_of_mem_take hx)
theorem Nds.drop {xs : List V} (h : Nds xs) (n : Nat) : Nds (xs.drop n) := fun x hx => h x (List.mem_of_mem_drop hx)
theorem Nds.I (i : Int) : (∃ j, V.int i = .int j) ∨ V.int i = .str "lam" ∨ V.int i = .str "app" := .inl ⟨i, rfl⟩
theorem Nds.L : (∃ j, V.str "lam" = .int j) ∨ V.str "lam" = .str "lam" ∨ V.str "lam" = .str "app" := .inr (.inl rfl)
theorem Nds.A : (∃ j, V.str "app" = .int j) ∨ V.str "app" = .str "lam" ∨ V.str "app" = .str "app" := .inr (.inr rfl)
theorem Tm.nds : ∀ t : Tm, Nds t.enc
  | .var n => Nds.cons (Nds.I _) Nds.nil
  | .lam b => Nds.cons Nds.L b.nds
  | .app f a => Nds.cons Nds.A (f.nds.app a.nds)
def dv : V → PyData
  | .int i => .int i
  | .str x => .str x
  | _ => .none
theorem eqv_nodes : ∀ {xs ys : List V}, Nds xs → Nds ys → PyData.eqvAll (xs.map dv) (ys.map dv) = decide (xs = ys)
  | [], [], _, _ => by simp [PyData.eqvAll]
  | [], _ :: _, _, _ => by simp [PyData.eqvAll]
  | _ :: _, [], _, _ => by simp [PyData.eqvAll]
  | x :: xs, y :: ys, h, k => by
    have ih := eqv_nodes h.tail k.tail
    have hxy : PyData.eqv (dv x) (dv y) = decide (x = y) := by
      rcases h x List.mem_cons_self with ⟨i, rfl⟩ | rfl | rfl <;> rcases k y List.mem_cons_self with ⟨j, rfl⟩ | rfl | rfl <;> simp [dv, PyData.eqv] <;> first | (rw [Bool.eq_iff_iff]; simp) | decide +kernel
    rw [List.map_cons, List.map_cons, PyData.eqvAll, ih, hxy]
    simp
theorem lay_nodes : ∀ {xs : List V}, Nds xs → PyData.canLayAll0 (xs.map dv) = true
  | [], _ => rfl
  | x :: xs, h => by
    have ih := lay_nodes h.tail
    have hx : (dv x).canLay0 = true := by
      rcases h x List.mem_cons_self with ⟨i, rfl⟩ | rfl | rfl
      · rfl
      · decide +kernel
      · decide +kernel
    rw [List.map_cons, PyData.canLayAll0, hx, ih]
    rfl
theorem dp_nodes {K : PySem.W.Frag} {H : Hp} : ∀ {xs : List V}, Nds xs → DpAll K H xs (xs.map dv)
  | [], _ => .nil
  | x :: xs, h => by
    refine .cons ?_ (dp_nodes h.tail)
    rcases h x List.mem_cons_self with ⟨i, rfl⟩ | rfl | rfl
    · exact .int i
    · exact .str _
    · exact .str _
theorem depth_atom (x : V) : (dv x).depth ≤ 1 := by
  cases x <;> simp [dv, PyData.depth]
theorem depth_all : ∀ xs : List V, PyData.depthAll (xs.map dv) ≤ 1
  | [] => by simp [PyData.depthAll]
  | x :: xs => by
    have h1 := depth_atom x
    have h2 := depth_all xs
    simp only [List.map_cons, PyData.depthAll]
    omega
theorem depth_nodes {xs : List V} : (PyData.tuple (xs.map dv)).depth ≤ 2 := by
  have h := depth_all xs
  simp only [PyData.depth]
  omega
theorem shaped_nodes {xs : List V} (h : Nds xs) : SeqAt.shaped (.tuple (xs.map dv)) = true := by
  have h1 : (PyData.tuple (xs.map dv)).canLay0 = true := lay_nodes h
  have h2 := depth_nodes (xs := xs)
  unfold SeqAt.shaped
  rw [h1, Bool.true_and]
  exact decide_eq_true (by omega)
section
variable {K : PySem.W.Frag} {H : Hp} {Q : VK} {a b : Addr} {xs ys : List V}
theorem w_eqN (h : SqT K H a xs) (k : SqT K H b ys) (n : Nds xs) (m : Nds ys) (q : Q (.bl (decide (xs = ys))) H) : rEqD K (.ref a) (.ref b) H Q :=
  ⟨_, _, .tup h (dp_nodes n), .tup k (dp_nodes m), shaped_nodes n, shaped_nodes m, by rw [PyData.eqv, eqv_nodes n m]; exact q⟩
theorem w_neN (h : SqT K H a xs) (k : SqT K H b ys) (n : Nds xs) (m : Nds ys) (q : Q (.bl (!decide (xs = ys))) H) : rNeD K (.ref a) (.ref b) H Q :=
  ⟨_, _, .tup h (dp_nodes n), .tup k (dp_nodes m), shaped_nodes n, shaped_nodes m, by rw [PyData.eqv, eqv_nodes n m]; exact q⟩
theorem w_neNon (k : SqT K H b ys) (m : Nds ys) (q : Q (.bl true) H) : rNeD K .non (.ref b) H Q :=
  ⟨_, _, .non, .tup k (dp_nodes m), by decide, shaped_nodes m, q⟩
theorem w_eqNon (k : SqT K H b ys) (m : Nds ys) (q : Q (.bl false) H) : rEqD K .non (.ref b) H Q :=
  ⟨_, _, .non, .tup k (dp_nodes m), by decide, shaped_nodes m, q⟩
end
theorem ly_lt {n : Nat} (h : n < 15000000) : n < sizeLine := by
  rw [sizeLine_eq]
  omega
theorem ly_sz {n : Nat} (h : n ≤ 16000000) : n ≤ sizeLine := by
  rw [sizeLine_eq]
  omega
def Tm.lamN : Nat → Tm → Tm
  | 0, t => t
  | n + 1, t => .lam (Tm.lamN n t)
theorem Tm.enc_lamN (n : Nat) (t : Tm) : (Tm.lamN n t).enc = (List.replicate n [V.str "lam"]).flatten ++ t.enc := by
  induction n with
  | zero => rfl
  | succ n ih =>
    show V.str "lam" :: (Tm.lamN n t).enc = _
    rw [ih, List.replicate_succ]
    rfl
/-- the greatest variable is at most M -/
def Tm.vars (M : Nat) : Tm → Prop
  | .var n => n ≤ M
  | .lam b => b.vars M
  | .app f a => f.vars M ∧ a.vars M
theorem Tm.vars_mono {M N : Nat} (hm : M ≤ N) : ∀ {t : Tm}, t.vars M → t.vars N
  | .var n, h => Nat.le_trans h hm
  | .lam b, h => Tm.vars_mono hm (t := b) h
  | .app f a, h => ⟨Tm.vars_mono hm (t := f) h.1, Tm.vars_mono hm (t := a) h.2⟩
theorem Tm.vars_wf : ∀ {t : Tm} {d : Nat}, t.wf d → t.vars (d + t.enc.length)
  | .var n, d, h => by
    show n ≤ d + 1
    have : n < d := h
    omega
  | .lam b, d, h => by
    have := Tm.vars_wf (t := b) (d := d + 1) h
    exact Tm.vars_mono (by simp [Tm.enc]; omega) this
  | .app f a, d, h => by
    have h1 := Tm.vars_wf (t := f) h.1
    have h2 := Tm.vars_wf (t := a) h.2
    exact ⟨Tm.vars_mono (by simp [Tm.enc]; omega) h1, Tm.vars_mono (by simp [Tm.enc]; omega) h2⟩
theorem ok_vars : ∀ {t : Tm}, t.vars 1000000 → t.enc.all okV = true
  | .var n, h => by
    have h : n ≤ 1000000 := h
    simp [Tm.enc, okV]
    omega
  | .lam b, h => by
    have := ok_vars (t := b) h
    simp only [Tm.enc, List.all_cons, this]
    rfl
  | .app f a, h => by
    have h1 := ok_vars (t := f) h.1
    have h2 := ok_vars (t := a) h.2
    simp only [Tm.enc, List.all_cons, List.all_append, h1, h2]
    rfl
def Tm.deps : Nat → Tm → List Nat
  | d, .var _ => [d]
  | d, .lam b => d :: b.deps (d + 1)
  | d, .app f a => d :: (f.deps d ++ a.deps d)
theorem Tm.deps_len : ∀ (t : Tm) (d : Nat), (t.deps d).length = t.enc.length
  | .var _, _ => rfl
  | .lam b, d => by simp [Tm.deps, Tm.enc, Tm.deps_len b]
  | .app f a, d => by simp [Tm.deps, Tm.enc, Tm.deps_len f, Tm.deps_len a]
theorem Tm.enc_ne : ∀ t : Tm, t.enc ≠ []
  | .var _ => by simp [Tm.enc]
  | .lam _ => by simp [Tm.enc]
  | .app _ _ => by simp [Tm.enc]
def depss : List Tm → List Nat → List Nat
  | t :: ts, d :: ds => t.deps d ++ depss ts ds
  | _, _ => []
theorem encs_cons (t : Tm) (ts : List Tm) : encs (t :: ts) = t.enc ++ encs ts := by simp [encs]
theorem encs_nil {ts : List Tm} (h : encs ts = []) : ts = [] := by
  cases ts with
  | nil => rfl
  | cons t r =>
    rw [encs_cons] at h
    exact absurd (List.append_eq_nil_iff.mp h).1 t.enc_ne
/-- in the midst of a walk over a term's nodes: what is left are the terms ts, whose depths wait (the last one first) -/
def DInv (t : Tm) (i : Nat) (found ds : List Nat) : Prop := ∃ ts : List Tm, t.enc.drop i = encs ts ∧ ts.length = ds.length ∧ t.deps 0 = found ++ depss ts ds.reverse
theorem DInv.start (t : Tm) : DInv t 0 [] [0] := ⟨[t], by simp [encs], rfl, by simp [depss]⟩
theorem DInv.done {t : Tm} {found ds : List Nat} (h : DInv t t.enc.length found ds) : found = t.deps 0 := by
  obtain ⟨ts, h1, h2, h3⟩ := h
  rw [List.drop_length] at h1
  have e := encs_nil h1.symm
  subst e
  rw [h3]
  simp [depss]
theorem DInv.step {t : Tm} {i : Nat} {found ds : List Nat} {v : V} (h : DInv t i found ds) (hv : t.enc[i]? = some v) : ∃ r d, ds = r ++ [d] ∧
    ((∃ n : Nat, v = .int n ∧ DInv t (i + 1) (found ++ [d]) r) ∨ (v = .str "lam" ∧ DInv t (i + 1) (found ++ [d]) (r ++ [d + 1])) ∨ (v = .str "app" ∧ DInv t (i + 1) (found ++ [d]) (r ++ [d] ++ [d]))) := by
  obtain ⟨ts, h1, h2, h3⟩ := h
  rw [drop_at hv] at h1
  match ts, h1, h2, h3 with
  | [], h1, _, _ => cases h1
  | t1 :: r1, h1, h2, h3 =>
    have hne : ds ≠ [] := fun e => by
      rw [e] at h2
      cases h2
    refine ⟨ds.dropLast, ds.getLast hne, (List.dropLast_concat_getLast hne).symm, ?_⟩
    generalize hr : ds.dropLast = r at *
    generalize hd : ds.getLast hne = d at *
    have hds : ds = r ++ [d] := by rw [← hr, ← hd]; exact (List.dropLast_concat_getLast hne).symm
    subst hds
    rw [List.reverse_append] at h3
    have h3 : t.deps 0 = found ++ (t1.deps d ++ depss r1 r.reverse) := h3
    have hl : r1.length = r.length := by simpa using h2
    rw [encs_cons] at h1
    cases t1 with
    | var n =>
      have h1 : v :: t.enc.drop (i + 1) = V.int n :: encs r1 := h1
      injection h1 with e1 e2
      exact .inl ⟨n, e1, r1, e2, hl, by rw [h3]; simp [Tm.deps]⟩
    | lam b =>
      have h1 : v :: t.enc.drop (i + 1) = V.str "lam" :: (b.enc ++ encs r1) := h1
      injection h1 with e1 e2
      exact .inr (.inl ⟨e1, b :: r1, by rw [e2, encs_cons], by simp [hl], by rw [h3, List.reverse_append]; simp [Tm.deps, depss]⟩)
    | app f a =>
      have h1 : v :: t.enc.drop (i + 1) = V.str "app" :: (f.enc ++ a.enc ++ encs r1) := h1
      injection h1 with e1 e2
      exact .inr (.inr ⟨e1, f :: a :: r1, by rw [e2, encs_cons, encs_cons, List.append_assoc], by simp [hl], by rw [h3, List.reverse_append, List.reverse_append]; simp [Tm.deps, depss]⟩)
def Tm.vmap (g : Nat → Nat → Nat) : Nat → Tm → Tm
  | d, .var n => .var (g d n)
  | d, .lam b => .lam (b.vmap g (d + 1))
  | d, .app f a => .app (f.vmap g d) (a.vmap g d)
def vm (g : Nat → Nat → Nat) (v : V) (d : Nat) : V := match v with
  | .int n => .int (g d n.toNat)
  | v => v
theorem Tm.deps_vmap (g : Nat → Nat → Nat) : ∀ (t : Tm) (d : Nat), (t.vmap g d).deps d = t.deps d
  | .var _, _ => rfl
  | .lam b, d => by simp [Tm.vmap, Tm.deps, Tm.deps_vmap g b]
  | .app f a, d => by simp [Tm.vmap, Tm.deps, Tm.deps_vmap g f, Tm.deps_vmap g a]
theorem Tm.enc_vmap (g : Nat → Nat → Nat) : ∀ (t : Tm) (d : Nat), (t.vmap g d).enc = List.zipWith (vm g) t.enc (t.deps d)
  | .var _, _ => rfl
  | .lam b, d => by simp [Tm.vmap, Tm.deps, Tm.enc, Tm.enc_vmap g b, vm]
  | .app f a, d => by
    have hl : f.enc.length = (f.deps d).length := (Tm.deps_len f d).symm
    simp only [Tm.vmap, Tm.deps, Tm.enc, List.zipWith_cons_cons, Tm.enc_vmap g f, Tm.enc_vmap g a, List.zipWith_append hl]
    rfl
theorem zip_take {α β γ : Type} {f : α → β → γ} {xs : List α} {ys : List β} {i : Nat} {x : α} {y : β} (hx : xs[i]? = some x) (hy : ys[i]? = some y) : (List.zipWith f xs ys).take (i + 1) = (List.zipWith f xs ys).take i ++ [f x y] := by
  rw [List.take_add_one, List.getElem?_zipWith, hx, hy]
  rfl
theorem Tm.int_nat : ∀ {t : Tm} {v : V}, v ∈ t.enc → (∃ n : Nat, v = .int n) ∨ v = .str "lam" ∨ v = .str "app"
  | .var n, v, h => .inl ⟨n, by simpa [Tm.enc] using h⟩
  | .lam b, v, h => by
    rcases List.mem_cons.mp h with e | e
    · exact .inr (.inl e)
    · exact Tm.int_nat (t := b) e
  | .app f a, v, h => by
    rcases List.mem_cons.mp h with e | e
    · exact .inr (.inr e)
    · rcases List.mem_append.mp e with e | e
      · exact Tm.int_nat (t := f) e
      · exact Tm.int_nat (t := a) e
section
variable {K : PySem.W.Frag} {H : Hp} {Q : VK} {a b : Addr} {xs ys : List V}
theorem shapedL_nodes {xs : List V} (h : Nds xs) : SeqAt.shaped (.list (xs.map dv)) = true := by
  have h1 : (PyData.list (xs.map dv)).canLay0 = true := lay_nodes h
  have h2 : (PyData.list (xs.map dv)).depth ≤ 2 := by
    have h := depth_all xs
    simp only [PyData.depth]
    omega
  unfold SeqAt.shaped
  rw [h1, Bool.true_and]
  exact decide_eq_true (by omega)
theorem w_eqL (h : SqL K H a xs) (k : SqL K H b ys) (n : Nds xs) (m : Nds ys) (q : Q (.bl (decide (xs = ys))) H) : rEqD K (.ref a) (.ref b) H Q :=
  ⟨_, _, .lst h (dp_nodes n), .lst k (dp_nodes m), shapedL_nodes n, shapedL_nodes m, by rw [PyData.eqv, eqv_nodes n m]; exact q⟩
theorem w_neL (h : SqL K H a xs) (k : SqL K H b ys) (n : Nds xs) (m : Nds ys) (q : Q (.bl (!decide (xs = ys))) H) : rNeD K (.ref a) (.ref b) H Q :=
  ⟨_, _, .lst h (dp_nodes n), .lst k (dp_nodes m), shapedL_nodes n, shapedL_nodes m, by rw [PyData.eqv, eqv_nodes n m]; exact q⟩
theorem Nds.ofInts (ns : List Int) : Nds (ns.map V.int) := fun x hx => by
  obtain ⟨i, _, e⟩ := List.mem_map.mp hx
  exact .inl ⟨i, e.symm⟩
theorem inV_ints (z : Int) : ∀ ms : List Int, inV (.int z) (ms.map V.int) = decide (z ∈ ms)
  | [] => by simp [inV]
  | m :: ms => by
    have ih := inV_ints z ms
    unfold inV at ih ⊢
    rw [List.map_cons, List.any_cons, ih]
    have e : eqV (.int m) (.int z) = (m == z) := rfl
    rw [e]
    by_cases h : m = z
    · subst h
      simp
    · have h2 : z ≠ m := fun e => h e.symm
      simp [h, h2]
theorem flat_ints : ∀ ms : List Int, (ms.map V.int).all flatV = true
  | [] => rfl
  | m :: ms => by
    rw [List.map_cons, List.all_cons, flat_ints ms]
    rfl
theorem w_nin {p : Addr} {ms : List Int} {z : Int} (h : SqL K H p (ms.map V.int)) (q : Q (.bl (!decide (z ∈ ms))) H) : rIn K true (.int z) (.ref p) H Q :=
  ⟨p, _, rfl, .inl h, rfl, flat_ints ms, by rw [inV_ints]; exact q⟩
theorem w_sorted {p : Addr} {ms : List Int} (h : SqL K H p (ms.map V.int)) (q : ∀ (ns : List Int) (l : Addr), ns.Perm ms → ns.Pairwise (· ≤ ·) → H l = none → Q (.ref l) (upd H l (.lst (ns.map V.int)))) : rSortedI K [.ref p] H Q := ⟨p, ms, rfl, h, q⟩
end
structure Stm where
  home : Addr
  cells : List Int
  cur : Int
  pos : Nat
  mix : Int
def Stm.take (m : Stm) : Stm := if m.cur = 0 ∧ m.pos < m.cells.length then { m with cur := (if m.cells.getD m.pos 0 < 0 then -(m.cells.getD m.pos 0) else m.cells.getD m.pos 0), pos := m.pos + 1 } else m
def Stm.turn (m : Stm) : Stm := { m with mix := (m.mix * 48271 + 11).fmod 2147483647 }
def Stm.next (m : Stm) (n : Int) : Stm := if m.take.cur = 0 then m.take.turn else { m.take with cur := m.take.cur.fdiv n }
def Stm.val (m : Stm) (n : Int) : Int := if m.take.cur = 0 then (m.take.turn.mix.fdiv 97).fmod n else m.take.cur.fmod n
theorem fmod_lt {a n : Int} (h : 0 < n) : 0 ≤ a.fmod n ∧ a.fmod n < n := ⟨Int.fmod_nonneg_of_pos a h, Int.fmod_lt_of_pos a h⟩
theorem Stm.val_lt (m : Stm) {n : Int} (h : 0 < n) : 0 ≤ m.val n ∧ m.val n < n := by
  unfold Stm.val
  split
  · exact fmod_lt h
  · exact fmod_lt h
def mixOf (ns : List Int) : Int := ns.foldl (fun m c => (m * 48271 + c.fmod 65521 + 1).fmod 2147483647) 17
theorem mixOf_take {ns : List Int} {i : Nat} {z : Int} (h : ns[i]? = some z) : mixOf (ns.take (i + 1)) = (mixOf (ns.take i) * 48271 + z.fmod 65521 + 1).fmod 2147483647 := by
  rw [List.take_add_one, h]
  unfold mixOf
  rw [List.foldl_append]
  rfl
theorem get_int {ns : List Int} {i : Nat} {x : V} (h : (ns.map V.int)[i]? = some x) : ∃ z, ns[i]? = some z ∧ x = .int z := by
  rw [List.getElem?_map] at h
  cases e : ns[i]? with
  | none => rw [e] at h; cases h
  | some z => rw [e] at h; exact ⟨z, rfl, (Option.some.inj h).symm⟩
theorem at_map {ns : List Int} {j : Nat} (h : j < ns.length) : atI (ns.map V.int) (j : Int) = some (.int (ns.getD j 0)) := by
  refine atI_nat ?_
  rw [List.getElem?_map, List.getElem?_eq_getElem h, List.getD_eq_getElem?_getD, List.getElem?_eq_getElem h]
  rfl
theorem Stm.take_cells (m : Stm) : m.take.cells = m.cells := by
  unfold Stm.take
  split <;> rfl
theorem Stm.take_home (m : Stm) : m.take.home = m.home := by
  unfold Stm.take
  split <;> rfl
/-- the stream goes on: the same list of numbers at the same place -/
def Fol (m m' : Stm) : Prop := m'.home = m.home ∧ m'.cells = m.cells
theorem Fol.refl (m : Stm) : Fol m m := ⟨rfl, rfl⟩
theorem Fol.trans {m m1 m2 : Stm} (h : Fol m m1) (k : Fol m1 m2) : Fol m m2 := ⟨k.1.trans h.1, k.2.trans h.2⟩
theorem Fol.next (m : Stm) (n : Int) : Fol m (m.next n) := by
  unfold Stm.next
  split
  · exact ⟨m.take_home, m.take_cells⟩
  · exact ⟨m.take_home, m.take_cells⟩
theorem Fol.step {m m1 : Stm} (h : Fol m m1) (n : Int) : Fol m (m1.next n) := h.trans (Fol.next m1 n)
def StAt (H : Hp) (s : Addr) (m : Stm) : Prop := m.home ≠ s ∧ H s = some (.lst [.ref m.home, .int m.cur, .int m.pos, .int m.mix]) ∧ H m.home = some (.lst (m.cells.map V.int))
theorem StAt.ex {H H' : Hp} {s : Addr} {m : Stm} (h : StAt H s m) (e : Ex H H') : StAt H' s m := ⟨h.1, e _ _ h.2.1, e _ _ h.2.2⟩
theorem StAt.is {H : Hp} {s : Addr} {m : Stm} (h : StAt H s m) : ∃ ys, H s = some (.lst ys) := ⟨_, h.2.1⟩
theorem StAt.put {H : Hp} {s r : Addr} {m : Stm} {o : HO} (h : StAt H s m) (hs : r ≠ s) (hl : r ≠ m.home) : StAt (upd H r o) s m :=
  ⟨h.1, by rw [upd_ne hs.symm]; exact h.2.1, by rw [upd_ne hl.symm]; exact h.2.2⟩
theorem StAt.new {H : Hp} {s r : Addr} {m : Stm} {o : HO} (h : StAt H s m) (hr : H r = none) : StAt (upd H r o) s m := h.ex (Ex.new hr)
theorem StAt.ne {H : Hp} {s r : Addr} {m : Stm} (h : StAt H s m) (hr : H r = none) : r ≠ s ∧ r ≠ m.home := ⟨(ne_of_none h.2.1 hr).symm, (ne_of_none h.2.2 hr).symm⟩
theorem Kp.st {H H' : Hp} {s : Addr} {m m' : Stm} (e : Fr s H H') (h : StAt H s m) (h' : StAt H' s m') : Kp H H' := by
  obtain ⟨ys, h⟩ := h.is
  obtain ⟨zs, h'⟩ := h'.is
  exact Kp.fr e h h'
end Ly
set_option Elab.async false
set_option linter.all false
set_option maxRecDepth 100000
set_option maxHeartbeats 2000000
namespace Ly
open PySem PySem.Spec PyProof.Rows L2 Evl
def EntsAre : List DictEntry → List (Str × V) → Prop
  | [], [] => True
  | e :: r, (k, v) :: s => (∃ t, e.key = .str k t) ∧ RelV v e.val ∧ EntsAre r s
  | _, _ => False
/-- at d: a dict of the module with these pairs -/
def KD (K : PySem.W.Frag) (w : World) (d : Addr) (kvs : List (Str × V)) : Prop :=
  ∃ es n, K.lookup d = some ⟨.type "dict", none, .dict es n, #[]⟩ ∧ PySem.W.KeysLit w.params es.toList ∧ (d == sysModules) = false ∧ EntsAre es.toList kvs
theorem KD.mk {K : PySem.W.Frag} {w : World} {d : Addr} {kvs : List (Str × V)} {es : Array DictEntry} {n : Nat} (l : K.lookup d = some ⟨.type "dict", none, .dict es n, #[]⟩) (k : PySem.W.KeysLit w.params es.toList) (s : (d == sysModules) = false) (e : EntsAre es.toList kvs) : KD K w d kvs := ⟨es, n, l, k, s, e⟩
def getS (kvs : List (Str × V)) (y : V) : Option V := match y with
  | .str k => (kvs.find? fun kv => decide (kv.1 = k)).map (·.2)
  | _ => none
def OptR : Option V → Option Value → Prop
  | some v, some u => RelV v u
  | none, none => True
  | _, _ => False
theorem OptR.getD {o : Option V} {r : Option Value} (h : OptR o r) {z : V} {u : Value} (hz : RelV z u) : RelV (o.getD z) (r.getD u) := by
  cases o with
  | none =>
    cases r with
    | none => exact hz
    | some u => exact h.elim
  | some v =>
    cases r with
    | none => exact h.elim
    | some u => exact h
theorem OptR.isSome {o : Option V} {r : Option Value} (h : OptR o r) : r.isSome = o.isSome := by
  cases o with
  | none =>
    cases r with
    | none => rfl
    | some u => exact h.elim
  | some v =>
    cases r with
    | none => exact h.elim
    | some u => rfl
/-- at a: a tuple of the module with these items -/
def KT (K : PySem.W.Frag) (a : Addr) (xs : List V) : Prop := ∃ (o : Obj) (its : Array Value) (n : Nat), K.lookup a = some o ∧ o.cls = .type "tuple" ∧ o.data = .seq its n ∧ its.size ≤ sizeLine ∧ Vals xs its.toList
theorem KT.mk {K : PySem.W.Frag} {a : Addr} {xs : List V} {o : Obj} {its : Array Value} {n : Nat} (l : K.lookup a = some o) (c : o.cls = .type "tuple") (d : o.data = .seq its n) (z : its.size ≤ sizeLine) (v : Vals xs its.toList) : KT K a xs := ⟨o, its, n, l, c, d, z, v⟩
theorem KT.sq {K : PySem.W.Frag} {a : Addr} {xs : List V} (h : KT K a xs) (H : Hp) : SqT K H a xs := .inr h
def tKGet2 (K : PySem.W.Frag) (w : World) (td ty tx : TE) : TE := fun σ H Q => td σ H fun x H1 => ∃ a kvs, x = .ref a ∧ KD K w a kvs ∧ ty σ H1 fun y H2 => tx σ H2 fun z H3 => (∃ k, y = kV k) ∧ Q ((getS kvs y).getD z) H3
section
variable {X : Cx} {o e f : Expr} {apos cpos : Pos} {td ty tx : TE}
end
section
variable {K : PySem.W.Frag} {w : World} {σ : L2.St} {H : Hp} {Q : VK} {td ty tx : TE}
theorem w_kget2 (h : td σ H fun x H1 => ∃ a kvs, x = .ref a ∧ KD K w a kvs ∧ ty σ H1 fun y H2 => tx σ H2 fun z H3 => (∃ k, y = kV k) ∧ Q ((getS kvs y).getD z) H3) : tKGet2 K w td ty tx σ H Q := h
theorem w_kg {a : Addr} {kvs : List (Str × V)} {B : List (Str × V) → Prop} (D : KD K w a kvs) (q : B kvs) : ∃ a' kvs', V.ref a = .ref a' ∧ KD K w a' kvs' ∧ B kvs' := ⟨a, kvs, rfl, D, q⟩
end
theorem w_isRN {a : Addr} {A B : Prop} (h : B) : if decide (V.ref a = V.non) = true then A else B := iteF h
theorem w_isNN {A B : Prop} (h : A) : if decide (V.non = V.non) = true then A else B := iteT h
theorem w_isIN {i : Int} {A B : Prop} (h : B) : if decide (V.int i = V.non) = true then A else B := iteF h
theorem kV_int (i : Int) : ∃ k, V.int i = kV k := ⟨.inl i, rfl⟩
theorem kV_str (x : Str) : ∃ k, V.str x = kV k := ⟨.inr x, rfl⟩
end Ly
set_option Elab.async false
set_option linter.all false
set_option maxRecDepth 100000
set_option maxHeartbeats 4000000
namespace Ly
open PySem PySem.Spec PyProof.Rows L2 Evl
/-- what one source of a zip gives: C tells its items by the abstract heap -/
structure ZSrc (P : Program) (w : World) (K : PySem.W.Frag) (C : Hp → List V → Prop) (it : Addr) (fp : List Addr) (st : Nat → Heap → Prop) : Prop where
  obj : ∀ i h, st i h → ∃ o, h.get? it = some o ∧ ∀ v, o.data ≠ .cell v
  keep : ∀ i h h', st i h → (∀ o, h.get? it = some o → h'.get? it = some o) → st i h'
  inj : ∀ (X : Cx), X.prog = P → X.w = w → X.K = K → ∀ (pins : List (Addr × Obj)) (σ : L2.St) (H : Hp) (s : Shared) (xs ys : List V), Inv X pins σ H s → C H xs → C H ys → xs = ys
  draws : ∀ (X : Cx), X.prog = P → X.w = w → X.K = K → X.A.handled = none → ∀ (pins : List (Addr × Obj)) (σ : L2.St) (H : Hp) (s : Shared) (xs : List V), Inv X pins σ H s → C H xs →
    ∃ (Pr : Nat → Value → Prop) (CT : Heap → Prop), Draws P w X.A.in1 it fp xs.length Pr (fun i h => st i h ∧ CT h) ∧ CT s.heap ∧ ∀ i u, Pr i u → ∃ v, xs[i]? = some v ∧ RelV v u
def ItzC (C1 C2 : Hp → List V → Prop) : It :=
  ⟨fun i H => ∃ (xs ys : List V) (x y : V), C1 H xs ∧ C2 H ys ∧ xs[i]? = some x ∧ ys[i]? = some y,
    fun i H v H' => ∃ (T : Addr) (x y : V), v = .ref T ∧ H T = none ∧ H' = upd H T (.tup [x, y]) ∧ (∀ xs, C1 H xs → xs[i]? = some x) ∧ ∀ ys, C2 H ys → ys[i]? = some y,
    fun i H => ∃ xs ys : List V, C1 H xs ∧ C2 H ys ∧ i ≤ xs.length ∧ i ≤ ys.length ∧ (i = xs.length ∨ i = ys.length)⟩
theorem five {α : Type} {c a1 a2 a3 a4 a5 : α} (h : c ∈ [a1, a2, a3, a4, a5]) : c = a1 ∨ c = a2 ∨ c = a3 ∨ c = a4 ∨ c = a5 := by simpa using h
theorem turn_zipC {P : Program} {w : World} {K : PySem.W.Frag} {elts : List Expr} {kk : Nat} {tpos : Pos} {C1 C2 : Hp → List V → Prop} {z TI TO i1 i2 : Addr} {fp1 fp2 : List Addr} {st1 st2 : Nat → Heap → Prop}
    (S : ZipSep2 z TI TO i1 i2 fp1 fp2) (Z1 : ZSrc P w K C1 i1 fp1 st1) (Z2 : ZSrc P w K C2 i2 fp2 st2) :
    Turn P w K (.Tuple elts kk tpos) (ItzC C1 C2) [z, TI, TO, i1, i2] z (fun i h => IsZip h z TI TO .none ∧ IsTupOf2 h TI (.ref i1) (.ref i2) ∧ (∃ x y, IsTupOf2 h TO x y) ∧ st1 i h ∧ st2 i h) where
  mem := List.mem_cons_self
  obj := fun i h ⟨hz, hI, ⟨_, _, hO⟩, q1, q2⟩ c hc => by
    rcases five hc with rfl | rfl | rfl | rfl | rfl
    · exact ⟨_, hz, fun _ q => nomatch q⟩
    · exact ⟨_, hI, fun _ q => nomatch q⟩
    · exact ⟨_, hO, fun _ q => nomatch q⟩
    · exact Z1.obj i h q1
    · exact Z2.obj i h q2
  keep := fun i h h' ⟨hz, hI, ⟨x, y, hO⟩, q1, q2⟩ k =>
    ⟨k z (by simp) _ hz, k TI (by simp) _ hI, ⟨x, y, k TO (by simp) _ hO⟩, Z1.keep i h h' q1 (fun o e => k i1 (by simp) o e), Z2.keep i h h' q2 (fun o e => k i2 (by simp) o e)⟩
  item := fun X hP hw hK hc i pins s σ H E I hf st hg => by
    obtain ⟨hz, hI, ⟨x0, y0, hO⟩, q1, q2⟩ := st
    obtain ⟨xs, ys, x, y, c1, c2, hx, hy⟩ := hg
    obtain ⟨Pr1, CT1, D1, t1, r1⟩ := Z1.draws X hP hw hK (I.ok.hd hc) pins σ H s xs I c1
    obtain ⟨Pr2, CT2, D2, t2, r2⟩ := Z2.draws X hP hw hK (I.ok.hd hc) pins σ H s ys I c2
    have l1 : i < xs.length := (List.getElem?_eq_some_iff.mp hx).1
    have l2 : i < ys.length := (List.getElem?_eq_some_iff.mp hy).1
    have zl : z < s.heap.objs.size := Heap.lt_size hz
    refine wpAny_pyNext_zipD2_item S D1 D2 hz hI hO ⟨q1, t1⟩ ⟨q2, t2⟩ l1 l2 fun u1 u2 h' tk p1 p2 z' O' n1 n2 hT hsz hk => ?_
    obtain ⟨v1, e1, rv1⟩ := r1 i u1 p1
    obtain ⟨v2, e2, rv2⟩ := r2 i u2 p2
    have ev1 : v1 = x := Option.some.inj (e1.symm.trans hx)
    have ev2 : v2 = y := Option.some.inj (e2.symm.trans hy)
    subst ev1 ev2
    refine ⟨_, rfl, wpAny_letOwnedTupleGo_zip (s := { s with heap := h', toks := tk }) z' fun h2 z2 sb => ?_⟩
    have stay : ∀ c o, c ≠ z → c ≠ TO → c ≠ i1 → c ≠ i2 → s.heap.get? c = some o → h2.get? c = some o := fun c o k1 k2 k3 k4 e => (sb.2 c k1).trans (hk c o k1 k2 k3 k4 e)
    have made : ObjOk X.prog X.w (upd H s.heap.objs.size (.tup [v1, v2])) h2 s.heap.objs.size (.tup [v1, v2]) :=
      ⟨sz_of (Nat.le_of_ble_eq_true rfl), [u1, u2], .cons rv1 (.cons rv2 .nil), ⟨_, (sb.2 _ (Nat.ne_of_gt zl)).trans hT, rfl, _, rfl⟩⟩
    have J := I.turnedNew (t' := tk) (ch := [z, TI, TO, i1, i2]) (h' := h2) (fun c o hb e => stay c o (fun q => hb (by simp [q])) (fun q => hb (by simp [q])) (fun q => hb (by simp [q])) (fun q => hb (by simp [q])) e) hf (Nat.le_refl _) made
    refine ⟨.ref s.heap.objs.size, _, J, rfl, ⟨_, v1, v2, rfl, I.hok.fresh (Nat.le_refl _), rfl, fun l hl => ?_, fun l hl => ?_⟩, ⟨z2, ?_, ⟨u1, u2, ?_⟩, ?_, ?_⟩, fun c hcm => ?_⟩
    · rw [Z1.inj X hP hw hK pins σ H s l xs I hl c1]
      exact hx
    · rw [Z2.inj X hP hw hK pins σ H s l ys I hl c2]
      exact hy
    · exact stay _ _ S.TIz S.TITO S.TIi1 S.TIi2 hI
    · exact (sb.2 _ S.TOz).trans O'
    · exact Z1.keep _ _ _ n1.1 fun o e => (sb.2 _ (Ne.symm S.zi1)).trans e
    · exact Z2.keep _ _ _ n2.1 fun o e => (sb.2 _ (Ne.symm S.zi2)).trans e
    · have lt : c < s.heap.objs.size := by
        rcases five hcm with q | q | q | q | q
        · rw [q]; exact zl
        · rw [q]; exact Heap.lt_size hI
        · rw [q]; exact Heap.lt_size hO
        · rw [q]; obtain ⟨_, e, _⟩ := Z1.obj _ _ q1; exact Heap.lt_size e
        · rw [q]; obtain ⟨_, e, _⟩ := Z2.obj _ _ q2; exact Heap.lt_size e
      rw [upd_ne (Nat.ne_of_lt lt)]
      exact (hf c hcm).1
  done := fun X hP hw hK hc i pins s σ H E I hf st hg => by
    obtain ⟨hz, hI, ⟨x0, y0, hO⟩, q1, q2⟩ := st
    obtain ⟨xs, ys, c1, c2, l1, l2, hend⟩ := hg
    obtain ⟨Pr1, CT1, D1, t1, r1⟩ := Z1.draws X hP hw hK (I.ok.hd hc) pins σ H s xs I c1
    obtain ⟨Pr2, CT2, D2, t2, r2⟩ := Z2.draws X hP hw hK (I.ok.hd hc) pins σ H s ys I c2
    exact wpAny_pyNext_zipD2_end S D1 D2 hz hI hO ⟨q1, t1⟩ ⟨q2, t2⟩ l1 l2 hend fun h' tk hk => ⟨rfl, I.turnedL (t' := tk) (ch := [z, TI, TO, i1, i2]) (fun c o hb e =>
      hk c o (fun q => hb (by simp [q])) (fun q => hb (by simp [q])) (fun q => hb (by simp [q])) (fun q => hb (by simp [q])) e) hf⟩
  self := fun A i s Q E ⟨hz, _⟩ h => wpAny_pyIter_zip hz h
/-- the sources -/
theorem src_tup {P : Program} {w : World} {K : PySem.W.Frag} {a it : Addr} (hne : a ≠ it) : ZSrc P w K (fun H xs => SqT K H a xs) it [it, a] (fun i h => h.IsTupleIter it a i) where
  obj := fun i h st => by
    obtain ⟨o, e, _, d⟩ := st
    exact ⟨o, e, fun v z => by rw [d] at z; cases z⟩
  keep := fun i h h' st k => st.at fun o e => k o e
  inj := fun X hP hw hK pins σ H s xs ys I h1 h2 => by
    subst hP hw hK
    exact I.tuple_inj h1 h2
  draws := fun X hP hw hK hh pins σ H s xs I h => by
    subst hP hw hK
    obtain ⟨its, rv, p, _⟩ := I.tuple h
    have el : xs.length = its.toArray.size := by rw [List.size_toArray]; exact rv.length
    rw [el]
    refine ⟨fun i v => its.toArray[i]? = some v, fun h => h.IsTuple a its.toArray, Draws.tuple (A := X.A.in1) (show X.A.in1.handled = none from hh) it a hne its.toArray, p, fun i u hu => ?_⟩
    have hu2 : its[i]? = some u := by simpa using hu
    obtain ⟨hl, hg⟩ := List.getElem?_eq_some_iff.mp hu2
    have hl2 : i < xs.length := by rw [rv.length]; exact hl
    obtain ⟨u2, g2, rr⟩ := rv.get (List.getElem?_eq_getElem hl2)
    rw [hu2] at g2
    cases g2
    exact ⟨_, List.getElem?_eq_getElem hl2, rr⟩
theorem src_lst {P : Program} {w : World} {K : PySem.W.Frag} {a it : Addr} (hne : a ≠ it) : ZSrc P w K (fun H xs => SqL K H a xs) it [it, a] (fun i h => h.IsListIter it a i) where
  obj := fun i h st => by
    obtain ⟨o, e, _, d⟩ := st
    exact ⟨o, e, fun v z => by rw [d] at z; cases z⟩
  keep := fun i h h' st k => st.at fun o e => k o e
  inj := fun X hP hw hK pins σ H s xs ys I h1 h2 => by
    subst hP hw hK
    exact I.list_inj h1 h2
  draws := fun X hP hw hK hh pins σ H s xs I h => by
    subst hP hw hK
    obtain ⟨its, rv, p, _⟩ := I.list h
    have el : xs.length = its.toArray.size := by rw [List.size_toArray]; exact rv.length
    rw [el]
    refine ⟨fun i v => its.toArray[i]? = some v, fun h => h.IsList a its.toArray, Draws.list (A := X.A.in1) (show X.A.in1.handled = none from hh) it a hne its.toArray, p.isList, fun i u hu => ?_⟩
    have hu2 : its[i]? = some u := by simpa using hu
    obtain ⟨hl, hg⟩ := List.getElem?_eq_some_iff.mp hu2
    have hl2 : i < xs.length := by rw [rv.length]; exact hl
    obtain ⟨u2, g2, rr⟩ := rv.get (List.getElem?_eq_getElem hl2)
    rw [hu2] at g2
    cases g2
    exact ⟨_, List.getElem?_eq_getElem hl2, rr⟩
def signs (z : Str) : List V := z.cps.toList.map fun c => V.str ⟨#[c]⟩
def iZipTL (K : PySem.W.Frag) (ta : TA) : TI := fun σ H R => ta σ H fun vs H1 => ∃ a b xs ys, vs = [.ref a, .ref b] ∧ SqT K H1 a xs ∧ SqL K H1 b ys ∧ R (ItzC (fun H xs => SqT K H a xs) (fun H ys => SqL K H b ys)) H1
def iZipSS (ta : TA) : TI := fun σ H R => ta σ H fun vs H1 => ∃ z u, vs = [.str z, .str u] ∧ R (ItzC (fun _ xs => xs = signs z) (fun _ ys => ys = signs u)) H1
theorem fresh_cells {X : Cx} {pins : List (Addr × Obj)} {σ : L2.St} {H : Hp} {s : Shared} (I : Inv X pins σ H s) : ∀ c ∈ [s.heap.objs.size + 4, s.heap.objs.size + 2, s.heap.objs.size + 3, s.heap.objs.size, s.heap.objs.size + 1], FpOk X pins H c := fun c hc => by
  have le : s.heap.objs.size ≤ c := by
    rcases five hc with q | q | q | q | q <;> omega
  exact I.fpOk le (I.hok.fresh le)
theorem pi_zipM {X : Cx} {e e2 : Expr} {ta : TA} {p pos tpos : Pos} {elts : List Expr} {kk : Nat} (hg : Gl X "zip") (hm : X.mg "zip" = none) (ha : PA X [e, e2] ta)
    (hs : starEach [e, e2] X.env = (false, eval e X.env) :: starEach [e2] X.env := by rfl) (hpl : (backTo pos (starEach [e2] X.env)).any (·.1) = false := by rfl) :
    PI X (.Tuple elts kk tpos) (.Call (.Name "zip" p) [e, e2] [] pos) (iZipTL X.K ta) := ⟨fun pins s σ H R I h =>
  Call_ (ld_blt I hg hm PyProof.Rows.boot_zip (PyProof.Rows.callWith_type1 (thn (ha.run pos pins s σ H _ I h) fun us s1 ⟨vs, H1, J, rv, q⟩ => by
    obtain ⟨a, b, xs, ys, ev, hx, hy, q⟩ := q
    subst ev
    obtain ⟨u1, us1, e1, r1, rv1⟩ : ∃ u1 us1, us = u1 :: us1 ∧ RelV (.ref a) u1 ∧ Vals [.ref b] us1 := by
      cases rv with
      | cons r rr => exact ⟨_, _, rfl, r, rr⟩
    obtain ⟨u2, e2', r2⟩ := vals1 rv1
    subst e1 e2'
    cases r1
    cases r2
    obtain ⟨its, _, p1, _⟩ := J.tuple hx
    obtain ⟨its2, _, p2, _⟩ := J.list hy
    refine zip_begins2 (begins_tuple a its.toArray) (begins_list b its2.toArray) p1 p2.isList fun h' hz hI hO g1 g2 hsz hk => wpAny_pyIter_zip hz ?_
    have la : a < s1.heap.objs.size := by
      obtain ⟨_, z, _⟩ := id p1
      exact Heap.lt_size z
    have lb := p2.lt
    refine ⟨s1.heap.objs.size + 4, _, _, _, H1, rfl, J.kept (t' := s1.toks) hk, turn_zipC (zip_sep2 (N := s1.heap.objs.size) (fp1 := [a]) (fp2 := [b]) ?_ ?_) (src_tup (Nat.ne_of_lt la)) (src_lst (Nat.ne_of_lt (Nat.lt_succ_of_lt lb))), ⟨hz, hI, ⟨_, _, hO⟩, ⟨_, g1, rfl, rfl⟩, ⟨_, g2, rfl, rfl⟩⟩, fresh_cells J, q⟩
    · intro c hc
      rw [List.mem_singleton.mp hc]
      exact la
    · intro c hc
      rw [List.mem_singleton.mp hc]
      exact lb) hs hpl))⟩
/-- a for over such a zip: n turns -/
theorem for_zipC {C1 C2 : Hp → List V → Prop} {xs ys : List V} {n : Nat} (hn : n = min xs.length ys.length) {g : TG} {tb : TS} {D : Ends} {σ : L2.St} {H : Hp} (Pv : Nat → L2.St → Hp → Prop) (h0 : Pv 0 σ H) (hC : ∀ i σ H, Pv i σ H → C1 H xs ∧ C2 H ys)
    (hs : ∀ (i : Nat) (x y : V) (T : Addr) (σ : L2.St) (H : Hp), xs[i]? = some x → ys[i]? = some y → Pv i σ H → H T = none → g (.ref T) σ (upd H T (.tup [x, y])) fun σ2 H2 => tb { D with nx := Pv (i + 1), ct := Pv (i + 1), bk := D.nx } σ2 H2)
    (hd : ∀ σ H, Pv n σ H → D.nx σ H) : ForB (ItzC C1 C2) g tb D σ H := by
  refine ⟨fun i m σ H => m = n - i ∧ i ≤ n ∧ Pv i σ H, ⟨n, rfl, Nat.zero_le _, h0⟩, fun i m σ H hW => ?_⟩
  obtain ⟨hm, hi, pv⟩ := hW
  obtain ⟨k1, k2⟩ := hC i σ H pv
  by_cases lt : i < n
  · have l1 : i < xs.length := by omega
    have l2 : i < ys.length := by omega
    refine .inr ⟨⟨xs, ys, xs[i], ys[i], k1, k2, List.getElem?_eq_getElem l1, List.getElem?_eq_getElem l2⟩, Pv (i + 1), fun σ' H' p' => ⟨n - (i + 1), by omega, rfl, lt, p'⟩, fun v H' hy => ?_⟩
    obtain ⟨T, x, y, e1, e2, e3, g1, g2⟩ := hy
    subst e1 e3
    exact hs i x y T σ H (g1 xs k1) (g2 ys k2) pv e2
  · have e : i = n := by omega
    subst e
    exact .inl ⟨⟨xs, ys, k1, k2, by omega, by omega, by omega⟩, hd σ H pv⟩
section
variable {K : PySem.W.Frag} {σ : L2.St} {H : Hp} {tA : TA} {R : It → Hp → Prop}
theorem w_iZ (h : tA σ H fun vs H1 => ∃ a b xs ys, vs = [.ref a, .ref b] ∧ SqT K H1 a xs ∧ SqL K H1 b ys ∧ R (ItzC (fun H xs => SqT K H a xs) (fun H ys => SqL K H b ys)) H1) : iZipTL K tA σ H R := h
theorem w_iZ1 {a b : Addr} {xs ys : List V} {B : Addr → Addr → Prop} (h : SqT K H a xs) (h2 : SqL K H b ys) (q : B a b) : ∃ a' b' us vs, [V.ref a, V.ref b] = [.ref a', .ref b'] ∧ SqT K H a' us ∧ SqL K H b' vs ∧ B a' b' := ⟨a, b, xs, ys, rfl, h, h2, q⟩
theorem w_iS (h : tA σ H fun vs H1 => ∃ z u, vs = [.str z, .str u] ∧ R (ItzC (fun _ xs => xs = signs z) (fun _ ys => ys = signs u)) H1) : iZipSS tA σ H R := h
theorem w_iS1 {z u : Str} {B : Str → Str → Prop} (q : B z u) : ∃ a b, [V.str z, V.str u] = [.str a, .str b] ∧ B a b := ⟨z, u, rfl, q⟩
theorem w_gtup {t : TGs} {a : Addr} {xs : List V} {n : Nat} {Rs : L2.St → Hp → Prop} (h : SqT K H a xs) (hn : xs.length = n) (q : t xs σ H Rs) : gTup K n t (.ref a) σ H Rs := ⟨a, xs, rfl, h, hn, q⟩
theorem w_gcons {t : TG} {u : TGs} {v : V} {r : List V} {Rs : L2.St → Hp → Prop} (q : t v σ H fun σ' H' => u r σ' H' Rs) : gCons t u (v :: r) σ H Rs := ⟨v, r, rfl, q⟩
theorem w_gnil {Rs : L2.St → Hp → Prop} (q : Rs σ H) : gNil [] σ H Rs := ⟨rfl, q⟩
end
end Ly
set_option Elab.async false
set_option linter.all false
set_option maxRecDepth 100000
set_option maxHeartbeats 2000000
namespace Ly
open PySem PySem.Spec PyProof.Rows L2 Evl
/-- the walker at it: what it walks over, the place that comes next -/
def RevAt (h : Heap) (it : Addr) (z : Str) (t : Tok) (i : Int) : Prop := ∃ o, h.get? it = some o ∧ o.cls = .type "reversed" ∧ o.data = .fields #[.str z t, rawInt i]
theorem RevAt.kind {s : Shared} {it : Addr} {z : Str} {t : Tok} {i : Int} (r : RevAt s.heap it z t i) : s.TypeIs (.ref it) "reversed" := by
  obtain ⟨o, e, c, _⟩ := r
  exact ⟨o, e, c⟩
section
variable {prog : Program} {w : World} {A : Around} {E : Value → Shared → Prop} {s : Shared} {z : Str} {t : Tok}
end
/-- the turns: the signs from the last to the first -/
def ItvS (z : Str) : It := ⟨fun i _ => i < z.cps.size, fun i H v H' => H' = H ∧ ∃ c, z.cps[z.cps.size - 1 - i]? = some c ∧ v = .str ⟨#[c]⟩, fun i _ => z.cps.size ≤ i⟩
def iRevS (te : TE) : TI := fun σ H R => te σ H fun v H1 => ∃ z, v = .str z ∧ z.length ≤ sizeLine ∧ R (ItvS z) H1
end Ly
set_option Elab.async false
set_option linter.all false
set_option maxRecDepth 100000
set_option maxHeartbeats 2000000
namespace Ly
open PySem PySem.Spec PyProof.Rows L2 Evl
abbrev nums (ds : List Nat) : List V := ds.map fun (d : Nat) => V.int d
def lif (c d n : Nat) : Nat := if d ≤ n then n + c else n
theorem Tm.vmap_len (g : Nat → Nat → Nat) (t : Tm) (d : Nat) : (t.vmap g d).enc.length = t.enc.length := by
  rw [← Tm.deps_len _ d, Tm.deps_vmap, Tm.deps_len]
theorem nums_at {ds : List Nat} {i : Nat} {y : V} (h : (nums ds)[i]? = some y) : ∃ d, ds[i]? = some d ∧ y = .int (d : Int) := by
  rw [List.getElem?_map] at h
  cases e : ds[i]? with
  | none => rw [e] at h; cases h
  | some d => rw [e] at h; exact ⟨d, rfl, (Option.some.inj h).symm⟩
def Tm.put (u : Tm) : Nat → Tm → Tm
  | d, .var n => if n < d then .var n else if n = d then u.vmap (lif d) 0 else .var (n - 1)
  | d, .lam b => .lam (Tm.put u (d + 1) b)
  | d, .app f a => .app (Tm.put u d f) (Tm.put u d a)
def pvs (u : Tm) (v : V) (d : Nat) : List V := match v with
  | .int n => (Tm.put u d (.var n.toNat)).enc
  | v => [v]
theorem Tm.enc_put (u : Tm) : ∀ (t : Tm) (d : Nat), (Tm.put u d t).enc = (List.zipWith (pvs u) t.enc (t.deps d)).flatten
  | .var n, d => by simp [Tm.deps, Tm.enc, pvs]
  | .lam b, d => by simp [Tm.put, Tm.deps, Tm.enc, Tm.enc_put u b, pvs]
  | .app f a, d => by
    have hl : f.enc.length = (f.deps d).length := (Tm.deps_len f d).symm
    simp only [Tm.put, Tm.deps, Tm.enc, List.zipWith_cons_cons, Tm.enc_put u f, Tm.enc_put u a, List.zipWith_append hl, List.flatten_cons, List.flatten_append]
    rfl
theorem pvs_low {u : Tm} {n d : Nat} (h : n < d) : pvs u (.int n) d = [.int n] := by
  simp only [pvs, Tm.put, Int.toNat_natCast]
  rw [if_pos h]
  rfl
theorem pvs_at {u : Tm} {d : Nat} : pvs u (.int (d : Int)) d = (u.vmap (lif d) 0).enc := by
  simp only [pvs, Tm.put, Int.toNat_natCast]
  rw [if_neg (Nat.lt_irrefl d)]
  rfl
theorem pvs_high {u : Tm} {n d : Nat} (h : d < n) : pvs u (.int n) d = [.int ((n : Int) - 1)] := by
  simp only [pvs, Tm.put, Int.toNat_natCast]
  rw [if_neg (by omega), if_neg (by omega)]
  have e : ((n - 1 : Nat) : Int) = (n : Int) - 1 := by omega
  show [V.int ((n - 1 : Nat) : Int)] = _
  rw [e]
theorem pvs_len (u : Tm) (v : V) (d : Nat) : (pvs u v d).length ≤ u.enc.length := by
  have pos := List.length_pos_iff.mpr u.enc_ne
  unfold pvs
  split
  · simp only [Tm.put]
    split
    · exact pos
    · split
      · rw [Tm.vmap_len]
        exact Nat.le_refl _
      · exact pos
  · exact pos
theorem flat_len {α : Type} {M : Nat} : ∀ {xs : List (List α)}, (∀ x ∈ xs, x.length ≤ M) → xs.flatten.length ≤ xs.length * M
  | [], _ => by simp
  | x :: xs, h => by
    have h1 := h x List.mem_cons_self
    have h2 := flat_len (xs := xs) fun y hy => h y (List.mem_cons_of_mem _ hy)
    simp only [List.flatten_cons, List.length_append, List.length_cons, Nat.succ_mul]
    omega
theorem zip_mem_len {u : Tm} : ∀ {xs : List V} {ds : List Nat}, ∀ x ∈ List.zipWith (pvs u) xs ds, x.length ≤ u.enc.length
  | [], _, x, h => by simp at h
  | _ :: _, [], x, h => by simp at h
  | a :: xs, d :: ds, x, h => by
    rw [List.zipWith_cons_cons] at h
    rcases List.mem_cons.mp h with e | h
    · rw [e]
      exact pvs_len u a d
    · exact zip_mem_len x h
theorem pre_len {u : Tm} {xs : List V} {ds : List Nat} (i : Nat) : ((List.zipWith (pvs u) xs ds).take i).flatten.length ≤ i * u.enc.length := by
  refine Nat.le_trans (flat_len fun x hx => zip_mem_len x (List.mem_of_mem_take hx)) (Nat.mul_le_mul_right _ ?_)
  rw [List.length_take]
  omega
theorem flat_take_le {α : Type} (xs : List (List α)) (i : Nat) : (xs.take i).flatten.length ≤ xs.flatten.length := by
  have e : xs.flatten = (xs.take i).flatten ++ (xs.drop i).flatten := by rw [← List.flatten_append, List.take_append_drop]
  rw [e, List.length_append]
  omega
theorem Tm.put_len (u t : Tm) (d : Nat) : (Tm.put u d t).enc.length ≤ t.enc.length * u.enc.length := by
  rw [Tm.enc_put]
  refine Nat.le_trans (flat_len zip_mem_len) (Nat.mul_le_mul_right _ ?_)
  rw [List.length_zipWith]
  omega
theorem fits_of {t : Tm} (h : t.vars 1000000) (l : t.enc.length ≤ 1000) : fitsV t.enc = true := by
  unfold fitsV
  rw [ok_vars h, decide_eq_true l]
  rfl
def rAddZ : R2 := fun x y H Q => ∃ i j, x = .str i ∧ y = .str j ∧ i.length + j.length ≤ sizeLine ∧ Q (.str (i ++ j)) H
def rLenZ : List V → Hp → VK → Prop := fun xs H Q => ∃ z, xs = [.str z] ∧ z.length ≤ sizeLine ∧ Q (.int z.length) H
def pl (p : List Nat) : Str := ⟨p.toArray⟩
theorem pl_len (p : List Nat) : (pl p).length = p.length := by simp [pl, Str.length]
theorem pl_app (p q : List Nat) : pl p ++ pl q = pl (p ++ q) := by
  show Str.mk (p.toArray ++ q.toArray) = ⟨(p ++ q).toArray⟩
  simp
theorem pl_b : ("b" : Str) = pl [98] := by decide +kernel
theorem pl_f : ("f" : Str) = pl [102] := by decide +kernel
theorem pl_a : ("a" : Str) = pl [97] := by decide +kernel
theorem pl_inj {p q : List Nat} (h : pl p = pl q) : p = q := by
  have e := congrArg Str.cps h
  simpa [pl] using e
abbrev plcs (ps : List (List Nat)) : List V := ps.map fun p => V.str (pl p)
section
variable {H : Hp} {Q : VK}
theorem w_addZ {p q : List Nat} (z : p.length + q.length ≤ 16000000) (h : Q (.str (pl (p ++ q))) H) : rAddZ (.str (pl p)) (.str (pl q)) H Q :=
  ⟨pl p, pl q, rfl, rfl, by rw [pl_len, pl_len]; exact ly_sz z, by rw [pl_app]; exact h⟩
theorem w_addZb {p : List Nat} (z : p.length ≤ 15000000) (h : Q (.str (pl (p ++ [98]))) H) : rAddZ (.str (pl p)) (.str "b") H Q := by
  rw [pl_b]
  exact w_addZ (by simp; omega) h
theorem w_addZf {p : List Nat} (z : p.length ≤ 15000000) (h : Q (.str (pl (p ++ [102]))) H) : rAddZ (.str (pl p)) (.str "f") H Q := by
  rw [pl_f]
  exact w_addZ (by simp; omega) h
theorem w_addZa {p : List Nat} (z : p.length ≤ 15000000) (h : Q (.str (pl (p ++ [97]))) H) : rAddZ (.str (pl p)) (.str "a") H Q := by
  rw [pl_a]
  exact w_addZ (by simp; omega) h
theorem w_lenZ {p : List Nat} (z : p.length ≤ 16000000) (h : Q (.int p.length) H) : rLenZ [.str (pl p)] H Q :=
  ⟨pl p, rfl, by rw [pl_len]; exact ly_sz z, by rw [pl_len]; exact h⟩
end
/-- the letters' order: where they differ, the function comes first; else the shorter -/
def before : List Nat → List Nat → Bool
  | a :: x, b :: y => if a = b then before x y else decide (a = 102)
  | [], y => decide (0 < y.length)
  | _ :: _, [] => false
theorem before_self : ∀ x : List Nat, before x x = false
  | [] => rfl
  | a :: x => by simp [before, before_self x]
theorem before_app : ∀ (p x y : List Nat), before (p ++ x) (p ++ y) = before x y
  | [], _, _ => rfl
  | a :: p, x, y => by simp [before, before_app p x y]
def RB (x y : List Nat) : Prop := before x y = true ∧ before y x = false
theorem RB.app {p x y : List Nat} (h : RB x y) : RB (p ++ x) (p ++ y) := ⟨by rw [before_app]; exact h.1, by rw [before_app]; exact h.2⟩
theorem RB.longer {p s : List Nat} {c : Nat} : RB p (p ++ c :: s) := by
  have h : RB [] (c :: s) := ⟨by simp [before], rfl⟩
  have := RB.app (p := p) h
  rwa [List.append_nil] at this
theorem RB.fa {p s u : List Nat} : RB (p ++ 102 :: s) (p ++ 97 :: u) := RB.app ⟨rfl, rfl⟩
def Tm.pls : List Nat → Tm → List (List Nat)
  | p, .var _ => [p]
  | p, .lam b => p :: b.pls (p ++ [98])
  | p, .app f a => p :: (f.pls (p ++ [102]) ++ a.pls (p ++ [97]))
theorem Tm.pls_len : ∀ (t : Tm) (p : List Nat), (t.pls p).length = t.enc.length
  | .var _, _ => rfl
  | .lam b, p => by simp [Tm.pls, Tm.enc, Tm.pls_len b]
  | .app f a, p => by simp [Tm.pls, Tm.enc, Tm.pls_len f, Tm.pls_len a]
theorem Tm.pls_pre : ∀ (t : Tm) {p q : List Nat}, q ∈ t.pls p → ∃ s, q = p ++ s ∧ s.length < t.enc.length
  | .var _, p, q, h => ⟨[], by simpa [Tm.pls] using h, by simp [Tm.enc]⟩
  | .lam b, p, q, h => by
    rcases List.mem_cons.mp h with e | h
    · exact ⟨[], by simp [e], by simp [Tm.enc]⟩
    · obtain ⟨s, e, hl⟩ := Tm.pls_pre b h
      exact ⟨98 :: s, by rw [e]; simp, by simp [Tm.enc]; omega⟩
  | .app f a, p, q, h => by
    rcases List.mem_cons.mp h with e | h
    · exact ⟨[], by simp [e], by simp [Tm.enc]⟩
    · rcases List.mem_append.mp h with h | h
      · obtain ⟨s, e, hl⟩ := Tm.pls_pre f h
        exact ⟨102 :: s, by rw [e]; simp, by simp [Tm.enc]; omega⟩
      · obtain ⟨s, e, hl⟩ := Tm.pls_pre a h
        exact ⟨97 :: s, by rw [e]; simp, by simp [Tm.enc]; omega⟩
theorem Tm.pls_order : ∀ (t : Tm) (p : List Nat), (t.pls p).Pairwise RB
  | .var _, p => List.pairwise_singleton _ _
  | .lam b, p => List.pairwise_cons.mpr ⟨fun q h => by
      obtain ⟨s, e, _⟩ := Tm.pls_pre b h
      rw [e, List.append_assoc]
      exact RB.longer, Tm.pls_order b _⟩
  | .app f a, p => List.pairwise_cons.mpr ⟨fun q h => by
      rcases List.mem_append.mp h with h | h
      · obtain ⟨s, e, _⟩ := Tm.pls_pre f h
        rw [e, List.append_assoc]
        exact RB.longer
      · obtain ⟨s, e, _⟩ := Tm.pls_pre a h
        rw [e, List.append_assoc]
        exact RB.longer, List.pairwise_append.mpr ⟨Tm.pls_order f _, Tm.pls_order a _, fun x hx y hy => by
      obtain ⟨s, e, _⟩ := Tm.pls_pre f hx
      obtain ⟨u, e2, _⟩ := Tm.pls_pre a hy
      rw [e, e2, List.append_assoc, List.append_assoc]
      exact RB.fa⟩⟩
theorem before_at {qs : List (List Nat)} (h : qs.Pairwise RB) {i j : Nat} {x y : List Nat} (hx : qs[i]? = some x) (hy : qs[j]? = some y) : before x y = decide (i < j) := by
  obtain ⟨li, ei⟩ := List.getElem?_eq_some_iff.mp hx
  obtain ⟨lj, ej⟩ := List.getElem?_eq_some_iff.mp hy
  rcases Nat.lt_trichotomy i j with g | g | g
  · have := List.pairwise_iff_getElem.mp h i j li lj g
    rw [ei, ej] at this
    rw [this.1, decide_eq_true g]
  · subst g
    have e : x = y := by rw [← ei, ← ej]
    rw [e, before_self, decide_eq_false (by omega)]
  · have := List.pairwise_iff_getElem.mp h j i lj li g
    rw [ei, ej] at this
    rw [this.2, decide_eq_false (by omega)]
def plss : List Tm → List (List Nat) → List (List Nat)
  | t :: ts, d :: ds => t.pls d ++ plss ts ds
  | _, _ => []
/-- in the midst of a walk that finds the places: what is left are the terms ts, whose places wait (the last one first) -/
def PInv (t : Tm) (i : Nat) (found ds : List (List Nat)) : Prop := ∃ ts : List Tm, t.enc.drop i = encs ts ∧ ts.length = ds.length ∧ t.pls [] = found ++ plss ts ds.reverse
theorem PInv.start (t : Tm) : PInv t 0 [] [[]] := ⟨[t], by simp [encs], rfl, by simp [plss]⟩
theorem PInv.done {t : Tm} {found ds : List (List Nat)} (h : PInv t t.enc.length found ds) : found = t.pls [] := by
  obtain ⟨ts, h1, h2, h3⟩ := h
  rw [List.drop_length] at h1
  have e := encs_nil h1.symm
  subst e
  rw [h3]
  simp [plss]
theorem PInv.step {t : Tm} {i : Nat} {found ds : List (List Nat)} {v : V} (h : PInv t i found ds) (hv : t.enc[i]? = some v) : ∃ r d, ds = r ++ [d] ∧
    ((∃ n : Nat, v = .int n ∧ PInv t (i + 1) (found ++ [d]) r) ∨ (v = .str "lam" ∧ PInv t (i + 1) (found ++ [d]) (r ++ [d ++ [98]])) ∨ (v = .str "app" ∧ PInv t (i + 1) (found ++ [d]) (r ++ [d ++ [97]] ++ [d ++ [102]]))) := by
  obtain ⟨ts, h1, h2, h3⟩ := h
  rw [drop_at hv] at h1
  match ts, h1, h2, h3 with
  | [], h1, _, _ => cases h1
  | t1 :: r1, h1, h2, h3 =>
    have hne : ds ≠ [] := fun e => by
      rw [e] at h2
      cases h2
    refine ⟨ds.dropLast, ds.getLast hne, (List.dropLast_concat_getLast hne).symm, ?_⟩
    generalize hr : ds.dropLast = r at *
    generalize hd : ds.getLast hne = d at *
    have hds : ds = r ++ [d] := by rw [← hr, ← hd]; exact (List.dropLast_concat_getLast hne).symm
    subst hds
    rw [List.reverse_append] at h3
    have h3 : t.pls [] = found ++ (t1.pls d ++ plss r1 r.reverse) := h3
    have hl : r1.length = r.length := by simpa using h2
    rw [encs_cons] at h1
    cases t1 with
    | var n =>
      have h1 : v :: t.enc.drop (i + 1) = V.int n :: encs r1 := h1
      injection h1 with e1 e2
      exact .inl ⟨n, e1, r1, e2, hl, by rw [h3]; simp [Tm.pls]⟩
    | lam b =>
      have h1 : v :: t.enc.drop (i + 1) = V.str "lam" :: (b.enc ++ encs r1) := h1
      injection h1 with e1 e2
      exact .inr (.inl ⟨e1, b :: r1, by rw [e2, encs_cons], by simp [hl], by rw [h3, List.reverse_append]; simp [Tm.pls, plss]⟩)
    | app f a =>
      have h1 : v :: t.enc.drop (i + 1) = V.str "app" :: (f.enc ++ a.enc ++ encs r1) := h1
      injection h1 with e1 e2
      exact .inr (.inr ⟨e1, f :: a :: r1, by rw [e2, encs_cons, encs_cons, List.append_assoc], by simp [hl], by rw [h3, List.reverse_append, List.reverse_append]; simp [Tm.pls, plss]⟩)
theorem drop_get {xs r : List V} {i : Nat} {v : V} (h : xs.drop i = v :: r) : xs[i]? = some v ∧ xs.drop (i + 1) = r := by
  have e : (xs.drop i)[0]? = some v := by rw [h]; rfl
  rw [List.getElem?_drop, Nat.add_zero] at e
  refine ⟨e, ?_⟩
  have := drop_at e
  rw [h] at this
  injection this with _ e2
  exact e2.symm
def Tm.sub : Tm → List Nat → Option (Nat × Tm)
  | t, [] => some (0, t)
  | .lam b, c :: p => if c = 98 then (b.sub p).map (fun r => (r.1 + 1, r.2)) else none
  | .app f a, c :: p => if c = 102 then (f.sub p).map (fun r => (r.1 + 1, r.2)) else if c = 97 then (a.sub p).map (fun r => (r.1 + (1 + f.enc.length), r.2)) else none
  | .var _, _ :: _ => none
theorem Tm.sub_nil (t : Tm) : t.sub [] = some (0, t) := by cases t <;> rfl
/-- a part stands in the term where sub says, and its place in the list there -/
theorem Tm.sub_at : ∀ (t : Tm) (p q : List Nat) {i : Nat} {u : Tm}, t.sub p = some (i, u) → (∃ post, t.enc.drop i = u.enc ++ post) ∧ (t.pls q)[i]? = some (q ++ p)
  | t, [], q, i, u, h => by
    rw [Tm.sub_nil] at h
    cases h
    refine ⟨⟨[], by simp⟩, ?_⟩
    cases t <;> simp [Tm.pls]
  | .lam b, c :: p, q, i, u, h => by
    by_cases hc : c = 98
    · subst hc
      simp only [Tm.sub, if_pos] at h
      obtain ⟨⟨j, u'⟩, e1, e2⟩ := Option.map_eq_some_iff.mp h
      cases e2
      obtain ⟨⟨post, hp⟩, hl⟩ := Tm.sub_at b p (q ++ [98]) e1
      refine ⟨⟨post, by simpa [Tm.enc] using hp⟩, ?_⟩
      simp only [Tm.pls, List.getElem?_cons_succ, hl]
      simp
    · simp [Tm.sub, hc] at h
  | .app f a, c :: p, q, i, u, h => by
    by_cases hc : c = 102
    · subst hc
      simp only [Tm.sub, if_pos] at h
      obtain ⟨⟨j, u'⟩, e1, e2⟩ := Option.map_eq_some_iff.mp h
      cases e2
      obtain ⟨⟨post, hp⟩, hl⟩ := Tm.sub_at f p (q ++ [102]) e1
      have lt : j < (f.pls (q ++ [102])).length := (List.getElem?_eq_some_iff.mp hl).1
      have lt2 : j < f.enc.length := by rwa [Tm.pls_len] at lt
      refine ⟨⟨post ++ a.enc, ?_⟩, ?_⟩
      · simp only [Tm.enc, List.drop_succ_cons]
        rw [List.drop_append_of_le_length (Nat.le_of_lt lt2), hp, List.append_assoc]
      · simp only [Tm.pls, List.getElem?_cons_succ]
        rw [List.getElem?_append_left lt, hl]
        simp
    · by_cases hc2 : c = 97
      · subst hc2
        simp only [Tm.sub, if_pos] at h
        obtain ⟨⟨j, u'⟩, e1, e2⟩ := Option.map_eq_some_iff.mp h
        cases e2
        obtain ⟨⟨post, hp⟩, hl⟩ := Tm.sub_at a p (q ++ [97]) e1
        refine ⟨⟨post, ?_⟩, ?_⟩
        · have e : j + (1 + f.enc.length) = (f.enc.length + j) + 1 := by omega
          simp only [Tm.enc]
          rw [e, List.drop_succ_cons, List.drop_append, List.drop_of_length_le (by omega)]
          simpa using hp
        · have e : j + (1 + f.enc.length) = (f.enc.length + j) + 1 := by omega
          simp only [Tm.pls]
          rw [e, List.getElem?_cons_succ, List.getElem?_append_right (by rw [Tm.pls_len]; omega), Tm.pls_len]
          have e2 : f.enc.length + j - f.enc.length = j := by omega
          rw [e2, hl]
          simp
      · simp [Tm.sub, hc, hc2] at h
  | .var _, c :: p, q, i, u, h => by simp [Tm.sub] at h
theorem Tm.sub_of : ∀ (t : Tm) (q : List Nat) {r : List Nat}, r ∈ t.pls q → ∃ s i u, r = q ++ s ∧ t.sub s = some (i, u)
  | .var _, q, r, h => ⟨[], 0, _, by simpa [Tm.pls] using h, Tm.sub_nil _⟩
  | .lam b, q, r, h => by
    rcases List.mem_cons.mp h with e | h
    · exact ⟨[], 0, _, by simp [e], Tm.sub_nil _⟩
    · obtain ⟨s, i, u, e, hs⟩ := Tm.sub_of b _ h
      exact ⟨98 :: s, i + 1, u, by rw [e]; simp, by simp [Tm.sub, hs]⟩
  | .app f a, q, r, h => by
    rcases List.mem_cons.mp h with e | h
    · exact ⟨[], 0, _, by simp [e], Tm.sub_nil _⟩
    · rcases List.mem_append.mp h with h | h
      · obtain ⟨s, i, u, e, hs⟩ := Tm.sub_of f _ h
        exact ⟨102 :: s, i + 1, u, by rw [e]; simp, by simp [Tm.sub, hs]⟩
      · obtain ⟨s, i, u, e, hs⟩ := Tm.sub_of a _ h
        exact ⟨97 :: s, i + (1 + f.enc.length), u, by rw [e]; simp, by simp [Tm.sub, hs]⟩
theorem w_it {te : TE} {σ : L2.St} {H : Hp} {R : It → Hp → Prop} (h : te σ H fun v H1 => ∃ x, v = .str x ∧ R (Its x) H1) : iStr te σ H R := h
theorem w_it1 {z : Str} {B : Str → Prop} (q : B z) : ∃ x, V.str z = .str x ∧ B x := ⟨z, rfl, q⟩
/-- in the midst of a walk to a part's end: the terms that are missing -/
def EInv (xs : List V) (fin e : Nat) (ts : List Tm) : Prop := ∃ post, xs.drop e = encs ts ++ post ∧ e + (encs ts).length = fin
theorem EInv.start {xs post : List V} {s : Nat} {u : Tm} (h : xs.drop s = u.enc ++ post) : EInv xs (s + u.enc.length) s [u] := ⟨post, by simpa [encs] using h, by simp [encs]⟩
theorem EInv.step {xs : List V} {fin e : Nat} {t : Tm} {ts : List Tm} (h : EInv xs fin e (t :: ts)) : e < fin ∧ ∃ v ts', xs[e]? = some v ∧ EInv xs fin (e + 1) ts' ∧
    ((∃ n : Nat, v = .int n ∧ ts'.length = ts.length) ∨ (v = .str "lam" ∧ ts'.length = ts.length + 1) ∨ (v = .str "app" ∧ ts'.length = ts.length + 2)) := by
  obtain ⟨post, h1, h2⟩ := h
  rw [encs_cons] at h1 h2
  have pos := List.length_pos_iff.mpr t.enc_ne
  rw [List.length_append] at h2
  refine ⟨by omega, ?_⟩
  cases t with
  | var n =>
    have g := drop_get (i := e) (v := .int n) (r := encs ts ++ post) (by rw [h1]; rfl)
    exact ⟨_, ts, g.1, ⟨post, g.2, by simp [Tm.enc] at h2; omega⟩, .inl ⟨n, rfl, rfl⟩⟩
  | lam b =>
    have g := drop_get (i := e) (v := .str "lam") (r := b.enc ++ encs ts ++ post) (by rw [h1]; simp [Tm.enc])
    exact ⟨_, b :: ts, g.1, ⟨post, by rw [g.2, encs_cons], by rw [encs_cons]; simp [Tm.enc] at h2 ⊢; omega⟩, .inr (.inl ⟨rfl, rfl⟩)⟩
  | app f a =>
    have g := drop_get (i := e) (v := .str "app") (r := f.enc ++ (a.enc ++ encs ts) ++ post) (by rw [h1]; simp [Tm.enc])
    exact ⟨_, f :: a :: ts, g.1, ⟨post, by rw [g.2, encs_cons, encs_cons], by rw [encs_cons, encs_cons]; simp [Tm.enc] at h2 ⊢; omega⟩, .inr (.inr ⟨rfl, rfl⟩)⟩
theorem w_sl {r : V → Option Int → Option Int → Hp → VK → Prop} {te : TE} {tl th : TO} {σ : L2.St} {H : Hp} {Q : VK} (h : te σ H fun x H1 => tl σ H1 fun l H2 => th σ H2 fun u H3 => r x l u H3 Q) : L2.tSl r te tl th σ H Q := h
theorem w_noP {σ : L2.St} {H : Hp} {Q : Option Int → Hp → Prop} (h : Q none H) : tNoPart σ H Q := h
theorem w_part {t : TE} {σ : L2.St} {H : Hp} {Q : Option Int → Hp → Prop} (h : t σ H fun x H1 => ∃ i, x = .int i ∧ Q (some i) H1) : tPart t σ H Q := h
theorem w_part1 {j : Int} {B : Int → Prop} (h : B j) : ∃ i, V.int j = .int i ∧ B i := ⟨j, rfl, h⟩
theorem cut_lo (xs : List V) (i : Nat) : cutV xs none (some (i : Int)) = xs.take i := by
  unfold cutV
  rw [HT.sIx_nat, HT.sIx_none]
  simp
theorem cut_hi (xs : List V) (i : Nat) : cutV xs (some (i : Int)) none = xs.drop i := by
  unfold cutV
  rw [HT.sIx_nat, HT.sIx_none]
  by_cases h : i ≤ xs.length
  · rw [Nat.min_eq_left h]
    exact List.take_of_length_le (by simp)
  · rw [Nat.min_eq_right (by omega), List.drop_length, List.drop_of_length_le (by omega)]
    simp
def dueV (t v : Tm) (i : Nat) (u : Tm) : List V := t.enc.take i ++ v.enc ++ t.enc.drop (i + u.enc.length)
theorem cut_mid {xs post : List V} {i : Nat} {u : Tm} (h : xs.drop i = u.enc ++ post) : cutV xs (some (i : Int)) (some ((i + u.enc.length : Nat) : Int)) = u.enc := by
  have hl := congrArg List.length h
  rw [List.length_drop, List.length_append] at hl
  have pos := List.length_pos_iff.mpr u.enc_ne
  unfold cutV
  rw [HT.sIx_nat, HT.sIx_nat, Nat.min_eq_left (by omega), Nat.min_eq_left (by omega), h]
  rw [List.take_append_of_le_length (by omega)]
  exact List.take_of_length_le (by omega)
def Small (qs : List (List Nat)) : Prop := ∀ q ∈ qs, ∀ c ∈ q, c < 200
theorem same_at {qs : List (List Nat)} (o : qs.Pairwise RB) {i j : Nat} {r : List Nat} (hi : qs[i]? = some r) (hj : qs[j]? = some r) : i = j := by
  have b := before_at o hi hj
  have b2 := before_at o hj hi
  rw [before_self] at b b2
  have g1 := of_decide_eq_false b.symm
  have g2 := of_decide_eq_false b2.symm
  omega
theorem inV_pl (p : List Nat) : ∀ qs : List (List Nat), inV (.str (pl p)) (plcs qs) = decide (p ∈ qs)
  | [] => by simp [inV]
  | q :: qs => by
    have ih := inV_pl p qs
    unfold inV at ih ⊢
    have e : eqV (.str (pl q)) (.str (pl p)) = decide (p = q) := by
      show (pl q == pl p) = _
      by_cases h : p = q
      · subst h; simp
      · rw [decide_eq_false h]
        exact beq_eq_false_iff_ne.mpr fun e => h (pl_inj e).symm
    show (eqV (.str (pl q)) (.str (pl p)) || (plcs qs).any fun y => eqV y (.str (pl p))) = _
    rw [ih, e]
    simp
theorem flat_pl (qs : List (List Nat)) : (plcs qs).all flatV = true := by
  simp [flatV]
theorem w_inS {K : PySem.W.Frag} {H : Hp} {Q : VK} {p : Addr} {r : List Nat} {qs : List (List Nat)} (h : H p = some (.lst (plcs qs))) (q : Q (.bl (decide (r ∈ qs))) H) : rIn K false (.str (pl r)) (.ref p) H Q :=
  ⟨p, _, rfl, .inl (SqL.of h), rfl, flat_pl qs, by rw [inV_pl]; exact q⟩
def Tm.tall : Tm → Nat
  | .var _ => 0
  | .lam b => b.tall + 1
  | .app f a => max f.tall a.tall + 1
end Ly
set_option Elab.async false
set_option linter.all false
set_option maxRecDepth 100000
set_option maxHeartbeats 2000000
namespace Ly
open PySem PySem.Spec PyProof.Rows L2 Evl
/-- the term with v in place of the part at p -/
def Tm.rep (v : Tm) : Tm → List Nat → Tm
  | _, [] => v
  | .lam b, c :: p => if c = 98 then .lam (Tm.rep v b p) else .lam b
  | .app f a, c :: p => if c = 102 then .app (Tm.rep v f p) a else if c = 97 then .app f (Tm.rep v a p) else .app f a
  | .var n, _ :: _ => .var n
theorem Tm.rep_nil (v t : Tm) : Tm.rep v t [] = v := by cases t <;> rfl
theorem Tm.sub_lt {t : Tm} {p : List Nat} {i : Nat} {u : Tm} (h : t.sub p = some (i, u)) : i + u.enc.length ≤ t.enc.length := by
  obtain ⟨⟨post, e⟩, _⟩ := Tm.sub_at t p [] h
  have hl := congrArg List.length e
  rw [List.length_drop, List.length_append] at hl
  have pos := List.length_pos_iff.mpr u.enc_ne
  omega
theorem Tm.rep_enc (v : Tm) : ∀ (t : Tm) (p : List Nat) {i : Nat} {u : Tm}, t.sub p = some (i, u) → (Tm.rep v t p).enc = dueV t v i u
  | t, [], i, u, h => by
    rw [Tm.sub_nil] at h
    cases h
    rw [Tm.rep_nil]
    simp [dueV]
  | .lam b, c :: p, i, u, h => by
    by_cases hc : c = 98
    · subst hc
      simp only [Tm.sub, if_pos] at h
      obtain ⟨⟨j, u'⟩, e1, e2⟩ := Option.map_eq_some_iff.mp h
      cases e2
      have ih := Tm.rep_enc v b p e1
      simp only [Tm.rep, if_pos, Tm.enc, ih, dueV]
      have e : j + 1 + u'.enc.length = j + u'.enc.length + 1 := by omega
      rw [e, List.take_succ_cons, List.drop_succ_cons]
      simp
    · simp [Tm.sub, hc] at h
  | .app f a, c :: p, i, u, h => by
    by_cases hc : c = 102
    · subst hc
      simp only [Tm.sub, if_pos] at h
      obtain ⟨⟨j, u'⟩, e1, e2⟩ := Option.map_eq_some_iff.mp h
      cases e2
      have ih := Tm.rep_enc v f p e1
      have lt := Tm.sub_lt e1
      simp only [Tm.rep, if_pos, Tm.enc, ih, dueV]
      have e : j + 1 + u'.enc.length = j + u'.enc.length + 1 := by omega
      rw [e, List.take_succ_cons, List.drop_succ_cons, List.take_append_of_le_length (by omega), List.drop_append_of_le_length (by omega)]
      simp
    · by_cases hc2 : c = 97
      · subst hc2
        simp only [Tm.sub, if_pos] at h
        obtain ⟨⟨j, u'⟩, e1, e2⟩ := Option.map_eq_some_iff.mp h
        cases e2
        have ih := Tm.rep_enc v a p e1
        simp only [Tm.rep, Tm.enc, dueV]
        rw [if_neg (by decide), if_pos trivial]
        simp only [Tm.enc, ih, dueV]
        have e : j + (1 + f.enc.length) = (f.enc.length + j) + 1 := by omega
        have e3 : j + (1 + f.enc.length) + u'.enc.length = (f.enc.length + (j + u'.enc.length)) + 1 := by omega
        rw [e3, e, List.take_succ_cons, List.drop_succ_cons, List.take_length_add_append, List.drop_length_add_append]
        simp
      · simp [Tm.sub, hc, hc2] at h
  | .var _, c :: p, i, u, h => by simp [Tm.sub] at h
def Tm.isLam : Tm → Bool
  | .lam _ => true
  | _ => false
/-- the redexes, in order; p: the place of the term itself -/
def Tm.reds : List Nat → Tm → List (List Nat)
  | _, .var _ => []
  | p, .lam b => b.reds (p ++ [98])
  | p, .app f a => (if f.isLam then [p] else []) ++ (f.reds (p ++ [102]) ++ a.reds (p ++ [97]))
theorem str_ne1 : ¬ (("lam" : Str) = "app") := by decide +kernel
theorem str_ne2 : ¬ (("app" : Str) = "lam") := by decide +kernel
theorem Tm.head_lam (t : Tm) (post : List V) : ((t.enc ++ post)[0]? = some (.str "lam")) ↔ t.isLam = true := by
  cases t with
  | var n => simp [Tm.enc, Tm.isLam]
  | lam b => simp [Tm.enc, Tm.isLam]
  | app f a => simp [Tm.enc, Tm.isLam, str_ne2]
/-- a redex's part -/
def Tm.Red (t : Tm) (p : List Nat) (i : Nat) (b u : Tm) : Prop := t.sub p = some (i, .app (.lam b) u)
theorem Tm.reds_sub : ∀ (t : Tm) (q : List Nat) {r : List Nat}, r ∈ t.reds q ↔ ∃ s i b u, r = q ++ s ∧ t.Red s i b u
  | .var n, q, r => by
    constructor
    · intro h
      simp [Tm.reds] at h
    · rintro ⟨s, i, b, u, _, h⟩
      cases s <;> simp [Tm.Red, Tm.sub] at h
  | .lam c, q, r => by
    have ih := Tm.reds_sub c (q ++ [98]) (r := r)
    constructor
    · intro h
      obtain ⟨s, i, b, u, e, hs⟩ := ih.mp h
      exact ⟨98 :: s, i + 1, b, u, by rw [e]; simp, by unfold Tm.Red at hs ⊢; simp [Tm.sub, hs]⟩
    · rintro ⟨s, i, b, u, e, hs⟩
      cases s with
      | nil => simp [Tm.Red, Tm.sub] at hs
      | cons c2 s =>
        unfold Tm.Red at hs
        simp only [Tm.sub] at hs
        by_cases hc : c2 = 98
        · subst hc
          simp only [if_pos] at hs
          obtain ⟨⟨j, u'⟩, e1, e2⟩ := Option.map_eq_some_iff.mp hs
          cases e2
          exact ih.mpr ⟨s, j, b, u, by rw [e]; simp, e1⟩
        · simp [hc] at hs
  | .app f a, q, r => by
    have i1 := Tm.reds_sub f (q ++ [102]) (r := r)
    have i2 := Tm.reds_sub a (q ++ [97]) (r := r)
    constructor
    · intro h
      rcases List.mem_append.mp h with h | h
      · cases f with
        | lam b =>
          simp [Tm.isLam] at h
          exact ⟨[], 0, b, a, by simp [h], Tm.sub_nil _⟩
        | var n => simp [Tm.isLam] at h
        | app f a => simp [Tm.isLam] at h
      · rcases List.mem_append.mp h with h | h
        · obtain ⟨s, i, b, u, e, hs⟩ := i1.mp h
          exact ⟨102 :: s, i + 1, b, u, by rw [e]; simp, by unfold Tm.Red at hs ⊢; simp [Tm.sub, hs]⟩
        · obtain ⟨s, i, b, u, e, hs⟩ := i2.mp h
          exact ⟨97 :: s, i + (1 + f.enc.length), b, u, by rw [e]; simp, by unfold Tm.Red at hs ⊢; simp [Tm.sub, hs]⟩
    · rintro ⟨s, i, b, u, e, hs⟩
      cases s with
      | nil =>
        unfold Tm.Red at hs
        rw [Tm.sub_nil] at hs
        cases hs
        refine List.mem_append_left _ ?_
        simp [Tm.isLam, e]
      | cons c2 s =>
        unfold Tm.Red at hs
        simp only [Tm.sub] at hs
        refine List.mem_append_right _ ?_
        by_cases hc : c2 = 102
        · subst hc
          simp only [if_pos] at hs
          obtain ⟨⟨j, u'⟩, e1, e2⟩ := Option.map_eq_some_iff.mp hs
          cases e2
          exact List.mem_append_left _ (i1.mpr ⟨s, j, b, u, by rw [e]; simp, e1⟩)
        · by_cases hc2 : c2 = 97
          · subst hc2
            simp only [if_pos] at hs
            rw [if_neg (by decide)] at hs
            obtain ⟨⟨j, u'⟩, e1, e2⟩ := Option.map_eq_some_iff.mp hs
            cases e2
            exact List.mem_append_right _ (i2.mpr ⟨s, j, b, u, by rw [e]; simp, e1⟩)
          · simp [hc, hc2] at hs
theorem Tm.red_mem {t : Tm} {p : List Nat} : p ∈ t.reds [] ↔ ∃ i b u, t.Red p i b u := by
  rw [Tm.reds_sub]
  constructor
  · rintro ⟨s, i, b, u, e, h⟩
    simp only [List.nil_append] at e
    rw [e]
    exact ⟨i, b, u, h⟩
  · rintro ⟨i, b, u, h⟩
    exact ⟨p, i, b, u, by simp, h⟩
/-- the step at p (the term itself where p is no redex) -/
def Tm.step (t : Tm) (p : List Nat) : Tm := match t.sub p with
  | some (_, .app (.lam b) u) => Tm.rep (Tm.put u 0 b) t p
  | _ => t
theorem Tm.step_red {t : Tm} {p : List Nat} {i : Nat} {b u : Tm} (h : t.Red p i b u) : t.step p = Tm.rep (Tm.put u 0 b) t p := by
  unfold Tm.step
  rw [h]
/-- how the nodes of a redex stand in the list -/
theorem Tm.red_at {t : Tm} {p : List Nat} {i : Nat} {b u : Tm} (h : t.Red p i b u) : ∃ post, t.enc.drop i = .str "app" :: .str "lam" :: (b.enc ++ (u.enc ++ post)) := by
  obtain ⟨⟨post, e⟩, _⟩ := Tm.sub_at t p [] h
  exact ⟨post, by rw [e]; simp [Tm.enc]⟩
theorem Tm.step_enc {t : Tm} {p : List Nat} {i : Nat} {b u : Tm} (h : t.Red p i b u) : (t.step p).enc = t.enc.take i ++ (Tm.put u 0 b).enc ++ t.enc.drop (i + 2 + b.enc.length + u.enc.length) := by
  rw [Tm.step_red h, Tm.rep_enc _ t p h, dueV]
  congr 2
  simp only [Tm.enc, List.length_cons, List.length_append]
  omega
/-- the part that begins at the i-th node -/
theorem Tm.part_at (t : Tm) {i : Nat} (h : i < t.enc.length) : ∃ p u post, (t.pls [])[i]? = some p ∧ t.sub p = some (i, u) ∧ t.enc.drop i = u.enc ++ post := by
  have hl : i < (t.pls []).length := by rw [Tm.pls_len]; exact h
  have g := List.getElem?_eq_getElem hl
  obtain ⟨s, j, u, e, hs⟩ := Tm.sub_of t [] (List.mem_of_getElem? g)
  simp only [List.nil_append] at e
  obtain ⟨⟨post, hd⟩, hp⟩ := Tm.sub_at t s [] hs
  simp only [List.nil_append] at hp
  have ij : i = j := same_at (Tm.pls_order t []) (by rw [g, e]) hp
  subst ij
  exact ⟨s, u, post, hp, hs, hd⟩
theorem Tm.after_app (t : Tm) {i : Nat} (h : t.enc[i]? = some (.str "app")) : ∃ v, t.enc[i + 1]? = some v ∧ ((∃ n : Int, v = .int n) ∨ v = .str "lam" ∨ v = .str "app") := by
  have hi := (List.getElem?_eq_some_iff.mp h).1
  obtain ⟨p, u, post, _, _, hd⟩ := t.part_at hi
  have h0 : (t.enc.drop i)[0]? = some (.str "app") := by rw [List.getElem?_drop, Nat.add_zero]; exact h
  rw [hd] at h0
  cases u with
  | var n => simp [Tm.enc] at h0
  | lam b => simp [Tm.enc, str_ne1] at h0
  | app f a =>
    have h1 : (t.enc.drop i)[1]? = (f.enc ++ a.enc ++ post)[0]? := by rw [hd]; rfl
    rw [List.getElem?_drop] at h1
    obtain ⟨v, r, e⟩ := List.exists_cons_of_ne_nil f.enc_ne
    refine ⟨v, by rw [h1, e]; rfl, ?_⟩
    rcases Tm.int_nat (t := f) (v := v) (by rw [e]; exact List.mem_cons_self) with ⟨n, e2⟩ | e2 | e2
    · exact .inl ⟨_, e2⟩
    · exact .inr (.inl e2)
    · exact .inr (.inr e2)
/-- what is too great, as a list -/
theorem bigs_nil {xs : List V} : (xs.filter fun v => !okV v).length = 0 ↔ xs.all okV = true := by
  rw [List.length_eq_zero_iff, List.filter_eq_nil_iff, List.all_eq_true]
  constructor
  · intro h x hx
    have := h x hx
    simpa using this
  · intro h x hx
    simp [h x hx]
theorem filter_take {xs : List V} {i : Nat} {x : V} (h : xs[i]? = some x) : (xs.take (i + 1)).filter (fun v => !okV v) = (xs.take i).filter (fun v => !okV v) ++ (if okV x = true then [] else [x]) := by
  rw [List.take_add_one, h, List.filter_append]
  cases hx : okV x <;> simp [hx]
theorem fits_iff {xs : List V} (l : xs.length ≤ 1000) : fitsV xs = decide ((xs.filter fun v => !okV v).length = 0) := by
  unfold fitsV
  rw [decide_eq_true l, Bool.true_and]
  by_cases h : xs.all okV = true
  · rw [h, decide_eq_true (bigs_nil.mpr h)]
  · rw [decide_eq_false (fun z => h (bigs_nil.mp z))]
    simpa using h
end Ly
set_option Elab.async false
set_option linter.all false
set_option maxRecDepth 100000
set_option maxHeartbeats 2000000
namespace Ly
open PySem PySem.Spec PyProof.Rows L2 Evl
/-- what a road passes: the terms, or which error comes first -/
inductive Res where
  | ok (ts : List Tm)
  | none
  | large
def Res.cons (t : Tm) : Res → Res
  | .ok ts => .ok (t :: ts)
  | r => r
def Tm.isRed (t : Tm) (p : List Nat) : Bool := decide (p ∈ t.reds [])
def Tm.pass : Tm → List (List Nat) → Res
  | t, [] => .ok [t]
  | t, p :: r => if t.isRed p = false then .none else if fitsV (t.step p).enc = false then .large else Res.cons t (Tm.pass (t.step p) r)
/-- a road of redexes -/
inductive Road : Tm → List (List Nat) → Prop
  | nil {t : Tm} : Road t []
  | cons {t : Tm} {p : List Nat} {r : List (List Nat)} (h : t.isRed p = true) (hr : Road (t.step p) r) : Road t (p :: r)
/-- where a road leads (its places taken for redexes) -/
def Tm.along : Tm → List (List Nat) → Tm
  | t, [] => t
  | t, p :: r => (t.step p).along r
theorem Road.snoc {t : Tm} {r : List (List Nat)} {p : List Nat} (h : Road t r) (hp : (t.along r).isRed p = true) : Road t (r ++ [p]) := by
  induction h with
  | nil => exact .cons hp .nil
  | cons h _ ih => exact .cons h (ih hp)
inductive Pass (t : Tm) : List (List Nat) → List Tm → Tm → Prop
  | nil : Pass t [] [t] t
  | snoc {r : List (List Nat)} {ts : List Tm} {u : Tm} {p : List Nat} (h : Pass t r ts u) (hp : u.isRed p = true) (hf : fitsV (u.step p).enc = true) : Pass t (r ++ [p]) (ts ++ [u.step p]) (u.step p)
theorem pass_app {t u : Tm} {r : List (List Nat)} {ts : List Tm} (h : Pass t r ts u) : ∀ s, Tm.pass t (r ++ s) = match Tm.pass u s with
    | .ok us => .ok (ts.dropLast ++ us)
    | e => e := by
  induction h with
  | nil =>
    intro s
    show Tm.pass t s = _
    cases Tm.pass t s <;> rfl
  | @snoc r ts u p h hp hf ih =>
    intro s
    rw [List.append_assoc, List.singleton_append, ih]
    have e : Tm.pass u (p :: s) = Res.cons u (Tm.pass (u.step p) s) := by
      show (if u.isRed p = false then Res.none else if fitsV (u.step p).enc = false then Res.large else _) = _
      rw [if_neg (by rw [hp]; simp), if_neg (by rw [hf]; simp)]
    rw [e]
    have hl : ∃ ts0, ts = ts0 ++ [u] := by
      cases h with
      | nil => exact ⟨[], rfl⟩
      | snoc _ _ _ => exact ⟨_, rfl⟩
    obtain ⟨ts0, rfl⟩ := hl
    cases Tm.pass (u.step p) s <;> simp [Res.cons]
theorem Pass.done {t u : Tm} {r : List (List Nat)} {ts : List Tm} (h : Pass t r ts u) : Tm.pass t r = .ok ts := by
  have e := pass_app h []
  rw [List.append_nil] at e
  rw [e]
  have hl : ∃ ts0, ts = ts0 ++ [u] := by
    cases h with
    | nil => exact ⟨[], rfl⟩
    | snoc _ _ _ => exact ⟨_, rfl⟩
  obtain ⟨ts0, rfl⟩ := hl
  simp [Tm.pass]
theorem Pass.last {t u : Tm} {r : List (List Nat)} {ts : List Tm} (h : Pass t r ts u) : ∃ ts0, ts = ts0 ++ [u] := by
  cases h with
  | nil => exact ⟨[], rfl⟩
  | snoc _ _ _ => exact ⟨_, rfl⟩
theorem Pass.none {t u : Tm} {r s : List (List Nat)} {ts : List Tm} {p : List Nat} (h : Pass t r ts u) (hp : u.isRed p = false) : Tm.pass t (r ++ p :: s) = .none := by
  rw [pass_app h]
  have e : Tm.pass u (p :: s) = Res.none := if_pos hp
  rw [e]
theorem Pass.large {t u : Tm} {r s : List (List Nat)} {ts : List Tm} {p : List Nat} (h : Pass t r ts u) (hp : u.isRed p = true) (hf : fitsV (u.step p).enc = false) : Tm.pass t (r ++ p :: s) = .large := by
  rw [pass_app h]
  have e : Tm.pass u (p :: s) = Res.large := by
    show (if u.isRed p = false then Res.none else if fitsV (u.step p).enc = false then Res.large else _) = _
    rw [if_neg (by rw [hp]; simp), if_pos hf]
  rw [e]
theorem Pass.len {t u : Tm} {r : List (List Nat)} {ts : List Tm} (h : Pass t r ts u) : ts.length = r.length + 1 := by
  induction h with
  | nil => rfl
  | snoc _ _ _ ih => simp [ih]
theorem fits_len {xs : List V} (h : fitsV xs = true) : xs.length ≤ 1000 := by
  unfold fitsV at h
  rw [Bool.and_eq_true] at h
  exact of_decide_eq_true h.1
/-- a variable replaced by another -/
theorem Tm.var_set (t : Tm) {i : Nat} {n : Int} (c : Nat) (h : t.enc[i]? = some (.int n)) : ∃ t' : Tm, t'.enc = t.enc.take i ++ [.int (c : Int)] ++ t.enc.drop (i + 1) := by
  have hi := (List.getElem?_eq_some_iff.mp h).1
  obtain ⟨p, u, post, _, hs, hd⟩ := t.part_at hi
  have h0 : (t.enc.drop i)[0]? = some (.int n) := by rw [List.getElem?_drop, Nat.add_zero]; exact h
  rw [hd] at h0
  cases u with
  | lam b => simp [Tm.enc] at h0
  | app f a => simp [Tm.enc] at h0
  | var m => exact ⟨Tm.rep (.var c) t p, Tm.rep_enc (.var c) t p hs⟩
inductive Ts (K : PySem.W.Frag) (H : Hp) : List Addr → List Tm → Prop
  | nil : Ts K H [] []
  | cons {a : Addr} {as : List Addr} {t : Tm} {ts : List Tm} (h : SqT K H a t.enc) (r : Ts K H as ts) : Ts K H (a :: as) (t :: ts)
section
variable {K : PySem.W.Frag} {H H' : Hp} {Q : VK}
theorem Ts.mono {as : List Addr} {ts : List Tm} (h : Ts K H as ts) (e : ∀ a xs, SqT K H a xs → SqT K H' a xs) : Ts K H' as ts := by
  induction h with
  | nil => exact .nil
  | cons h _ ih => exact .cons (e _ _ h) ih
theorem Ts.ex {as : List Addr} {ts : List Tm} (h : Ts K H as ts) (e : Ex H H') : Ts K H' as ts := h.mono fun a xs z => ex_t e z
theorem Ts.snoc {as : List Addr} {ts : List Tm} {a : Addr} {t : Tm} (h : Ts K H as ts) (ha : SqT K H a t.enc) : Ts K H (as ++ [a]) (ts ++ [t]) := by
  induction h with
  | nil => exact .cons ha .nil
  | cons h _ ih => exact .cons h ih
theorem Ts.len {as : List Addr} {ts : List Tm} (h : Ts K H as ts) : as.length = ts.length := by
  induction h with
  | nil => rfl
  | cons _ _ ih => simp [ih]
theorem Ts.at {as : List Addr} {ts : List Tm} (h : Ts K H as ts) {i : Nat} {a : Addr} (ha : as[i]? = some a) : ∃ t, ts[i]? = some t ∧ SqT K H a t.enc := by
  induction h generalizing i with
  | nil => simp at ha
  | cons h _ ih =>
    cases i with
    | zero =>
      simp at ha
      subst ha
      exact ⟨_, rfl, h⟩
    | succ i => exact ih (by simpa using ha)
abbrev refs (as : List Addr) : List V := as.map V.ref
def tmd (t : Tm) : PyData := .tuple (t.enc.map dv)
theorem Ts.dp {as : List Addr} {ts : List Tm} (h : Ts K H as ts) : DpAll K H (refs as) (ts.map tmd) := by
  induction h with
  | nil => exact .nil
  | cons h _ ih => exact .cons (.tup h (dp_nodes (Tm.nds _))) ih
theorem w_eqZZ {x y : Str} (z : SeqAt.shaped (.str x) = true) (z2 : SeqAt.shaped (.str y) = true) {b : Bool} (e : PyData.eqv (.str x) (.str y) = b) (qq : Q (.bl b) H) : rEqD K (.str x) (.str y) H Q :=
  ⟨_, _, .str x, .str y, z, z2, by rw [e]; exact qq⟩
end
theorem Small.app {qs rs : List (List Nat)} (h : Small qs) (k : Small rs) : Small (qs ++ rs) := fun q hq => (List.mem_append.mp hq).elim (h q) (k q)
theorem Small.take {qs : List (List Nat)} (h : Small qs) (i : Nat) : Small (qs.take i) := fun q hq => h q (List.mem_of_mem_take hq)
theorem Small.drop {qs : List (List Nat)} (h : Small qs) (i : Nat) : Small (qs.drop i) := fun q hq => h q (List.mem_of_mem_drop hq)
def redB (xs : List V) (i : Nat) : Bool := decide (xs[i]? = some (.str "app")) && decide (xs[i + 1]? = some (.str "lam"))
theorem redB_iff {xs : List V} {i : Nat} : redB xs i = true ↔ xs[i]? = some (.str "app") ∧ xs[i + 1]? = some (.str "lam") := by simp [redB]
theorem redB_of {xs : List V} {i : Nat} {x : V} (h : xs[i]? = some x) (n : x ≠ .str "app") : redB xs i = false := by
  simp [redB, h, n]
theorem redB_app {xs : List V} {i : Nat} {y : V} (h : xs[i]? = some (.str "app")) (h2 : xs[i + 1]? = some y) : redB xs i = decide (y = .str "lam") := by
  simp [redB, h, h2]
def redI (xs : List V) : Nat → List Nat
  | 0 => []
  | i + 1 => redI xs i ++ (if redB xs i = true then [i] else [])
theorem redI_len (xs : List V) : ∀ i, (redI xs i).length ≤ i
  | 0 => Nat.zero_le _
  | i + 1 => by
    have := redI_len xs i
    simp only [redI, List.length_append]
    split
    · simp only [List.length_singleton]; omega
    · simp only [List.length_nil]; omega
theorem redI_mem {xs : List V} {j : Nat} : ∀ {n : Nat}, j ∈ redI xs n ↔ j < n ∧ redB xs j = true
  | 0 => by simp [redI]
  | n + 1 => by
    have ih := redI_mem (xs := xs) (j := j) (n := n)
    simp only [redI, List.mem_append, ih]
    constructor
    · rintro (⟨h1, h2⟩ | h)
      · exact ⟨by omega, h2⟩
      · split at h
        · rename_i hb
          rw [List.mem_singleton.mp h]
          exact ⟨by omega, hb⟩
        · simp at h
    · rintro ⟨h1, h2⟩
      by_cases e : j = n
      · subst e
        right
        rw [if_pos h2]
        exact List.mem_singleton.mpr rfl
      · exact .inl ⟨by omega, h2⟩
theorem red_of {t v : Tm} {p : List Nat} {i : Nat} (h : t.sub p = some (i, v)) : redB t.enc i = true ↔ ∃ b u, v = .app (.lam b) u := by
  obtain ⟨⟨post, hd⟩, _⟩ := Tm.sub_at t p [] h
  have g : ∀ k, t.enc[i + k]? = (v.enc ++ post)[k]? := fun k => by rw [← hd, List.getElem?_drop]
  have g0 := g 0
  have g1 := g 1
  rw [Nat.add_zero] at g0
  rw [redB_iff, g0, g1]
  cases v with
  | var n => simp [Tm.enc]
  | lam b => simp [Tm.enc, str_ne1]
  | app f a =>
    have hl := Tm.head_lam f (a.enc ++ post)
    have e : ((Tm.app f a).enc ++ post)[1]? = (f.enc ++ (a.enc ++ post))[0]? := by simp [Tm.enc]
    rw [e, hl]
    cases f with
    | var n => simp [Tm.enc, Tm.isLam]
    | lam b => simp [Tm.enc, Tm.isLam]
    | app f a => simp [Tm.enc, Tm.isLam]
end Ly
set_option Elab.async false
set_option linter.all false
set_option maxRecDepth 100000
set_option maxHeartbeats 2000000
namespace Ly
open PySem PySem.Spec PyProof.Rows L2 HotX L2H
section
variable {prog : Program} {w : World} {A : Around} {E : Value → Shared → Prop} {s : Shared}
end
section
variable {X : Cx}
end
section
variable {P : Program} {w : World} {K : PySem.W.Frag} {mg : Str → Option Value} {base : Heap}
def DefH (P : Program) (w : World) (K : PySem.W.Frag) (mg : Str → Option Value) (base : Heap) (CX : CXT) (k : Nat) (x : Str) (ps : List Str) (sp : Sp) : Prop :=
  ∃ f fd, mg x = some (.ref f) ∧ PySem.W.keepIn K (.ref f) = true ∧ Binds K fd ps [] ∧ FnH P w K mg base CX k f fd ps sp
theorem DefH.of {CX : CXT} {k : Nat} {x : Str} {ps : List Str} {sp : Sp} {f : Addr} {fd : FuncData} (g : mg x = some (.ref f)) (kp : PySem.W.keepIn K (.ref f) = true) (b : Binds K fd ps []) (G : FnH P w K mg base CX k f fd ps sp) : DefH P w K mg base CX k x ps sp := ⟨f, fd, g, kp, b, G⟩
end
section
variable {X : Cx}
end
end Ly
set_option Elab.async false
set_option linter.all false
set_option maxRecDepth 100000
set_option maxHeartbeats 2000000
namespace Ly
open PySem PySem.Spec PyProof.Rows L2 Evl
theorem ext_tup (l : Addr) (its : Array Value) (n : Nat) (b : Addr) (more : Array Value) (m : Nat) (dd : Option Addr) (sl : Array (Option Value)) (ok : ¬(!its.isEmpty && Builtin.List.listTooLong (its.size + more.size)) = true) (z1 : its.size ≤ sizeLine) (z2 : its.size + more.size ≤ sizeLine + 1) :
    Meets (Builtin.«list.extend» ⟨[.ref l, .ref b], []⟩) (fun _ R s => s.heap.get? l = some { cls := .type "list", dict := none, data := .seq its n, slots := #[] } ∧ s.heap.get? b = some ⟨.type "tuple", dd, .seq more m, sl⟩ ∧
      R (.ok (.ret Value.none)) { s with heap := s.heap.update l (Obj.mapSeq fun x => x ++ more), toks := s.toks }) :=
  .of_wp fun prog w A R s h => by
    obtain ⟨hp, g, d, tk, os⟩ := s
    obtain ⟨hl, hb, h⟩ := h
    (have f1 := AutoSeq1.idx_int; have f2 := AutoSeq1.sub_tuple_tuple; have f3 := AutoSeq1.sub_list_list; have f4 := AutoSeq1.sub_tuple_list; have f5 := AutoSeq1.sub_list_tuple)
    have zz : (its ++ more).size ≤ sizeLine + 1 := by rw [Array.size_append]; exact z2
    wp_walk using (wpAny_updateSeq hl rfl (hz := z1) (_hz' := zz)), AutoSeq1.wpAny_loadPart' hl, AutoSeq1.wpAny_loadPart' hb
    exact ⟨_, rfl, h⟩
section
variable {X : Cx}
def rExtT (K : PySem.W.Frag) : V → List V → Hp → VK → Prop := fun x vs H Q => ∃ l b xs zs, x = .ref l ∧ vs = [.ref b] ∧ H l = some (.lst xs) ∧ SqT K H b zs ∧ xs.length + zs.length ≤ sizeLine ∧ Q .non (upd H l (.lst (xs ++ zs)))
theorem mt_extT : MtM X "list.extend" (rExtT X.K) := by
  intro pins s σ H x vs v us Q I rx rv h
  obtain ⟨l, b, xs, zs, rfl, rfl, hH, hB, hz, q⟩ := h
  cases rx
  obtain ⟨u, rfl, ru⟩ := rv.one
  cases ru
  obtain ⟨z, its, n, r, hl, e⟩ := I.lstM hH
  obtain ⟨its2, r2, ⟨⟨cls, dd, data, sl⟩, ho, hc, m, hd⟩, hl2⟩ := I.tuple hB
  simp only at hc hd
  subst hc hd
  have l2 := r2.length
  have sz : its.toArray.size + its2.toArray.size ≤ sizeLine := by rw [List.size_toArray, List.size_toArray]; omega
  have ok : ¬ (!its.toArray.isEmpty && Builtin.List.listTooLong (its.toArray.size + its2.toArray.size)) = true := by
    rw [notLongL sz, Bool.and_false]
    exact Bool.false_ne_true
  refine call_meets F.slot_list_extend ⟨_, e, rfl⟩ F.entry_list_extend (F.args_list_extend_2 _ _) (ext_tup l its.toArray n b its2.toArray m dd sl ok (by rw [List.size_toArray]; omega) (by omega)) ⟨e, ho, ?_⟩
  refine ⟨.non, _, I.lset (its' := its ++ its2) hH e (by simp) (r.append r2) (by rw [List.length_append]; omega), rfl, q⟩
end
theorem w_extT {K : PySem.W.Frag} {H : Hp} {Q : VK} {l b : Addr} {xs zs : List V} (h : H l = some (.lst xs)) (h2 : SqT K H b zs) (z : xs.length + zs.length ≤ sizeLine) (q : Q .non (upd H l (.lst (xs ++ zs)))) : rExtT K (.ref l) [.ref b] H Q := ⟨l, b, xs, zs, rfl, rfl, h, h2, z, q⟩
end Ly
set_option Elab.async false
set_option linter.all false
set_option maxRecDepth 100000
set_option maxHeartbeats 2000000
namespace Ly
open PySem PySem.Spec PyProof.Rows L2
/-- one clause: its class, the slot of its name if it has one, its suite -/
structure Cls1 where
  c : Value
  i : Option Nat
  ts : Addr → Value → Option Addr → TS
inductive HdsA (X : Cx) : List ExceptHandler → List Cls1 → Prop
  | nil : HdsA X [] []
  | bare {x : Str} {c : Value} {ts : Addr → Value → Option Addr → TS} {st : Stmt} {su : List Stmt} {np p2 : Pos} {hs : List ExceptHandler} {l : List Cls1} (hc : Names X x c)
      (hsu : ∀ (a : Addr) (oe : Obj) (cls : Value) (d : Option Addr) (pn : List (Addr × Obj)), Zc cls d oe → (∃ vs, oe.data = .fields vs) → PSs (X.suite a ((a, oe) :: pn)) (st :: su) (ts a cls d)) (r : HdsA X hs l) :
      HdsA X (.ExceptHandler (some (.Name x np)) none (st :: su) p2 :: hs) (⟨c, none, ts⟩ :: l)
  | named {x n : Str} {i : Nat} {c : Value} {ts : Addr → Value → Option Addr → TS} {st : Stmt} {su : List Stmt} {np p2 : Pos} {hs : List ExceptHandler} {l : List Cls1} (hi : X.N[i]? = some n) (hln : X.env.kindOf n = some .local) (hc : Names X x c)
      (hsu : ∀ (a : Addr) (oe : Obj) (cls : Value) (d : Option Addr) (pn : List (Addr × Obj)), Zc cls d oe → (∃ vs, oe.data = .fields vs) → PSs (X.suite a ((a, oe) :: pn)) (st :: su) (ts a cls d)) (r : HdsA X hs l) :
      HdsA X (.ExceptHandler (some (.Name x np)) (some n) (st :: su) p2 :: hs) (⟨c, some i, ts⟩ :: l)
section
variable {X : Cx}
end
end Ly
set_option Elab.async false
set_option linter.all false
set_option maxRecDepth 100000
set_option maxHeartbeats 2000000
namespace Ly
open PySem PySem.Spec PyProof.Rows L2
section
variable {X : Cx}
end
end Ly
set_option Elab.async false
set_option linter.all false
set_option maxRecDepth 100000
set_option maxHeartbeats 2000000
namespace Ly
open PySem PySem.Spec PyProof.Rows L2 Evl
def LamV (K : PySem.W.Frag) (H : Hp) (v : V) : Prop := v = .str "lam" ∨ ∃ (a : Addr) (k : Int), v = .ref a ∧ SqT K H a [.str "m", .int k]
def Lk (K : PySem.W.Frag) (H : Hp) (w v : V) : Prop := (w ≠ .str "lam" ∧ v = w) ∨ (w = .str "lam" ∧ LamV K H v)
inductive DcL (K : PySem.W.Frag) (H : Hp) : List V → List V → Prop
  | nil : DcL K H [] []
  | cons {w v : V} {ws vs : List V} (h : Lk K H w v) (r : DcL K H ws vs) : DcL K H (w :: ws) (v :: vs)
section
variable {K : PySem.W.Frag} {H H' : Hp} {zs xs zs2 xs2 : List V}
theorem LamV.ex {v : V} (h : LamV K H v) (e : Ex H H') : LamV K H' v := by
  rcases h with h | ⟨a, k, h, hs⟩
  · exact .inl h
  · exact .inr ⟨a, k, h, ex_t e hs⟩
theorem Lk.ex {w v : V} (h : Lk K H w v) (e : Ex H H') : Lk K H' w v := by
  rcases h with h | ⟨h, hv⟩
  · exact .inl h
  · exact .inr ⟨h, hv.ex e⟩
theorem DcL.ex (h : DcL K H zs xs) (e : Ex H H') : DcL K H' zs xs := by
  induction h with
  | nil => exact .nil
  | cons h _ ih => exact .cons (h.ex e) ih
theorem Lk.self (w : V) : Lk K H w w := by
  by_cases h : w = .str "lam"
  · exact .inr ⟨h, .inl h⟩
  · exact .inl ⟨h, rfl⟩
theorem DcL.self : ∀ zs : List V, DcL K H zs zs
  | [] => .nil
  | w :: ws => .cons (Lk.self w) (DcL.self ws)
theorem DcL.len (h : DcL K H zs xs) : xs.length = zs.length := by
  induction h with
  | nil => rfl
  | cons _ _ ih => simp [ih]
theorem DcL.app (h : DcL K H zs xs) (k : DcL K H zs2 xs2) : DcL K H (zs ++ zs2) (xs ++ xs2) := by
  induction h with
  | nil => exact k
  | cons h _ ih => exact .cons h ih
theorem DcL.drop (h : DcL K H zs xs) : ∀ i, DcL K H (zs.drop i) (xs.drop i) := by
  induction h with
  | nil => intro i; simp; exact .nil
  | cons h r ih =>
    intro i
    cases i with
    | zero => exact .cons h r
    | succ i => exact ih i
theorem DcL.take (h : DcL K H zs xs) : ∀ i, DcL K H (zs.take i) (xs.take i) := by
  induction h with
  | nil => intro i; simp; exact .nil
  | cons h r ih =>
    intro i
    cases i with
    | zero => exact .nil
    | succ i => exact .cons h (ih i)
theorem DcL.get (h : DcL K H zs xs) : ∀ {i : Nat} {w : V}, zs[i]? = some w → ∃ v, xs[i]? = some v ∧ Lk K H w v := by
  induction h with
  | nil => intro i w hw; simp at hw
  | cons h r ih =>
    intro i w hw
    cases i with
    | zero =>
      simp at hw
      subst hw
      exact ⟨_, rfl, h⟩
    | succ i => exact ih (by simpa using hw)
theorem DcL.at (h : DcL K H zs xs) {i : Nat} {v : V} (hv : xs[i]? = some v) : ∃ w, zs[i]? = some w ∧ Lk K H w v := by
  have hl := (List.getElem?_eq_some_iff.mp hv).1
  rw [h.len] at hl
  obtain ⟨v2, h2, lk⟩ := h.get (List.getElem?_eq_getElem hl)
  rw [hv] at h2
  cases h2
  exact ⟨_, List.getElem?_eq_getElem hl, lk⟩
theorem sqt_keep {l a : Addr} {ys zs2 ws : List V} (h : H l = some (.lst ys)) (hs : SqT K H a ws) : SqT K (upd H l (.lst zs2)) a ws := by
  rcases hs with (g | ⟨ob, g⟩) | g
  · exact .inl (.inl (by rw [upd_ne (fun z => by rw [z, h] at g; cases g)]; exact g))
  · exact .inl (.inr ⟨ob, by rw [upd_ne (fun z => by rw [z, h] at g; cases g)]; exact g⟩)
  · exact .inr g
/-- a node of a marked term -/
theorem Lk.cases {w v : V} (h : Lk K H w v) (n : (∃ m : Nat, w = .int m) ∨ w = .str "lam" ∨ w = .str "app") :
    (∃ m : Nat, w = .int m ∧ v = .int m) ∨ (w = .str "app" ∧ v = .str "app") ∨ (w = .str "lam" ∧ v = .str "lam") ∨ (w = .str "lam" ∧ ∃ (a : Addr) (k : Int), v = .ref a ∧ SqT K H a [.str "m", .int k]) := by
  rcases n with ⟨m, rfl⟩ | rfl | rfl
  · rcases h with ⟨_, rfl⟩ | ⟨h, _⟩
    · exact .inl ⟨m, rfl, rfl⟩
    · cases h
  · rcases h with ⟨h, _⟩ | ⟨_, h | ⟨a, k, h, hs⟩⟩
    · exact absurd rfl h
    · exact .inr (.inr (.inl ⟨rfl, h⟩))
    · exact .inr (.inr (.inr ⟨rfl, a, k, h, hs⟩))
  · rcases h with ⟨_, rfl⟩ | ⟨h, _⟩
    · exact .inr (.inl ⟨rfl, rfl⟩)
    · exact absurd h (by simp [str_ne2])
def markD (k : Int) : PyData := .tuple [.str "m", .int k]
theorem mark_dp {k : Int} : DpAll K H [V.str "m", V.int k] [.str "m", .int k] := .cons (.str _) (.cons (.int k) .nil)
end
def segs (u : Tm) (ys : List V) (v : V) (d : Nat) : List V := match v with
  | .int n => if n < d then [.int n] else if n = d then List.zipWith (vm (lif d)) ys (u.deps 0) else [.int (n - 1)]
  | v => [v]
end Ly
set_option Elab.async false
set_option linter.all false
set_option maxRecDepth 100000
set_option maxHeartbeats 2000000
namespace Ly
open PySem PySem.Spec PyProof.Rows L2 Evl
theorem Tm.lif_then2 (m k : Nat) : ∀ (v : Tm) (d c : Nat), d ≤ c → c ≤ d + m → (v.vmap (lif m) d).vmap (lif k) c = v.vmap (lif (m + k)) d
  | .var n, d, c, h1, h2 => by
    simp only [Tm.vmap, lif]
    congr 1
    split <;> split <;> omega
  | .lam b, d, c, h1, h2 => by
    simp only [Tm.vmap]
    rw [Tm.lif_then2 m k b (d + 1) (c + 1) (by omega) (by omega)]
  | .app f a, d, c, h1, h2 => by simp only [Tm.vmap, Tm.lif_then2 m k f d c h1 h2, Tm.lif_then2 m k a d c h1 h2]
theorem Tm.put_lif2 (w : Tm) (n : Nat) : ∀ (v : Tm) (c m : Nat), c ≤ m → m ≤ c + n → Tm.put w m (v.vmap (lif (n + 1)) c) = v.vmap (lif n) c
  | .var i, c, m, h1, h2 => by
    simp only [Tm.vmap, lif]
    by_cases h : c ≤ i
    · rw [if_pos h, if_pos h]
      simp only [Tm.put]
      rw [if_neg (by omega), if_neg (by omega)]
      congr 1
    · rw [if_neg h, if_neg h]
      simp only [Tm.put]
      rw [if_pos (by omega)]
  | .lam b, c, m, h1, h2 => by
    simp only [Tm.vmap, Tm.put]
    rw [Tm.put_lif2 w n b (c + 1) (m + 1) (by omega) (by omega)]
  | .app f a, c, m, h1, h2 => by simp only [Tm.vmap, Tm.put, Tm.put_lif2 w n f c m h1 h2, Tm.put_lif2 w n a c m h1 h2]
theorem Tm.put_up2 (v : Tm) (k : Nat) : ∀ (u : Tm) (c m : Nat), c ≤ m → Tm.put v (m + k) (u.vmap (lif k) c) = (Tm.put v m u).vmap (lif k) c
  | .var n, c, m, h => by
    simp only [Tm.vmap, lif]
    rcases Nat.lt_trichotomy n m with g | g | g
    · simp only [Tm.put]
      rw [if_pos g]
      simp only [Tm.vmap, lif]
      by_cases hc : c ≤ n
      · rw [if_pos hc, if_pos (by omega)]
      · rw [if_neg hc, if_pos (by omega)]
    · subst g
      rw [if_pos h]
      simp only [Tm.put]
      rw [if_neg (by omega), if_pos trivial, if_neg (by omega), if_pos trivial]
      exact (Tm.lif_then2 n k v 0 c (Nat.zero_le _) (by omega)).symm
    · rw [if_pos (by omega)]
      simp only [Tm.put]
      rw [if_neg (by omega), if_neg (by omega), if_neg (by omega), if_neg (by omega)]
      simp only [Tm.vmap, lif]
      rw [if_pos (by omega)]
      congr 1
      omega
  | .lam b, c, m, h => by
    have ih := Tm.put_up2 v k b (c + 1) (m + 1) (by omega)
    simp only [Tm.vmap, Tm.put]
    rw [show m + k + 1 = m + 1 + k by omega, ih]
  | .app f a, c, m, h => by simp only [Tm.vmap, Tm.put, Tm.put_up2 v k f c m h, Tm.put_up2 v k a c m h]
/-- putting at k beneath putting at j -/
theorem Tm.put_put2 (u v : Tm) (k : Nat) : ∀ (t : Tm) (j : Nat), Tm.put v (j + k) (Tm.put u j t) = Tm.put (Tm.put v k u) j (Tm.put v (j + k + 1) t)
  | .var n, j => by
    rcases Nat.lt_trichotomy n j with h | h | h
    · simp only [Tm.put]
      rw [if_pos h, if_pos (by omega)]
      simp only [Tm.put]
      rw [if_pos h, if_pos (by omega)]
    · subst h
      simp only [Tm.put]
      rw [if_neg (by omega), if_pos trivial, if_pos (by omega)]
      simp only [Tm.put]
      rw [if_neg (by omega), if_pos trivial]
      rw [Nat.add_comm]
      exact Tm.put_up2 v n u 0 k (Nat.zero_le _)
    · rcases Nat.lt_trichotomy n (j + k + 1) with g | g | g
      · simp only [Tm.put]
        rw [if_neg (by omega), if_neg (by omega), if_pos g]
        simp only [Tm.put]
        rw [if_pos (by omega), if_neg (by omega), if_neg (by omega)]
      · subst g
        simp only [Tm.put]
        rw [if_neg (by omega), if_neg (by omega), if_neg (by omega), if_pos trivial]
        simp only [Tm.put]
        rw [if_neg (by omega), if_pos (by omega)]
        exact (Tm.put_lif2 _ (j + k) v 0 j (Nat.zero_le _) (by omega)).symm
      · simp only [Tm.put]
        rw [if_neg (by omega), if_neg (by omega), if_neg (by omega), if_neg (by omega)]
        simp only [Tm.put]
        rw [if_neg (by omega), if_neg (by omega), if_neg (by omega), if_neg (by omega)]
  | .lam b, j => by
    have ih := Tm.put_put2 u v k b (j + 1)
    simp only [Tm.put]
    rw [show j + k + 1 = j + 1 + k by omega, ih]
  | .app f a, j => by simp only [Tm.put, Tm.put_put2 u v k f, Tm.put_put2 u v k a]
def Tm.fr : Nat → Tm → Nat → Prop
  | d, .var n, j => n = d + j
  | d, .lam b, j => b.fr (d + 1) j
  | d, .app f a, j => f.fr d j ∨ a.fr d j
end Ly
set_option Elab.async false
set_option linter.all false
set_option maxRecDepth 100000
set_option maxHeartbeats 2000000
namespace Ly
open PySem PySem.Spec PyProof.Rows L2 Evl
/-- the marks of the nodes: those of where they come from -/
def dO (g : Nat → V) (zs : List V) (os : List Nat) : List V := List.zipWith (fun w o => if w = V.str "lam" then g o else w) zs os
/-- where the nodes of a put term come from -/
def pO (O2 : List Nat) : List V → List Nat → List Nat → List Nat
  | w :: ws, d :: ds, o :: os => (if w = .int (d : Int) then O2 else [o]) ++ pO O2 ws ds os
  | _, _, _ => []
theorem pO_app (O2 : List Nat) : ∀ {ws ws' : List V} {ds ds' os os' : List Nat}, ds.length = ws.length → os.length = ws.length → pO O2 (ws ++ ws') (ds ++ ds') (os ++ os') = pO O2 ws ds os ++ pO O2 ws' ds' os'
  | [], _, [], _, [], _, _, _ => rfl
  | w :: ws, ws', d :: ds, ds', o :: os, os', h1, h2 => by
    have ih := pO_app O2 (ws := ws) (ws' := ws') (ds := ds) (ds' := ds') (os := os) (os' := os') (by simpa using h1) (by simpa using h2)
    simp only [List.cons_append, pO, ih, List.append_assoc]
  | [], _, _ :: _, _, _, _, h1, _ => by simp at h1
  | [], _, [], _, _ :: _, _, _, h2 => by simp at h2
  | _ :: _, _, [], _, _, _, h1, _ => by simp at h1
  | _ :: _, _, _ :: _, _, [], _, _, h2 => by simp at h2
theorem pO_map (f : Nat → Nat) (O2 : List Nat) : ∀ (ws : List V) (ds os : List Nat), (pO O2 ws ds os).map f = pO (O2.map f) ws ds (os.map f)
  | [], _, _ => by simp [pO]
  | _ :: _, [], _ => by simp [pO]
  | _ :: _, _ :: _, [] => by simp [pO]
  | w :: ws, d :: ds, o :: os => by
    simp only [pO, List.map_append, List.map_cons, pO_map f O2 ws ds os]
    split <;> rfl
theorem dO_vm {g : Nat → V} (hg : ∀ o n, g o ≠ .int n) (c : Nat) : ∀ {zs : List V} {os ds : List Nat}, List.zipWith (vm (lif c)) (dO g zs os) ds = dO g (List.zipWith (vm (lif c)) zs ds) os
  | [], _, _ => by simp [dO]
  | _ :: _, [], _ => by simp [dO]
  | _ :: _, _ :: _, [] => by simp [dO]
  | w :: ws, o :: os, d :: ds => by
    have ih := dO_vm hg c (zs := ws) (os := os) (ds := ds)
    unfold dO at ih ⊢
    simp only [List.zipWith_cons_cons, ih]
    congr 1
    by_cases h : w = .str "lam"
    · rw [if_pos h, h]
      have e1 : vm (lif c) (.str "lam") d = .str "lam" := rfl
      rw [e1, if_pos rfl]
      unfold vm
      split
      · rename_i n hn
        exact absurd hn (hg o n)
      · rfl
    · rw [if_neg h, if_neg]
      cases w with
      | int n => simp [vm]
      | _ => exact h
theorem seg_same {u : Tm} {g : Nat → V} (hg : ∀ o n, g o ≠ .int n) {O2 : List Nat} (h2 : O2.length = u.enc.length) {w : V} {d o : Nat} (n : (∃ m : Nat, w = .int m) ∨ w = .str "lam" ∨ w = .str "app") :
    segs u (dO g u.enc O2) (if w = V.str "lam" then g o else w) d = dO g (pvs u w d) (if w = .int (d : Int) then O2 else [o]) ∧ (pvs u w d).length = (if w = .int (d : Int) then O2 else [o]).length := by
  rcases n with ⟨m, rfl⟩ | rfl | rfl
  · rw [if_neg (by simp)]
    rcases Nat.lt_trichotomy m d with h | h | h
    · rw [pvs_low h, if_neg (by simp; omega)]
      simp only [segs]
      rw [if_pos (by omega)]
      exact ⟨by simp [dO], rfl⟩
    · subst h
      rw [pvs_at, if_pos rfl]
      simp only [segs]
      rw [if_neg (by omega), if_pos trivial, dO_vm hg, Tm.enc_vmap]
      refine ⟨rfl, ?_⟩
      rw [List.length_zipWith, Tm.deps_len, h2]
      omega
    · rw [pvs_high h, if_neg (by simp; omega)]
      simp only [segs]
      rw [if_neg (by omega), if_neg (by omega)]
      exact ⟨by simp [dO], rfl⟩
  · rw [if_pos rfl, if_neg (by simp)]
    refine ⟨?_, rfl⟩
    have e : segs u (dO g u.enc O2) (g o) d = [g o] := by
      unfold segs
      split
      · rename_i k hk
        exact absurd hk (hg o k)
      · rfl
    rw [e]
    simp [dO, pvs]
  · rw [if_neg (by simp [str_ne2]), if_neg (by simp)]
    refine ⟨?_, rfl⟩
    simp [dO, pvs, segs, str_ne2]
/-- where the nodes behind a step come from -/
def stepO (t : Tm) (i : Nat) (b u : Tm) : List Nat :=
  List.range' 0 i ++ pO (List.range' (i + 2 + b.enc.length) u.enc.length) b.enc (b.deps 0) (List.range' (i + 2) b.enc.length) ++ List.range' (i + 2 + b.enc.length + u.enc.length) (t.enc.length - (i + 2 + b.enc.length + u.enc.length))
theorem pO_len {u : Tm} {O2 : List Nat} (h2 : O2.length = u.enc.length) : ∀ {zs : List V} {ds os : List Nat}, (∀ w ∈ zs, (∃ m : Nat, w = .int m) ∨ w = .str "lam" ∨ w = .str "app") → ds.length = zs.length → os.length = zs.length → (List.zipWith (pvs u) zs ds).flatten.length = (pO O2 zs ds os).length
  | [], _, _, _, _, _ => by simp [pO]
  | w :: ws, d :: ds, o :: os, n, h3, h4 => by
    have ih := pO_len h2 (zs := ws) (ds := ds) (os := os) (fun w hw => n w (List.mem_cons_of_mem _ hw)) (by simpa using h3) (by simpa using h4)
    obtain ⟨_, s2⟩ := seg_same (u := u) (g := fun _ => .str "lam") (by simp) h2 (w := w) (d := d) (o := o) (n w List.mem_cons_self)
    rw [List.zipWith_cons_cons, List.flatten_cons, List.length_append, ih, s2]
    simp [pO]
  | _ :: _, [], _, _, h3, _ => by simp at h3
  | _ :: _, _ :: _, [], _, _, h4 => by simp at h4
inductive Chn (R : Nat → Nat → Prop) : List Nat → Prop
  | nil : Chn R []
  | one (x : Nat) : Chn R [x]
  | cons {x y : Nat} {r : List Nat} (h : R x y) (c : Chn R (y :: r)) : Chn R (x :: y :: r)
theorem Chn.app {R : Nat → Nat → Prop} {l1 : List Nat} (h1 : Chn R l1) : ∀ {l2 : List Nat}, Chn R l2 → (∀ x y, l1.getLast? = some x → l2.head? = some y → R x y) → Chn R (l1 ++ l2) := by
  induction h1 with
  | nil => intro l2 h2 _; exact h2
  | one x =>
    intro l2 h2 hj
    cases l2 with
    | nil => exact .one x
    | cons y r => exact .cons (hj x y rfl rfl) h2
  | cons h c ih =>
    intro l2 h2 hj
    exact .cons h (ih h2 fun x y hx hy => hj x y (by rw [List.getLast?_cons_cons]; exact hx) hy)
theorem Chn.at {R : Nat → Nat → Prop} {l : List Nat} (h : Chn R l) : ∀ {j x y : Nat}, l[j]? = some x → l[j + 1]? = some y → R x y := by
  induction h with
  | nil => intro j x y hx; simp at hx
  | one z => intro j x y hx hy; simp at hy
  | cons h c ih =>
    intro j x y hx hy
    cases j with
    | zero =>
      simp at hx hy
      rw [← hx, ← hy]
      exact h
    | succ j => exact ih (by simpa using hx) (by simpa using hy)
theorem Chn.range {R : Nat → Nat → Prop} (h : ∀ x, R x (x + 1)) : ∀ n s, Chn R (List.range' s n)
  | 0, _ => .nil
  | 1, s => .one s
  | n + 2, s => by
    have := Chn.range h (n + 1) (s + 1)
    rw [List.range'_succ]
    rw [List.range'_succ] at this ⊢
    exact .cons (h s) this
def isI (zs : List V) (i : Nat) : Prop := ∃ n : Int, zs[i]? = some (.int n)
def PN (zs : List V) (a x y : Nat) : Prop := y = x + 1 ∨ ((isI zs x ∨ x + 1 = a ∨ isI zs (x + 1)) ∧ ∃ z, y = z + 1 ∧ (isI zs z ∨ z = a + 1))
theorem last_int : ∀ (u : Tm) (zs post : List V) (s : Nat), zs.drop s = u.enc ++ post → isI zs (s + u.enc.length - 1)
  | .var n, zs, post, s, h => by
    have := (drop_get (v := .int n) (r := post) (by rw [h]; rfl)).1
    exact ⟨n, this⟩
  | .lam b, zs, post, s, h => by
    have h1 := (drop_get (v := .str "lam") (r := b.enc ++ post) (by rw [h]; simp [Tm.enc])).2
    have := last_int b zs post (s + 1) h1
    have pos := List.length_pos_iff.mpr b.enc_ne
    have e : s + (Tm.lam b).enc.length - 1 = s + 1 + b.enc.length - 1 := by
      simp only [Tm.enc, List.length_cons]
      omega
    rw [e]
    exact this
  | .app f a, zs, post, s, h => by
    have h1 := (drop_get (v := .str "app") (r := f.enc ++ (a.enc ++ post)) (by rw [h]; simp [Tm.enc])).2
    have h2 : zs.drop (s + 1 + f.enc.length) = a.enc ++ post := by rw [← List.drop_drop, h1, List.drop_left]
    have := last_int a zs post _ h2
    have e : s + (Tm.app f a).enc.length - 1 = s + 1 + f.enc.length + a.enc.length - 1 := by
      simp only [Tm.enc, List.length_cons, List.length_append]
      omega
    rw [e]
    exact this
/-- the kinds of a node and of where it comes from -/
inductive KO (zs : List V) : List V → List Nat → Prop
  | nil : KO zs [] []
  | cons {w : V} {o : Nat} {ws : List V} {os : List Nat} (h : (zs[o]? = some (.str "app") ↔ w = .str "app") ∧ (zs[o]? = some (.str "lam") ↔ w = .str "lam") ∧ o < zs.length) (r : KO zs ws os) : KO zs (w :: ws) (o :: os)
theorem KO.app {zs ws ws' : List V} {os os' : List Nat} (h : KO zs ws os) (k : KO zs ws' os') : KO zs (ws ++ ws') (os ++ os') := by
  induction h with
  | nil => exact k
  | cons h _ ih => exact .cons h ih
theorem KO.len {zs ws : List V} {os : List Nat} (h : KO zs ws os) : os.length = ws.length := by
  induction h with
  | nil => rfl
  | cons _ _ ih => simp [ih]
theorem KO.at {zs ws : List V} {os : List Nat} (h : KO zs ws os) : ∀ {j o : Nat}, os[j]? = some o → ∃ w, ws[j]? = some w ∧ (zs[o]? = some (.str "app") ↔ w = .str "app") ∧ (zs[o]? = some (.str "lam") ↔ w = .str "lam") ∧ o < zs.length := by
  induction h with
  | nil => intro j o ho; simp at ho
  | cons h _ ih =>
    intro j o ho
    cases j with
    | zero =>
      simp at ho
      subst ho
      exact ⟨_, rfl, h⟩
    | succ j => exact ih (by simpa using ho)
theorem KO.same {zs : List V} : ∀ (ws post : List V) (s : Nat), zs.drop s = ws ++ post → KO zs ws (List.range' s ws.length)
  | [], _, _, _ => .nil
  | w :: ws, post, s, h => by
    obtain ⟨h1, h2⟩ := drop_get (v := w) (r := ws ++ post) (by rw [h]; rfl)
    rw [List.length_cons, List.range'_succ]
    exact .cons ⟨by rw [h1]; simp, by rw [h1]; simp, (List.getElem?_eq_some_iff.mp h1).1⟩ (KO.same ws post (s + 1) h2)
theorem KO.vm {zs : List V} {c : Nat} {ws : List V} {os : List Nat} (h : KO zs ws os) : ∀ ds : List Nat, ds.length = ws.length → KO zs (List.zipWith (Ly.vm (lif c)) ws ds) os := by
  induction h with
  | nil => intro ds _; simp; exact .nil
  | @cons w o ws os h _ ih =>
    intro ds hd
    cases ds with
    | nil => simp at hd
    | cons d ds =>
      rw [List.zipWith_cons_cons]
      refine .cons ?_ (ih ds (by simpa using hd))
      have e : ∀ x : Str, Ly.vm (lif c) w d = .str x ↔ w = .str x := fun x => by
        cases w <;> simp [Ly.vm]
      exact ⟨by rw [e]; exact h.1, by rw [e]; exact h.2.1, h.2.2⟩
theorem last_app {l1 l2 : List Nat} (h : l2 ≠ []) : (l1 ++ l2).getLast? = l2.getLast? := by
  obtain ⟨r, x, rfl⟩ : ∃ r x, l2 = r ++ [x] := ⟨_, _, (List.dropLast_concat_getLast h).symm⟩
  rw [← List.append_assoc]
  simp
theorem pO_var {O2 : List Nat} (n d s : Nat) : pO O2 (Tm.var n).enc ((Tm.var n).deps d) (List.range' s 1) = if n = d then O2 else [s] := by
  simp only [Tm.enc, Tm.deps, List.range'_succ, pO, List.range'_zero]
  by_cases h : n = d
  · subst h
    simp
  · rw [if_neg (by simp; omega), if_neg h]
    simp
theorem pO_lam {O2 : List Nat} (b : Tm) (d s : Nat) : pO O2 (Tm.lam b).enc ((Tm.lam b).deps d) (List.range' s (Tm.lam b).enc.length) = s :: pO O2 b.enc (b.deps (d + 1)) (List.range' (s + 1) b.enc.length) := by
  simp only [Tm.enc, Tm.deps, List.length_cons, List.range'_succ, pO]
  rw [if_neg (by simp)]
  rfl
theorem pO_appT {O2 : List Nat} (f a : Tm) (d s : Nat) : pO O2 (Tm.app f a).enc ((Tm.app f a).deps d) (List.range' s (Tm.app f a).enc.length) = s :: (pO O2 f.enc (f.deps d) (List.range' (s + 1) f.enc.length) ++ pO O2 a.enc (a.deps d) (List.range' (s + 1 + f.enc.length) a.enc.length)) := by
  simp only [Tm.enc, Tm.deps, List.length_cons, List.length_append, List.range'_succ, pO]
  rw [if_neg (by simp), ← pO_app O2 (by rw [Tm.deps_len]) (by simp)]
  congr 2
  have := List.range'_append (s := s + 1) (m := f.enc.length) (n := a.enc.length) (step := 1)
  rw [Nat.one_mul] at this
  rw [this]
  rfl
theorem pO_ok {zs : List V} {a m : Nat} {u : Tm} {post2 : List V} (hu : zs.drop m = u.enc ++ post2) (hm : 1 ≤ m) (hmi : isI zs (m - 1)) : ∀ (b : Tm) (d s : Nat) (post : List V), zs.drop s = b.enc ++ post →
    Chn (PN zs a) (pO (List.range' m u.enc.length) b.enc (b.deps d) (List.range' s b.enc.length)) ∧
    (∃ h r, pO (List.range' m u.enc.length) b.enc (b.deps d) (List.range' s b.enc.length) = h :: r ∧ (h = s ∨ (h = m ∧ isI zs s))) ∧
    (∃ l, (pO (List.range' m u.enc.length) b.enc (b.deps d) (List.range' s b.enc.length)).getLast? = some l ∧ isI zs l) ∧
    KO zs (Tm.put u d b).enc (pO (List.range' m u.enc.length) b.enc (b.deps d) (List.range' s b.enc.length))
  | .var n, d, s, post, h => by
    have h0 := (drop_get (v := .int n) (r := post) (by rw [h]; rfl)).1
    have hl : (Tm.var n).enc.length = 1 := rfl
    have upos := List.length_pos_iff.mpr u.enc_ne
    rw [hl, pO_var]
    by_cases e : n = d
    · rw [if_pos e]
      obtain ⟨k, hk⟩ : ∃ k, u.enc.length = k + 1 := ⟨u.enc.length - 1, by omega⟩
      refine ⟨Chn.range (fun x => .inl rfl) _ _, ⟨m, _, by rw [hk, List.range'_succ], .inr ⟨rfl, n, h0⟩⟩, ⟨m + u.enc.length - 1, ?_, last_int u zs post2 m hu⟩, ?_⟩
      · rw [List.getLast?_eq_getElem?, List.length_range', List.getElem?_range' (by omega)]
        congr 1
        omega
      · have : (Tm.put u d (.var n)).enc = (u.vmap (lif d) 0).enc := by
          simp only [Tm.put]
          rw [if_neg (by omega), if_pos e]
        rw [this, Tm.enc_vmap]
        exact KO.vm (KO.same u.enc post2 m hu) _ (by rw [Tm.deps_len])
    · rw [if_neg e]
      refine ⟨.one s, ⟨s, [], rfl, .inl rfl⟩, ⟨s, rfl, n, h0⟩, ?_⟩
      have : ∃ k : Nat, (Tm.put u d (.var n)).enc = [V.int (k : Int)] := by
        simp only [Tm.put]
        by_cases g : n < d
        · rw [if_pos g]
          exact ⟨n, rfl⟩
        · rw [if_neg g, if_neg e]
          exact ⟨n - 1, rfl⟩
      obtain ⟨k, hk⟩ := this
      rw [hk]
      exact .cons ⟨by rw [h0]; simp, by rw [h0]; simp, (List.getElem?_eq_some_iff.mp h0).1⟩ .nil
  | .lam b, d, s, post, h => by
    obtain ⟨h0, h1⟩ := drop_get (v := .str "lam") (r := b.enc ++ post) (by rw [h]; simp [Tm.enc])
    obtain ⟨c, ⟨x, r, hx, hh⟩, ⟨l, hl, hi⟩, ko⟩ := pO_ok (a := a) hu hm hmi b (d + 1) (s + 1) post h1
    rw [pO_lam]
    refine ⟨?_, ⟨s, _, rfl, .inl rfl⟩, ⟨l, ?_, hi⟩, ?_⟩
    · rw [hx] at c ⊢
      refine .cons ?_ c
      rcases hh with rfl | ⟨rfl, hs⟩
      · exact .inl rfl
      · exact .inr ⟨.inr (.inr hs), x - 1, by omega, .inl hmi⟩
    · rw [hx] at hl ⊢
      rw [List.getLast?_cons_cons]
      exact hl
    · exact .cons ⟨by rw [h0]; simp [str_ne1], by rw [h0]; simp, (List.getElem?_eq_some_iff.mp h0).1⟩ ko
  | .app f g, d, s, post, h => by
    obtain ⟨h0, h1⟩ := drop_get (v := .str "app") (r := f.enc ++ (g.enc ++ post)) (by rw [h]; simp [Tm.enc])
    have h2 : zs.drop (s + 1 + f.enc.length) = g.enc ++ post := by rw [← List.drop_drop, h1, List.drop_left]
    obtain ⟨c, ⟨x, r, hx, hh⟩, ⟨l, hl, hi⟩, ko⟩ := pO_ok (a := a) hu hm hmi f d (s + 1) (g.enc ++ post) h1
    obtain ⟨c', ⟨x', r', hx', hh'⟩, ⟨l', hl', hi'⟩, ko'⟩ := pO_ok (a := a) hu hm hmi g d (s + 1 + f.enc.length) post h2
    have lf := last_int f zs (g.enc ++ post) (s + 1) h1
    have fpos := List.length_pos_iff.mpr f.enc_ne
    rw [pO_appT]
    have cc := c.app c' (fun y z hy hz => by
      rw [hl] at hy
      cases hy
      rw [hx'] at hz
      cases hz
      refine .inr ⟨.inl hi, ?_⟩
      rcases hh' with rfl | ⟨rfl, _⟩
      · exact ⟨s + f.enc.length, by omega, .inl (by rwa [show s + 1 + f.enc.length - 1 = s + f.enc.length by omega] at lf)⟩
      · exact ⟨x' - 1, by omega, .inl hmi⟩)
    refine ⟨?_, ⟨s, _, rfl, .inl rfl⟩, ⟨l', ?_, hi'⟩, ?_⟩
    · rw [hx] at cc ⊢
      rw [List.cons_append] at cc ⊢
      refine .cons ?_ cc
      rcases hh with rfl | ⟨rfl, hs⟩
      · exact .inl rfl
      · exact .inr ⟨.inr (.inr hs), x - 1, by omega, .inl hmi⟩
    · rw [hx, hx'] at *
      rw [← List.cons_append, last_app (by simp)]
      exact hl'
    · exact .cons ⟨by rw [h0]; simp, by rw [h0]; simp [str_ne2], (List.getElem?_eq_some_iff.mp h0).1⟩ (ko.app ko')
/-- where the nodes behind a step come from: node by node, and which kinds -/
theorem stepO_ok {t : Tm} {p : List Nat} {a : Nat} {b u : Tm} (hred : t.Red p a b u) : Chn (PN t.enc a) (stepO t a b u) ∧ (∃ l, (stepO t a b u).getLast? = some l ∧ isI t.enc l) ∧ KO t.enc (t.step p).enc (stepO t a b u) := by
  obtain ⟨post, hdr⟩ := Tm.red_at hred
  have lt := Tm.sub_lt hred
  have hal : (Tm.app (.lam b) u).enc.length = b.enc.length + u.enc.length + 2 := by
    simp only [Tm.enc, List.length_cons, List.length_append]
    omega
  rw [hal] at lt
  obtain ⟨g0, d1⟩ := drop_get hdr
  obtain ⟨g1, d2⟩ := drop_get d1
  have d3 : t.enc.drop (a + 2 + b.enc.length) = u.enc ++ post := by
    rw [← List.drop_drop, show t.enc.drop (a + 2) = t.enc.drop (a + 1 + 1) from rfl, d2, List.drop_left]
  have d4 : t.enc.drop (a + 2 + b.enc.length + u.enc.length) = post := by
    rw [← List.drop_drop, d3, List.drop_left]
  have bpos := List.length_pos_iff.mpr b.enc_ne
  have upos := List.length_pos_iff.mpr u.enc_ne
  have lb := last_int b t.enc (u.enc ++ post) (a + 2) d2
  have lu := last_int u t.enc post (a + 2 + b.enc.length) d3
  have lt2 := last_int t t.enc [] 0 (by simp)
  obtain ⟨c, ⟨x, r, hx, hh⟩, ⟨l, hl, hi⟩, ko⟩ := pO_ok (zs := t.enc) (a := a) (m := a + 2 + b.enc.length) (u := u) d3 (by omega) (by rw [show a + 2 + b.enc.length - 1 = a + 2 + b.enc.length - 1 from rfl]; exact lb) b 0 (a + 2) (u.enc ++ post) d2
  have hne : pO (List.range' (a + 2 + b.enc.length) u.enc.length) b.enc (b.deps 0) (List.range' (a + 2) b.enc.length) ≠ [] := by rw [hx]; simp
  have cpre := (Chn.range (R := PN t.enc a) (fun x => .inl rfl) a 0).app c (fun y z hy hz => by
    rw [hx] at hz
    cases hz
    have hya : y + 1 = a := by
      rw [List.getLast?_eq_getElem?, List.length_range'] at hy
      have := (List.getElem?_eq_some_iff.mp hy)
      obtain ⟨h1, h2⟩ := this
      rw [List.getElem_range'] at h2
      rw [List.length_range'] at h1
      omega
    refine .inr ⟨.inr (.inl hya), ?_⟩
    rcases hh with rfl | ⟨rfl, _⟩
    · exact ⟨a + 1, rfl, .inr rfl⟩
    · exact ⟨a + 2 + b.enc.length - 1, by omega, .inl lb⟩)
  have lastpre : (List.range' 0 a ++ pO (List.range' (a + 2 + b.enc.length) u.enc.length) b.enc (b.deps 0) (List.range' (a + 2) b.enc.length)).getLast? = some l := by
    rw [last_app hne]
    exact hl
  have call := cpre.app (Chn.range (R := PN t.enc a) (fun x => .inl rfl) (t.enc.length - (a + 2 + b.enc.length + u.enc.length)) (a + 2 + b.enc.length + u.enc.length)) (fun y z hy hz => by
    rw [lastpre] at hy
    cases hy
    refine .inr ⟨.inl hi, a + 2 + b.enc.length + u.enc.length - 1, ?_, .inl lu⟩
    cases hk : t.enc.length - (a + 2 + b.enc.length + u.enc.length) with
    | zero => rw [hk] at hz; simp at hz
    | succ k =>
      rw [hk, List.range'_succ] at hz
      cases hz
      omega)
  refine ⟨call, ?_, ?_⟩
  · by_cases hk : t.enc.length - (a + 2 + b.enc.length + u.enc.length) = 0
    · refine ⟨l, ?_, hi⟩
      unfold stepO
      rw [hk, List.range'_zero, List.append_nil]
      exact lastpre
    · refine ⟨t.enc.length - 1, ?_, by rwa [Nat.zero_add] at lt2⟩
      unfold stepO
      rw [last_app (by simp; omega), List.getLast?_eq_getElem?, List.length_range', List.getElem?_range' (by omega)]
      congr 1
      omega
  · unfold stepO
    rw [Tm.step_enc hred]
    have k1 : KO t.enc (t.enc.take a) (List.range' 0 a) := by
      have := KO.same (zs := t.enc) (t.enc.take a) (t.enc.drop a) 0 (by simp)
      rw [List.length_take, Nat.min_eq_left (by omega)] at this
      exact this
    have k3 : KO t.enc (t.enc.drop (a + 2 + b.enc.length + u.enc.length)) (List.range' (a + 2 + b.enc.length + u.enc.length) (t.enc.length - (a + 2 + b.enc.length + u.enc.length))) := by
      have := KO.same (zs := t.enc) (t.enc.drop (a + 2 + b.enc.length + u.enc.length)) [] (a + 2 + b.enc.length + u.enc.length) (by simp)
      rw [List.length_drop] at this
      exact this
    exact (k1.app ko).app k3
end Ly
set_option Elab.async false
set_option linter.all false
set_option maxRecDepth 100000
set_option maxHeartbeats 2000000
namespace Ly
open PySem PySem.Spec PyProof.Rows L2 Evl
structure Mv where
  t : Tm
  p : List Nat
  i : Nat
  b : Tm
  u : Tm
def Mv.ok (m : Mv) : Prop := m.t.Red m.p m.i m.b m.u
def Mv.O (m : Mv) : List Nat := stepO m.t m.i m.b m.u
def Mv.nx (m : Mv) : Tm := m.t.step m.p
/-- a road's moves, from t on, to v -/
inductive Run : Tm → List (List Nat) → List Mv → Tm → Prop
  | nil {t : Tm} : Run t [] [] t
  | cons {t v : Tm} {p : List Nat} {i : Nat} {b u : Tm} {r : List (List Nat)} {ms : List Mv} (h : t.Red p i b u) (hf : fitsV (t.step p).enc = true) (hr : Run (t.step p) r ms v) : Run t (p :: r) (⟨t, p, i, b, u⟩ :: ms) v
theorem Run.snoc {t v : Tm} {r : List (List Nat)} {ms : List Mv} (h : Run t r ms v) {p : List Nat} {i : Nat} {b u : Tm} (hp : v.Red p i b u) (hf : fitsV (v.step p).enc = true) : Run t (r ++ [p]) (ms ++ [⟨v, p, i, b, u⟩]) (v.step p) := by
  induction h with
  | nil => exact .cons hp hf .nil
  | cons h hf2 _ ih => exact .cons h hf2 (ih hp hf)
theorem Run.len {t v : Tm} {r : List (List Nat)} {ms : List Mv} (h : Run t r ms v) : ms.length = r.length := by
  induction h with
  | nil => rfl
  | cons _ _ _ ih => simp [ih]
theorem pO_mem {O2 : List Nat} {o : Nat} : ∀ {ws : List V} {ds os : List Nat}, o ∈ pO O2 ws ds os → o ∈ O2 ∨ o ∈ os
  | [], _, _, h => by simp [pO] at h
  | _ :: _, [], _, h => by simp [pO] at h
  | _ :: _, _ :: _, [], h => by simp [pO] at h
  | w :: ws, d :: ds, x :: os, h => by
    simp only [pO] at h
    rcases List.mem_append.mp h with h | h
    · split at h
      · exact .inl h
      · rw [List.mem_singleton.mp h]
        exact .inr List.mem_cons_self
    · rcases pO_mem h with h | h
      · exact .inl h
      · exact .inr (List.mem_cons_of_mem _ h)
/-- where a node comes from, some moves before -/
def back : List Mv → Nat → Nat
  | [], x => x
  | m :: ms, x => m.O.getD (back ms x) 0
theorem back_app : ∀ (ms : List Mv) (m : Mv) (x : Nat), back (ms ++ [m]) x = back ms (m.O.getD x 0)
  | [], _, _ => rfl
  | n :: ms, m, x => by
    show n.O.getD (back (ms ++ [m]) x) 0 = n.O.getD (back ms _) 0
    rw [back_app ms m x]
theorem Mv.at (m : Mv) (h : m.ok) {x : Nat} (hx : x < m.nx.enc.length) : ∃ o, m.O[x]? = some o ∧ m.O.getD x 0 = o ∧ o < m.t.enc.length := by
  obtain ⟨_, _, hk⟩ := stepO_ok h
  have hl : x < m.O.length := by
    show x < (stepO _ _ _ _).length
    rw [hk.len]
    exact hx
  obtain ⟨w, _, _, _, ho⟩ := hk.at (j := x) (List.getElem?_eq_getElem hl)
  refine ⟨m.O[x], List.getElem?_eq_getElem hl, ?_, ho⟩
  rw [List.getD_eq_getElem?_getD, List.getElem?_eq_getElem hl]
  rfl
theorem redB_lt {xs : List V} {i : Nat} (h : redB xs i = true) : i + 1 < xs.length := (List.getElem?_eq_some_iff.mp (redB_iff.mp h).2).1
/-- a redex in front of a move's -/
def Mv.bad (m : Mv) (r : Nat) : Bool := decide (r < m.i) && redB m.t.enc r
/-- every move steps at a redex -/
theorem Run.sub {t v : Tm} {road : List (List Nat)} {ms : List Mv} (h : Run t road ms v) : ∀ {j : Nat} {m : Mv}, ms[j]? = some m → m.ok ∧ ∃ r, Run t r (ms.take j) m.t := by
  induction h with
  | nil => intro j m hm; simp at hm
  | @cons t v p i b u q ms h hf hrun ih =>
    intro j m hm
    cases j with
    | zero =>
      simp at hm
      subst hm
      exact ⟨h, [], .nil⟩
    | succ j =>
      obtain ⟨h1, r, h2⟩ := ih (by simpa using hm)
      exact ⟨h1, p :: r, .cons h hf h2⟩
end Ly
set_option Elab.async false
set_option linter.all false
set_option maxRecDepth 100000
set_option maxHeartbeats 2000000
namespace Ly
open PySem PySem.Spec PyProof.Rows L2 Evl
/-- a class that is made by calling it -/
def DefC (P : Program) (w : World) (K : PySem.W.Frag) (mg : Str → Option Value) (base : Heap) (CX : CXT) (k : Nat) (C : Addr) (ps : List Str) (sp : Sp) : Prop :=
  ∃ (f : Addr) (fd : FuncData), Mk K C f ∧ Binds K fd ps [] ∧ FnOk P w K mg base CX k f fd ps sp
theorem DefC.of {P : Program} {w : World} {K : PySem.W.Frag} {mg : Str → Option Value} {base : Heap} {CX : CXT} {k : Nat} {C : Addr} {ps : List Str} {sp : Sp} {f : Addr} {fd : FuncData} (M : Mk K C f) (b : Binds K fd ps []) (G : FnOk P w K mg base CX k f fd ps sp) : DefC P w K mg base CX k C ps sp := ⟨f, fd, M, b, G⟩
section
variable {K : PySem.W.Frag} {σ : L2.St} {H : Hp} {Q : VK} {D : Ends} {ta tb : TE} {tA : TA} {g : TG} {s1 : TS} {R : It → Hp → Prop}
theorem w_iE (h : tA σ H fun vs H1 => ∃ a xs, vs = [.ref a] ∧ SqL K H1 a xs ∧ R (Ite K a) H1) : iEnum K tA σ H R := h
theorem w_iE1 {a : Addr} {xs : List V} {B : Addr → Prop} (h : SqL K H a xs) (q : B a) : ∃ b ys, [V.ref a] = [V.ref b] ∧ SqL K H b ys ∧ B b := ⟨a, xs, rfl, h, q⟩
theorem for_enum {a : Addr} {xs : List V} (Pv : Nat → L2.St → Hp → Prop) (h0 : Pv 0 σ H) (hl : ∀ i σ H, Pv i σ H → SqL K H a xs)
    (hs : ∀ i x T σ H, xs[i]? = some x → H T = none → Pv i σ H → g (.ref T) σ (upd H T (.tup [.int (i : Nat), x])) fun σ2 H2 => s1 { D with nx := Pv (i + 1), ct := Pv (i + 1), bk := D.nx } σ2 H2) (hd : ∀ σ H, Pv xs.length σ H → D.nx σ H) : ForB (Ite K a) g s1 D σ H := by
  refine ⟨fun i m σ H => m = xs.length - i ∧ i ≤ xs.length ∧ Pv i σ H, ⟨_, rfl, Nat.zero_le _, h0⟩, ?_⟩
  rintro i m σ H ⟨rfl, hi, p⟩
  have sq := hl i σ H p
  by_cases hlt : i < xs.length
  · refine .inr ⟨⟨xs, xs[i], sq, List.getElem?_eq_getElem hlt⟩, Pv (i + 1), fun σ' H' p' => ⟨xs.length - (i + 1), by omega, rfl, hlt, p'⟩, fun x H' y => ?_⟩
    obtain ⟨T, z, rfl, hT, rfl, hz⟩ := y
    exact hs i z T σ H (hz xs sq) hT p
  · have e : i = xs.length := by omega
    subst e
    exact .inl ⟨⟨xs, sq, Nat.le_refl _⟩, hd σ H p⟩
theorem rgV_nat (a b : Nat) : rgV (a : Int) (b : Int) = nums (List.range' a (b - a)) := by
  unfold rgV
  apply List.ext_getElem
  · simp
  · intro i h1 h2
    simp
theorem w_lstRg {te : L2.St → Hp → (Int → Int → Hp → Prop) → Prop} (h : te σ H fun a b H1 => RgOk a b ∧ ∀ q, H1 q = none → Q (.ref q) (upd H1 q (.lst (rgV a b)))) : tLstRg te σ H Q := h
theorem w_rg1 {R : Int → Int → Hp → Prop} (h : ta σ H fun x H1 => ∃ n, x = .int n ∧ R 0 n H1) : tRg1 ta σ H R := h
theorem w_rg2 {R : Int → Int → Hp → Prop} (h : ta σ H fun x H1 => tb σ H1 fun y H2 => ∃ i j, x = .int i ∧ y = .int j ∧ R i j H2) : tRg2 ta tb σ H R := h
theorem w_rg1a {i : Int} {B : Int → Prop} (q : B i) : ∃ n, V.int i = .int n ∧ B n := ⟨i, rfl, q⟩
theorem w_rg2a {i j : Int} {B : Int → Int → Prop} (q : B i j) : ∃ a b, V.int i = .int a ∧ V.int j = .int b ∧ B a b := ⟨i, j, rfl, rfl, q⟩
theorem w_sfld {f : Str} {to tv : TE} (h : tv σ H fun y H1 => to σ H1 fun x H2 => ∃ a C dx fs, x = .ref a ∧ H2 a = some (.ins C dx fs) ∧ Cls K C ∧ NoAttr K C f ∧ fs.length < 1000 ∧ D.nx σ (upd H2 a (.ins C dx (putF f y fs)))) : sFld K to tv f D σ H := h
theorem w_tfld {f : Str} (h : ta σ H fun x H1 => ∃ a C dx fs v, x = .ref a ∧ H1 a = some (.ins C dx fs) ∧ Cls K C ∧ NoAttr K C f ∧ fs.lookup f = some v ∧ Q v H1) : tFld K ta f σ H Q := h
theorem w_make {C : Addr} {sp : Sp} {dvs : List V} {E : XK} (h : tA σ H fun vs H1 => ∀ x dx, H1 x = none → H1 dx = none → dx ≠ x → sp (.ref x :: (vs ++ dvs)) (upd (upd H1 dx (.own x)) x (.ins C dx [])) (fun v H2 => v = .non ∧ Q (.ref x) H2) E) : tMake C sp dvs E tA σ H Q := h
end
end Ly
set_option Elab.async false
set_option linter.all false
namespace Ly
open PySem PySem.Spec PyProof.Rows L2 Evl
section
variable {X : Cx} {K : PySem.W.Frag}
end
end Ly
set_option Elab.async false
set_option linter.all false
set_option maxRecDepth 100000
set_option maxHeartbeats 2000000
namespace Ly
open PySem PySem.Spec PyProof.Rows L2 Evl
inductive MkL (K : PySem.W.Frag) (H : Hp) : List V → List Nat → Prop
  | nil : MkL K H [] []
  | cons {a : Addr} {k : Nat} {bs : List V} {ks : List Nat} (h : SqT K H a [.str "m", .int (k : Int)]) (r : MkL K H bs ks) : MkL K H (.ref a :: bs) (k :: ks)
section
variable {K : PySem.W.Frag} {H H' : Hp}
theorem MkL.mono {bs : List V} {ks : List Nat} (h : MkL K H bs ks) (e : ∀ a xs, SqT K H a xs → SqT K H' a xs) : MkL K H' bs ks := by
  induction h with
  | nil => exact .nil
  | cons h _ ih => exact .cons (e _ _ h) ih
theorem MkL.ex {bs : List V} {ks : List Nat} (h : MkL K H bs ks) (e : Ex H H') : MkL K H' bs ks := h.mono fun a xs z => ex_t e z
theorem MkL.snoc {bs : List V} {ks : List Nat} (h : MkL K H bs ks) {a : Addr} {k : Nat} (ha : SqT K H a [.str "m", .int (k : Int)]) : MkL K H (bs ++ [.ref a]) (ks ++ [k]) := by
  induction h with
  | nil => exact .cons ha .nil
  | cons h _ ih => exact .cons h ih
theorem MkL.len {bs : List V} {ks : List Nat} (h : MkL K H bs ks) : bs.length = ks.length := by
  induction h with
  | nil => rfl
  | cons _ _ ih => simp [ih]
theorem MkL.dp {bs : List V} {ks : List Nat} (h : MkL K H bs ks) : DpAll K H bs (ks.map fun (k : Nat) => markD (k : Int)) := by
  induction h with
  | nil => exact .nil
  | cons h _ ih => exact .cons (.tup h mark_dp) ih
end
end Ly
set_option Elab.async false
set_option linter.all false
set_option maxRecDepth 100000
set_option maxHeartbeats 2000000
namespace Ly
open PySem PySem.Spec PyProof.Rows L2 Evl
/-- the redex whose residual an index is, back through moves (the last one first) -/
def srcR : List Mv → Nat → Option Nat
  | [], x => some x
  | m :: ms, x => if redB m.t.enc (m.O.getD x 0) = true then srcR ms (m.O.getD x 0) else none
def src (done : List Mv) (x : Nat) : Option Nat := srcR done.reverse x
theorem src_snoc (done : List Mv) (m : Mv) (x : Nat) : src (done ++ [m]) x = if redB m.t.enc (m.O.getD x 0) = true then src done (m.O.getD x 0) else none := by
  unfold src
  rw [List.reverse_append]
  rfl
/-- the least source, and its move's number -/
def fsN (ms : List Mv) (i0 : Nat) : Nat → Nat × Nat
  | 0 => (i0, 0)
  | j + 1 => match (ms[j + 1]?).bind fun m => src (ms.take (j + 1)) m.i with
    | some s => if s < (fsN ms i0 j).1 then (s, j + 1) else fsN ms i0 j
    | none => fsN ms i0 j
end Ly
set_option Elab.async false
set_option linter.all false
set_option maxRecDepth 100000
set_option maxHeartbeats 2000000
namespace Ly
open PySem PySem.Spec PyProof.Rows L2 Evl
/-- what steps at the first redex come to -/
inductive Wk where
  | done (u : Tm)
  | out
  | large
def Tm.nf : Nat → Tm → List (List Nat) × Wk
  | 0, t => ([], match t.reds [] with | [] => .done t | _ => .out)
  | k + 1, t => match t.reds [] with
    | [] => ([], .done t)
    | p :: _ => if fitsV (t.step p).enc = false then ([p], .large) else (p :: (Tm.nf k (t.step p)).1, (Tm.nf k (t.step p)).2)
section
variable {K : PySem.W.Frag} {H : Hp} {Q : VK}
theorem w_nnI {i : Int} {A B : Prop} (h : A) : if (!decide (V.int i = V.non)) = true then A else B := iteT h
theorem w_max {i j : Int} {A : Int → Prop} (q : A (if j > i then j else i)) : ∃ a b, [V.int i, V.int j] = [V.int a, V.int b] ∧ A (if b > a then b else a) := ⟨i, j, rfl, q⟩
theorem w_iR2 {σ : L2.St} {R : It → Hp → Prop} {tA : TA} (h : tA σ H fun vs H1 => ∃ i j : Int, vs = [.int i, .int j] ∧ (-(2 ^ 62) ≤ i ∧ i < 2 ^ 62 ∧ -(2 ^ 62) ≤ j ∧ j < 2 ^ 62) ∧ R (Itr i (j - i).toNat) H1) : iRng2 tA σ H R := h
theorem w_iR21 {i j : Int} {B : Int → Int → Prop} (h1 : -(2 ^ 62) ≤ i) (h2 : i < 2 ^ 62) (h3 : -(2 ^ 62) ≤ j) (h4 : j < 2 ^ 62) (q : B i j) : ∃ a b : Int, [V.int i, V.int j] = [V.int a, V.int b] ∧ (-(2 ^ 62) ≤ a ∧ a < 2 ^ 62 ∧ -(2 ^ 62) ≤ b ∧ b < 2 ^ 62) ∧ B a b := ⟨i, j, rfl, ⟨h1, h2, h3, h4⟩, q⟩
theorem w_break {D : Ends} {σ : L2.St} (h : D.bk σ H) : tBreak D σ H := h
theorem w_cont {D : Ends} {σ : L2.St} (h : D.ct σ H) : tCont D σ H := h
end
end Ly
set_option Elab.async false
set_option linter.all false
set_option maxRecDepth 100000
namespace Ly
open PySem PySem.Spec PyProof.Rows L2 Evl
end Ly
set_option Elab.async false
set_option linter.all false
set_option maxRecDepth 100000
namespace Ly
open PySem PySem.Spec PyProof.Rows L2 Evl
def Tm.apps : Tm → List Tm → Tm
  | h, [] => h
  | h, t :: ts => Tm.apps (.app h t) ts
theorem rep_snoc {α : Type} (n : Nat) (x : α) (r : List α) : List.replicate n x ++ x :: r = List.replicate (n + 1) x ++ r := by
  induction n with
  | zero => rfl
  | succ n ih =>
    rw [List.replicate_succ, List.cons_append, ih]
    simp [List.replicate_succ]
theorem Tm.apps_enc : ∀ (ts : List Tm) (h : Tm), (Tm.apps h ts).enc = List.replicate ts.length (V.str "app") ++ (h.enc ++ encs ts)
  | [], h => by simp [Tm.apps, encs]
  | t :: ts, h => by
    show (Tm.apps (.app h t) ts).enc = _
    rw [Tm.apps_enc ts, encs_cons]
    show List.replicate ts.length (V.str "app") ++ (V.str "app" :: (h.enc ++ t.enc) ++ encs ts) = _
    rw [List.cons_append, rep_snoc]
    simp
theorem rep_flat {x : V} : ∀ n : Nat, (List.replicate n [x]).flatten = List.replicate n x
  | 0 => rfl
  | n + 1 => by rw [List.replicate_succ, List.flatten_cons, rep_flat n, List.replicate_succ]; rfl
theorem Tm.lam_enc (n : Nat) (t : Tm) : (Tm.lamN n t).enc = List.replicate n (V.str "lam") ++ t.enc := by rw [Tm.enc_lamN, rep_flat]
theorem encs_app (ts us : List Tm) : encs (ts ++ us) = encs ts ++ encs us := by simp [encs]
section
variable {K : PySem.W.Frag} {H : Hp} {Q : VK} {l : Addr} {xs : List V}
end
end Ly
set_option Elab.async false
set_option linter.all false
set_option maxRecDepth 100000
namespace Ly
open PySem PySem.Spec PyProof.Rows L2 Evl
/-- n abstractions around the head h applied to the terms as -/
def SpineOf (t : Tm) (n : Nat) (h : Tm) (as : List Tm) : Prop := t = Tm.lamN n (Tm.apps h as) ∧ (∀ f a, h ≠ .app f a) ∧ (as = [] → ∀ b, h ≠ .lam b)
section
variable {t h : Tm} {n : Nat} {as : List Tm}
theorem SpineOf.enc (s : SpineOf t n h as) : t.enc = List.replicate n (V.str "lam") ++ (List.replicate as.length (V.str "app") ++ (h.enc ++ encs as)) := by
  rw [s.1, Tm.lam_enc, Tm.apps_enc]
theorem SpineOf.len (s : SpineOf t n h as) : t.enc.length = n + as.length + h.enc.length + (encs as).length := by
  rw [s.enc]
  simp
  omega
theorem SpineOf.drop (s : SpineOf t n h as) : t.enc.drop (n + as.length) = h.enc ++ encs as := by
  rw [s.enc, ← List.append_assoc]
  have e : n + as.length = (List.replicate n (V.str "lam") ++ List.replicate as.length (V.str "app")).length := by simp
  rw [e, List.drop_left]
theorem SpineOf.arg (s : SpineOf t n h as) {m i : Nat} (hm : h = .var m) {u : Tm} (hu : as[i]? = some u) : t.enc.drop (n + as.length + 1 + (encs (as.take i)).length) = u.enc ++ encs (as.drop (i + 1)) := by
  have hd := s.drop
  rw [hm] at hd
  rw [Nat.add_assoc (n + as.length), ← List.drop_drop, hd]
  show ((V.int (m : Int)) :: encs as).drop (1 + (encs (as.take i)).length) = _
  rw [Nat.add_comm, List.drop_succ_cons]
  have e : encs as = encs (as.take i) ++ (u.enc ++ encs (as.drop (i + 1))) := by
    have e1 : as = as.take i ++ u :: as.drop (i + 1) := by
      rw [← drop_at hu, List.take_append_drop]
    conv => lhs; rw [e1]
    rw [encs_app, encs_cons]
  rw [e, List.drop_left]
end
section
variable {K : PySem.W.Frag} {H : Hp} {Q : VK} {p q l m : Addr} {n v : Int} {bs cs : List Addr} {as : List Tm}
end
end Ly
set_option Elab.async false
set_option linter.all false
set_option maxRecDepth 100000
namespace Ly
open PySem PySem.Spec PyProof.Rows L2 Evl
inductive Cb where
  | S
  | K
  | I
  | var (n : Nat)
  | app (f a : Cb)
def Cb.enc : Cb → List V
  | .S => [.str "S"]
  | .K => [.str "K"]
  | .I => [.str "I"]
  | .var n => [.int n]
  | .app f a => .str "app" :: (f.enc ++ a.enc)
/-- its variables are below w -/
def Cb.lt (w : Nat) : Cb → Prop
  | .var n => n < w
  | .app f a => f.lt w ∧ a.lt w
  | _ => True
def cencs (ts : List Cb) : List V := (ts.map Cb.enc).flatten
theorem cencs_cons (t : Cb) (ts : List Cb) : cencs (t :: ts) = t.enc ++ cencs ts := by simp [cencs]
/-- whatever combinations stand for what is missing, the whole is one -/
def CComp (w : Nat) (nodes : List V) (m : Nat) : Prop := ∀ ts : List Cb, ts.length = m → (∀ t ∈ ts, t.lt w) → ∃ t : Cb, t.lt w ∧ t.enc = nodes ++ cencs ts
theorem CComp.start (w : Nat) : CComp w [] 1 := fun ts hl hw => by
  match ts, hl with
  | [t], _ => exact ⟨t, hw t (by simp), by simp [cencs]⟩
theorem CComp.done {w : Nat} {nodes : List V} (h : CComp w nodes 0) : ∃ t : Cb, t.lt w ∧ t.enc = nodes := by
  obtain ⟨t, h1, h2⟩ := h [] rfl (by simp)
  exact ⟨t, h1, by rw [h2]; simp [cencs]⟩
theorem CComp.leaf {w m : Nat} {nodes : List V} (h : CComp w nodes (m + 1)) (c : Cb) (hc : c.lt w) : CComp w (nodes ++ c.enc) m := fun ts hl hw => by
  obtain ⟨t, h1, h2⟩ := h (c :: ts) (by simp [hl]) (fun p hp => by
    rcases List.mem_cons.mp hp with e | e
    · rw [e]
      exact hc
    · exact hw p e)
  exact ⟨t, h1, by rw [h2, cencs_cons, List.append_assoc]⟩
theorem CComp.app {w m : Nat} {nodes : List V} (h : CComp w nodes (m + 1)) : CComp w (nodes ++ [.str "app"]) (m + 2) := fun ts hl hw => by
  match ts, hl with
  | f :: a :: r, hl =>
    obtain ⟨t, h1, h2⟩ := h (.app f a :: r) (by simpa using hl) (fun p hp => by
      rcases List.mem_cons.mp hp with e | e
      · rw [e]
        exact ⟨hw f (by simp), hw a (by simp)⟩
      · exact hw p (List.mem_cons_of_mem _ (List.mem_cons_of_mem _ e)))
    exact ⟨t, h1, by rw [h2, cencs_cons, cencs_cons, cencs_cons]; simp [Cb.enc]⟩
/-- the nodes of combinations -/
def NodeC (v : V) : Prop := (∃ n : Nat, v = .int n) ∨ v = .str "S" ∨ v = .str "K" ∨ v = .str "I" ∨ v = .str "app"
theorem Cb.nodes : ∀ (t : Cb), ∀ v ∈ t.enc, NodeC v
  | .S, v, h => .inr (.inl (List.mem_singleton.mp h))
  | .K, v, h => .inr (.inr (.inl (List.mem_singleton.mp h)))
  | .I, v, h => .inr (.inr (.inr (.inl (List.mem_singleton.mp h))))
  | .var n, v, h => .inl ⟨n, List.mem_singleton.mp h⟩
  | .app f a, v, h => by
    rcases List.mem_cons.mp h with e | e
    · exact .inr (.inr (.inr (.inr e)))
    · rcases List.mem_append.mp e with e | e
      · exact f.nodes v e
      · exact a.nodes v e
theorem NodeC.flat1 {v : V} (h : NodeC v) : (∃ i, v = .int i) ∨ ∃ s, v = .str s := by
  rcases h with ⟨n, rfl⟩ | rfl | rfl | rfl | rfl
  · exact .inl ⟨_, rfl⟩
  all_goals exact .inr ⟨_, rfl⟩
theorem Cb.flat (t : Cb) : Flat t.enc := fun v h => (t.nodes v h).flat1
theorem Cb.pos : ∀ t : Cb, 0 < t.enc.length
  | .S => by simp [Cb.enc]
  | .K => by simp [Cb.enc]
  | .I => by simp [Cb.enc]
  | .var _ => by simp [Cb.enc]
  | .app _ _ => by simp [Cb.enc]
theorem NodeC.key {v : V} (h : NodeC v) : ∃ k, v = kV k := by
  rcases h with ⟨n, rfl⟩ | rfl | rfl | rfl | rfl
  · exact kV_int _
  all_goals exact kV_str _
def NdS (xs : List V) : Prop := ∀ x ∈ xs, (∃ i, x = .int i) ∨ ∃ s : Str, x = .str s ∧ PyData.strOk s = true
theorem NdS.flat {xs : List V} (h : NdS xs) : Flat xs := fun x hx => by
  rcases h x hx with e | ⟨s, e, _⟩
  · exact .inl e
  · exact .inr ⟨s, e⟩
theorem NdS.tail {x : V} {xs : List V} (h : NdS (x :: xs)) : NdS xs := fun y hy => h y (List.mem_cons_of_mem _ hy)
theorem NdS.app {xs ys : List V} (h : NdS xs) (k : NdS ys) : NdS (xs ++ ys) := fun x hx => by
  rcases List.mem_append.mp hx with e | e
  · exact h x e
  · exact k x e
section
variable {K : PySem.W.Frag} {H : Hp} {Q : VK} {a b : Addr} {xs ys : List V}
end
theorem NodeC.nds1 {v : V} (h : NodeC v) : (∃ i, v = .int i) ∨ ∃ s : Str, v = .str s ∧ PyData.strOk s = true := by
  rcases h with ⟨n, rfl⟩ | rfl | rfl | rfl | rfl
  · exact .inl ⟨_, rfl⟩
  all_goals exact .inr ⟨_, rfl, by decide +kernel⟩
theorem NdS.of {xs : List V} (h : ∀ x ∈ xs, NodeC x) : NdS xs := fun x hx => (h x hx).nds1
theorem Cb.small {w : Nat} : ∀ {t : Cb}, t.lt w → ∀ (i : Int), V.int i ∈ t.enc → i < w
  | .S, _, i, h => by cases List.mem_singleton.mp h
  | .K, _, i, h => by cases List.mem_singleton.mp h
  | .I, _, i, h => by cases List.mem_singleton.mp h
  | .var n, hl, i, h => by
    cases List.mem_singleton.mp h
    have : n < w := hl
    omega
  | .app f a, hl, i, h => by
    rcases List.mem_cons.mp h with e | e
    · cases e
    · rcases List.mem_append.mp e with e | e
      · exact Cb.small hl.1 i e
      · exact Cb.small hl.2 i e
theorem NodeC.ok {v : V} {w : Nat} (h : NodeC v) (hw : w ≤ 1000000) (hs : ∀ i, v = .int i → i < w) : okV v = true := by
  rcases h with ⟨n, rfl⟩ | rfl | rfl | rfl | rfl
  · have := hs _ rfl
    show decide _ = true
    exact decide_eq_true (by omega)
  all_goals rfl
/-- what a def tells: the term, or None -/
def Ans (K : PySem.W.Frag) (H : Hp) (Y : List V) (v : V) : Prop := (fitsV Y = true ∧ ∃ p, v = .ref p ∧ SqT K H p Y) ∨ (fitsV Y = false ∧ v = .non)
theorem Ans.mono {K : PySem.W.Frag} {H H' : Hp} {Y : List V} {v : V} (h : Ans K H Y v) (e : Ex H H') : Ans K H' Y v := by
  rcases h with ⟨a, p, b, c⟩ | h
  · exact .inl ⟨a, p, b, ex_t e c⟩
  · exact .inr h
end Ly
set_option Elab.async false
set_option linter.all false
set_option maxRecDepth 100000
set_option maxHeartbeats 2000000
namespace Ly
open PySem PySem.Spec PyProof.Rows L2 Evl
inductive PTm where
  | hole
  | var (n : Nat)
  | lam (b : PTm)
  | app (f a : PTm)
deriving DecidableEq
def PTm.enc : PTm → List V
  | .hole => [V.str "?"]
  | .var n => [V.int n]
  | .lam b => V.str "lam" :: b.enc
  | .app f a => V.str "app" :: (f.enc ++ a.enc)
def pencs (ps : List PTm) : List V := (ps.map PTm.enc).flatten
theorem pencs_cons (p : PTm) (ps : List PTm) : pencs (p :: ps) = p.enc ++ pencs ps := by simp [pencs]
theorem PTm.enc_ne (p : PTm) : p.enc ≠ [] := by cases p <;> simp [PTm.enc]
theorem PTm.pos (p : PTm) : 1 ≤ p.enc.length := List.length_pos_iff.mpr p.enc_ne
/-- the nodes of partial terms -/
def NodeP (x : V) : Prop := (∃ n : Nat, x = .int n) ∨ x = .str "?" ∨ x = .str "lam" ∨ x = .str "app"
theorem PTm.nodes : ∀ (p : PTm), ∀ x ∈ p.enc, NodeP x
  | .hole, x, h => .inr (.inl (by simpa [PTm.enc] using h))
  | .var n, x, h => .inl ⟨n, by simpa [PTm.enc] using h⟩
  | .lam b, x, h => by
    rcases List.mem_cons.mp h with h | h
    · exact .inr (.inr (.inl h))
    · exact PTm.nodes b x h
  | .app f a, x, h => by
    rcases List.mem_cons.mp h with h | h
    · exact .inr (.inr (.inr h))
    · rcases List.mem_append.mp h with h | h
      · exact PTm.nodes f x h
      · exact PTm.nodes a x h
theorem NodeP.nds {xs : List V} (h : ∀ x ∈ xs, NodeP x) : NdS xs := fun x hx => by
  rcases h x hx with ⟨n, rfl⟩ | rfl | rfl | rfl
  · exact .inl ⟨_, rfl⟩
  · exact .inr ⟨_, rfl, by decide +kernel⟩
  · exact .inr ⟨_, rfl, by decide +kernel⟩
  · exact .inr ⟨_, rfl, by decide +kernel⟩
theorem PTm.nds (p : PTm) : NdS p.enc := NodeP.nds p.nodes
theorem PTm.flat (p : PTm) : Flat p.enc := p.nds.flat
/-- what the first node of a forest tells of it -/
inductive Hd1 : V → List PTm → List PTm → Prop
  | hole (ps) : Hd1 (.str "?") (.hole :: ps) ps
  | var (n : Nat) (ps) : Hd1 (.int n) (.var n :: ps) ps
  | lam (b) (ps) : Hd1 (.str "lam") (.lam b :: ps) (b :: ps)
  | app (f a) (ps) : Hd1 (.str "app") (.app f a :: ps) (f :: a :: ps)
theorem hd1_of (p : PTm) (ps : List PTm) : ∃ x qs, Hd1 x (p :: ps) qs ∧ pencs (p :: ps) = x :: pencs qs := by
  cases p with
  | hole => exact ⟨_, _, .hole ps, by simp [pencs, PTm.enc]⟩
  | var n => exact ⟨_, _, .var n ps, by simp [pencs, PTm.enc]⟩
  | lam b => exact ⟨_, _, .lam b ps, by simp [pencs, PTm.enc]⟩
  | app f a => exact ⟨_, _, .app f a ps, by simp [pencs, PTm.enc]⟩
/-- a forest begins at an index -/
def At (xs : List V) (i : Nat) (ps : List PTm) (post : List V) : Prop := xs.drop i = pencs ps ++ post
theorem At.hd {xs post : List V} {i : Nat} {p : PTm} {ps : List PTm} (h : At xs i (p :: ps) post) : ∃ x qs, Hd1 x (p :: ps) qs ∧ xs[i]? = some x ∧ At xs (i + 1) qs post := by
  obtain ⟨x, qs, h1, h2⟩ := hd1_of p ps
  unfold At at h
  rw [h2] at h
  have g := drop_get (i := i) (v := x) (r := pencs qs ++ post) (by rw [h]; rfl)
  exact ⟨x, qs, h1, g.1, g.2⟩
theorem At.len {xs post : List V} {i : Nat} {ps : List PTm} (h : At xs i ps post) : xs.length - i = (pencs ps).length + post.length := by
  have := congrArg List.length h
  simpa using this
def PComp (k : Nat) (xs : List V) : Prop := ∀ ws : List PTm, ws.length = k → ∃ p : PTm, xs ++ pencs ws = p.enc
theorem PComp.start : PComp 1 [] := fun ws h => by
  match ws, h with
  | [w], _ => exact ⟨w, by simp [pencs]⟩
theorem PComp.done {xs : List V} (h : PComp 0 xs) : ∃ p : PTm, xs = p.enc := by
  obtain ⟨p, hp⟩ := h [] rfl
  exact ⟨p, by simpa [pencs] using hp⟩
theorem PComp.leaf {k : Nat} {xs : List V} (h : PComp (k + 1) xs) (p : PTm) : PComp k (xs ++ p.enc) := fun ws hw => by
  obtain ⟨q, hq⟩ := h (p :: ws) (by simp [hw])
  exact ⟨q, by rw [← hq, pencs_cons, List.append_assoc]⟩
theorem PComp.lam {k : Nat} {xs : List V} (h : PComp (k + 1) xs) : PComp (k + 1) (xs ++ [V.str "lam"]) := fun ws hw => by
  match ws, hw with
  | w :: ws, hw =>
    obtain ⟨q, hq⟩ := h (.lam w :: ws) (by simpa using hw)
    exact ⟨q, by rw [← hq]; simp [pencs, PTm.enc]⟩
theorem PComp.app {k : Nat} {xs : List V} (h : PComp (k + 1) xs) : PComp (k + 2) (xs ++ [V.str "app"]) := fun ws hw => by
  match ws, hw with
  | w :: v :: ws, hw =>
    obtain ⟨q, hq⟩ := h (.app w v :: ws) (by simpa using hw)
    exact ⟨q, by rw [← hq]; simp [pencs, PTm.enc]⟩
theorem PComp.node {x : V} {ps qs : List PTm} {xs : List V} (h : PComp ps.length xs) (d : Hd1 x ps qs) : PComp qs.length (xs ++ [x]) := by
  cases d with
  | hole => exact PComp.leaf h .hole
  | var n => exact PComp.leaf h (.var n)
  | lam b => exact PComp.lam h
  | app f a => exact PComp.app h
def PTm.le : PTm → PTm → Bool
  | .hole, _ => true
  | .var n, .var m => decide (n = m)
  | .lam b, .lam c => b.le c
  | .app f a, .app g x => f.le g && a.le x
  | _, _ => false
def PTm.lamN : Nat → PTm → PTm
  | 0, p => p
  | n + 1, p => .lam (PTm.lamN n p)
def PTm.apps (p : PTm) (ps : List PTm) : PTm := ps.foldl PTm.app p
section
variable {t h : Tm} {n : Nat} {as : List Tm}
end
end Ly
set_option Elab.async false
set_option linter.all false
set_option maxRecDepth 100000
set_option maxHeartbeats 2000000
namespace Ly
open PySem PySem.Spec PyProof.Rows L2 Evl
theorem le_refl : ∀ p : PTm, p.le p = true
  | .hole => rfl
  | .var n => by simp [PTm.le]
  | .lam b => by simp only [PTm.le, le_refl b]
  | .app f a => by simp only [PTm.le, le_refl f, le_refl a, Bool.and_true]
end Ly
set_option Elab.async false
set_option linter.all false
set_option maxRecDepth 100000
set_option maxHeartbeats 2000000
namespace Ly
open PySem PySem.Spec PyProof.Rows L2 Evl
theorem Tm.lif_swap2 (e c : Nat) : ∀ (u : Tm) (j d : Nat), (u.vmap (lif e) j).vmap (lif c) (j + e + d) = (u.vmap (lif c) (j + d)).vmap (lif e) j
  | .var n, j, d => by
    simp only [Tm.vmap, lif]
    congr 1
    split <;> split <;> (try split) <;> (try split) <;> omega
  | .lam b, j, d => by
    have ih := Tm.lif_swap2 e c b (j + 1) d
    simp only [Tm.vmap]
    rw [show j + e + d + 1 = j + 1 + e + d by omega, show j + d + 1 = j + 1 + d by omega, ih]
  | .app f a, j, d => by simp only [Tm.vmap, Tm.lif_swap2 e c f j d, Tm.lif_swap2 e c a j d]
theorem Tm.lif_put (u : Tm) (c d : Nat) : ∀ (b : Tm) (e : Nat), (Tm.put u e b).vmap (lif c) (e + d) = Tm.put (u.vmap (lif c) d) e (b.vmap (lif c) (e + d + 1))
  | .var n, e => by
    by_cases h1 : n < e
    · have h2 : ¬ e + d + 1 ≤ n := by omega
      have h3 : ¬ e + d ≤ n := by omega
      simp only [Tm.put, Tm.vmap, lif, if_pos h1, if_neg h2, if_neg h3]
    · by_cases h2 : n = e
      · subst h2
        have h3 : ¬ n + d + 1 ≤ n := by omega
        simp only [Tm.put, Tm.vmap, if_neg h1, if_true]
        rw [show lif c (n + d + 1) n = n by simp only [lif, if_neg h3], if_neg h1, if_pos rfl]
        have := Tm.lif_swap2 n c u 0 d
        rw [show 0 + n + d = n + d by omega, show 0 + d = d by omega] at this
        exact this
      · simp only [Tm.put, if_neg h1, if_neg h2, Tm.vmap, lif]
        by_cases h3 : e + d ≤ n - 1
        · have h4 : e + d + 1 ≤ n := by omega
          have h5 : ¬ n + c < e := by omega
          have h6 : ¬ n + c = e := by omega
          rw [if_pos h3, if_pos h4, if_neg h5, if_neg h6]
          congr 1
          omega
        · have h4 : ¬ e + d + 1 ≤ n := by omega
          rw [if_neg h3, if_neg h4, if_neg h1, if_neg h2]
  | .lam b, e => by
    have ih := Tm.lif_put u c d b (e + 1)
    simp only [Tm.put, Tm.vmap]
    rw [show e + d + 1 = e + 1 + d by omega, ih]
  | .app f a, e => by simp only [Tm.put, Tm.vmap, Tm.lif_put u c d f e, Tm.lif_put u c d a e]
/-- steps side by side -/
inductive Par : Tm → Tm → Prop
  | var (n : Nat) : Par (.var n) (.var n)
  | lam {b b' : Tm} (h : Par b b') : Par (.lam b) (.lam b')
  | app {f f' a a' : Tm} (h : Par f f') (k : Par a a') : Par (.app f a) (.app f' a')
  | beta {b b' u u' : Tm} (h : Par b b') (k : Par u u') : Par (.app (.lam b) u) (Tm.put u' 0 b')
theorem Par.refl : ∀ t : Tm, Par t t
  | .var n => .var n
  | .lam b => .lam (Par.refl b)
  | .app f a => .app (Par.refl f) (Par.refl a)
theorem Par.lift {t t' : Tm} (h : Par t t') (c : Nat) : ∀ d, Par (t.vmap (lif c) d) (t'.vmap (lif c) d) := by
  induction h with
  | var n => exact fun d => Par.refl _
  | lam _ ih => exact fun d => .lam (ih (d + 1))
  | app _ _ i1 i2 => exact fun d => .app (i1 d) (i2 d)
  | @beta b b' u u' _ _ i1 i2 =>
    intro d
    have e := Tm.lif_put u' c d b' 0
    rw [show 0 + d = d by omega] at e
    rw [e]
    exact .beta (i1 (d + 1)) (i2 d)
theorem Par.put {t t' u u' : Tm} (h : Par t t') (k : Par u u') : ∀ d, Par (Tm.put u d t) (Tm.put u' d t') := by
  induction h with
  | var n =>
    intro d
    simp only [Tm.put]
    split
    · exact .var _
    · split
      · exact k.lift d 0
      · exact .var _
  | lam _ ih => exact fun d => .lam (ih (d + 1))
  | app _ _ i1 i2 => exact fun d => .app (i1 d) (i2 d)
  | @beta b b' v v' _ _ i1 i2 =>
    intro d
    have e := Tm.put_put2 v' u' d b' 0
    rw [show 0 + d = d by omega] at e
    rw [e]
    exact .beta (i1 (d + 1)) (i2 d)
inductive Star (t : Tm) : Tm → Prop
  | refl : Star t t
  | tail {a b : Tm} (h : Star t a) (p : Par a b) : Star t b
theorem Star.trans {t a b : Tm} (h : Star t a) (k : Star a b) : Star t b := by
  induction k with
  | refl => exact h
  | tail _ p ih => exact .tail ih p
theorem le_trans : ∀ {p q r : PTm}, p.le q = true → q.le r = true → p.le r = true
  | .hole, _, _, _, _ => rfl
  | .var n, q, r, h, k => by
    cases q <;> simp only [PTm.le, Bool.false_eq_true, decide_eq_true_eq] at h
    subst h
    exact k
  | .lam b, q, r, h, k => by
    cases q with
    | lam c =>
      cases r with
      | lam d => exact le_trans (p := b) (q := c) (r := d) h k
      | hole => simp [PTm.le] at k
      | var m => simp [PTm.le] at k
      | app f a => simp [PTm.le] at k
    | hole => simp [PTm.le] at h
    | var m => simp [PTm.le] at h
    | app f a => simp [PTm.le] at h
  | .app f a, q, r, h, k => by
    cases q with
    | app g x =>
      cases r with
      | app o y =>
        simp only [PTm.le, Bool.and_eq_true] at h k ⊢
        exact ⟨le_trans h.1 k.1, le_trans h.2 k.2⟩
      | hole => simp [PTm.le] at k
      | var m => simp [PTm.le] at k
      | lam b => simp [PTm.le] at k
    | hole => simp [PTm.le] at h
    | var m => simp [PTm.le] at h
    | lam b => simp [PTm.le] at h
end Ly
set_option Elab.async false
set_option linter.all false
set_option maxRecDepth 100000
namespace Ly
open PySem PySem.Spec PyProof.Rows L2 Evl
/-- the positions of a number, from s on -/
def posN (j : Nat) : Nat → List Nat → List Nat
  | _, [] => []
  | s, x :: xs => if x = j then s :: posN j (s + 1) xs else posN j (s + 1) xs
theorem posN_app (j : Nat) : ∀ (xs ys : List Nat) (s : Nat), posN j s (xs ++ ys) = posN j s xs ++ posN j (s + xs.length) ys
  | [], ys, s => rfl
  | x :: xs, ys, s => by
    have ih := posN_app j xs ys (s + 1)
    rw [show s + 1 + xs.length = s + (x :: xs).length by simp; omega] at ih
    simp only [List.cons_append, posN]
    rw [ih]
    split <;> simp
theorem posN_shift (j : Nat) : ∀ (xs : List Nat) (s c : Nat), posN j (s + c) xs = (posN j s xs).map (· + c)
  | [], _, _ => rfl
  | x :: xs, s, c => by
    have ih := posN_shift j xs (s + 1) c
    simp only [posN]
    rw [show s + c + 1 = s + 1 + c by omega, ih]
    split <;> simp
theorem posN_map (j c : Nat) : ∀ (xs : List Nat) (s : Nat), posN (j + c) s (xs.map (· + c)) = posN j s xs
  | [], _ => rfl
  | x :: xs, s => by
    simp only [List.map_cons, posN, posN_map j c xs (s + 1)]
    by_cases h : x = j
    · rw [if_pos h, if_pos (by omega)]
    · rw [if_neg h, if_neg (by omega)]
theorem posN_none {j : Nat} : ∀ {xs : List Nat} {s : Nat}, j ∉ xs → posN j s xs = []
  | [], _, _ => rfl
  | x :: xs, s, h => by
    simp only [List.mem_cons, not_or] at h
    rw [posN, if_neg (Ne.symm h.1), posN_none h.2]
theorem posN_range (s k : Nat) : ∀ (n t : Nat), k < n → posN (t + k) s (List.range' t n) = [s + k]
  | 0, _, h => absurd h (Nat.not_lt_zero k)
  | n + 1, t, h => by
    rw [List.range'_succ, posN]
    by_cases e : k = 0
    · subst e
      rw [if_pos (by omega), posN_none (by simp only [List.mem_range'_1]; omega)]
      rfl
    · obtain ⟨m, rfl⟩ : ∃ m, k = m + 1 := ⟨k - 1, by omega⟩
      rw [if_neg (by omega)]
      have ih := posN_range (s + 1) m n (t + 1) (by omega)
      rw [show t + (m + 1) = t + 1 + m by omega, ih, show s + 1 + m = s + (m + 1) by omega]
theorem range_up (t n c : Nat) : (List.range' t n).map (· + c) = List.range' (t + c) n := by
  have := List.map_add_range' (a := c) t n 1
  simpa [Nat.add_comm] using this
/-- a step at an index, and where the nodes come from -/
def rootO (b u : Tm) : List Nat := pO (List.range' (2 + b.enc.length) u.enc.length) b.enc (b.deps 0) (List.range' 2 b.enc.length)
inductive StI : Tm → Nat → Tm → List Nat → Prop
  | root {b u : Tm} : StI (.app (.lam b) u) 0 (Tm.put u 0 b) (rootO b u)
  | lam {b b' : Tm} {k : Nat} {O : List Nat} (h : StI b k b' O) : StI (.lam b) (k + 1) (.lam b') (0 :: O.map (· + 1))
  | fn {f f' a : Tm} {k : Nat} {O : List Nat} (h : StI f k f' O) : StI (.app f a) (k + 1) (.app f' a) (0 :: (O.map (· + 1) ++ List.range' (1 + f.enc.length) a.enc.length))
  | arg {f a a' : Tm} {k : Nat} {O : List Nat} (h : StI a k a' O) : StI (.app f a) (k + (1 + f.enc.length)) (.app f a') (0 :: (List.range' 1 f.enc.length ++ O.map (· + (1 + f.enc.length))))
inductive Als : Tm → List Nat → Tm → Prop
  | nil {t : Tm} : Als t [] t
  | cons {t t1 v : Tm} {k : Nat} {ks O : List Nat} (h : StI t k t1 O) (r : Als t1 ks v) : Als t (k :: ks) v
theorem Als.app {t u v : Tm} {ks js : List Nat} (h : Als t ks u) (g : Als u js v) : Als t (ks ++ js) v := by
  induction h with
  | nil => exact g
  | cons h _ ih => exact .cons h (ih g)
theorem Als.lam {t v : Tm} {ks : List Nat} (h : Als t ks v) : Als (.lam t) (ks.map (· + 1)) (.lam v) := by
  induction h with
  | nil => exact .nil
  | cons h _ ih => exact .cons (.lam h) ih
theorem Als.fn {t v : Tm} {ks : List Nat} (h : Als t ks v) (a : Tm) : Als (.app t a) (ks.map (· + 1)) (.app v a) := by
  induction h with
  | nil => exact .nil
  | cons h _ ih => exact .cons (.fn h) ih
theorem Als.arg {t v : Tm} {ks : List Nat} (h : Als t ks v) (f : Tm) : Als (.app f t) (ks.map (· + (1 + f.enc.length))) (.app f v) := by
  induction h with
  | nil => exact .nil
  | cons h _ ih => exact .cons (.arg h) ih
theorem StI.lt {t v : Tm} {k : Nat} {O : List Nat} (h : StI t k v O) : k + 1 < t.enc.length := by
  induction h with
  | root => simp [Tm.enc]
  | lam _ ih => simp only [Tm.enc, List.length_cons]; omega
  | fn _ ih => simp only [Tm.enc, List.length_cons, List.length_append]; omega
  | arg _ ih => simp only [Tm.enc, List.length_cons, List.length_append]; omega
theorem pT_len (u : Tm) (S : Nat) : ∀ (b : Tm) (d s : Nat), (pO (List.range' S u.enc.length) b.enc (b.deps d) (List.range' s b.enc.length)).length = (Tm.put u d b).enc.length
  | .var n, d, s => by
    have := pO_var (O2 := List.range' S u.enc.length) n d s
    rw [show List.range' s (Tm.var n).enc.length = List.range' s 1 from rfl, this, Tm.put]
    by_cases h : n = d
    · rw [if_pos h, if_neg (by omega), if_pos h, Tm.vmap_len]
      simp
    · rw [if_neg h]
      split <;> first | rfl | (rw [if_neg h]; rfl)
  | .lam b, d, s => by
    rw [pO_lam, Tm.put]
    simp only [Tm.enc, List.length_cons, pT_len u S b (d + 1) (s + 1)]
  | .app f a, d, s => by
    rw [pO_appT, Tm.put]
    simp only [Tm.enc, List.length_cons, List.length_append, pT_len u S f d (s + 1), pT_len u S a d (s + 1 + f.enc.length)]
theorem StI.len {t v : Tm} {k : Nat} {O : List Nat} (h : StI t k v O) : O.length = v.enc.length := by
  induction h with
  | root => exact pT_len _ _ _ _ _
  | lam _ ih => simp only [Tm.enc, List.length_cons, List.length_map]; omega
  | fn _ ih => simp only [Tm.enc, List.length_cons, List.length_append, List.length_map, List.length_range']; omega
  | arg _ ih => simp only [Tm.enc, List.length_cons, List.length_append, List.length_map, List.length_range']; omega
theorem StI.bnd {t v : Tm} {k : Nat} {O : List Nat} (h : StI t k v O) : ∀ o ∈ O, o < t.enc.length := by
  induction h with
  | @root b u =>
    intro o ho
    simp only [Tm.enc, List.length_cons, List.length_append]
    rcases pO_mem ho with g | g <;> (simp only [List.mem_range'_1] at g; omega)
  | lam _ ih =>
    intro o ho
    simp only [Tm.enc, List.length_cons]
    rcases List.mem_cons.mp ho with rfl | g
    · omega
    · obtain ⟨x, hx, rfl⟩ := List.mem_map.mp g
      have := ih x hx
      omega
  | fn _ ih =>
    intro o ho
    simp only [Tm.enc, List.length_cons, List.length_append]
    rcases List.mem_cons.mp ho with rfl | g
    · omega
    · rcases List.mem_append.mp g with g | g
      · obtain ⟨x, hx, rfl⟩ := List.mem_map.mp g
        have := ih x hx
        omega
      · simp only [List.mem_range'_1] at g
        omega
  | arg _ ih =>
    intro o ho
    simp only [Tm.enc, List.length_cons, List.length_append]
    rcases List.mem_cons.mp ho with rfl | g
    · omega
    · rcases List.mem_append.mp g with g | g
      · simp only [List.mem_range'_1] at g
        omega
      · obtain ⟨x, hx, rfl⟩ := List.mem_map.mp g
        have := ih x hx
        omega
theorem StI.lift {t v : Tm} {k : Nat} {O : List Nat} (h : StI t k v O) (c : Nat) : ∀ d, ∃ O', StI (t.vmap (lif c) d) k (v.vmap (lif c) d) O' := by
  induction h with
  | @root b u =>
    intro d
    have := Tm.lif_put u c d b 0
    rw [Nat.zero_add] at this
    rw [this]
    exact ⟨_, .root⟩
  | lam _ ih =>
    intro d
    obtain ⟨O', h⟩ := ih (d + 1)
    exact ⟨_, .lam h⟩
  | fn _ ih =>
    intro d
    obtain ⟨O', h⟩ := ih d
    exact ⟨_, .fn h⟩
  | @arg f a a' k O _ ih =>
    intro d
    obtain ⟨O', h⟩ := ih d
    have := StI.arg (f := f.vmap (lif c) d) h
    rw [Tm.vmap_len] at this
    exact ⟨_, this⟩
/-- a redex in the body -/
theorem StI.body {b b' : Tm} {k : Nat} {Ob : List Nat} (h : StI b k b' Ob) (u : Tm) : ∀ (d s S : Nat), s + b.enc.length ≤ S →
    ∃ kx Ox, StI (Tm.put u d b) kx (Tm.put u d b') Ox ∧ posN (s + k) 0 (pO (List.range' S u.enc.length) b.enc (b.deps d) (List.range' s b.enc.length)) = [kx] := by
  induction h with
  | @root b1 u1 =>
    intro d s S hS
    have e := Tm.put_put2 u1 u d b1 0
    rw [Nat.zero_add] at e
    refine ⟨0, _, by rw [e]; exact .root, ?_⟩
    rw [pO_appT, posN, if_pos (by omega), posN_none]
    intro hm
    simp only [Tm.enc, List.length_cons, List.length_append] at hS
    rcases List.mem_append.mp hm with g | g <;> rcases pO_mem g with g | g <;> (simp only [List.mem_range'_1] at g; omega)
  | @lam b1 b1' k O _ ih =>
    intro d s S hS
    simp only [Tm.enc, List.length_cons] at hS
    obtain ⟨kx, Ox, h1, h2⟩ := ih (d + 1) (s + 1) S (by omega)
    refine ⟨kx + 1, _, .lam h1, ?_⟩
    rw [pO_lam, posN, if_neg (by omega), show s + (k + 1) = s + 1 + k by omega, posN_shift, h2]
    rfl
  | @fn f f' a k O h0 ih =>
    intro d s S hS
    simp only [Tm.enc, List.length_cons, List.length_append] at hS
    obtain ⟨kx, Ox, h1, h2⟩ := ih d (s + 1) S (by omega)
    have hk := h0.lt
    refine ⟨kx + 1, _, .fn h1, ?_⟩
    rw [pO_appT, posN, if_neg (by omega), show s + (k + 1) = s + 1 + k by omega, posN_app, posN_shift, h2, posN_none (xs := pO _ a.enc _ _)]
    · rfl
    · intro g
      rcases pO_mem g with g | g <;> (simp only [List.mem_range'_1] at g; omega)
  | @arg f a a' k O h0 ih =>
    intro d s S hS
    simp only [Tm.enc, List.length_cons, List.length_append] at hS
    obtain ⟨kx, Ox, h1, h2⟩ := ih d (s + 1 + f.enc.length) S (by omega)
    have hk := h0.lt
    refine ⟨kx + (1 + (Tm.put u d f).enc.length), _, .arg h1, ?_⟩
    rw [pO_appT, posN, if_neg (by omega), show s + (k + (1 + f.enc.length)) = s + 1 + f.enc.length + k by omega, posN_app, posN_none (xs := pO _ f.enc _ _), pT_len, show 0 + 1 + (Tm.put u d f).enc.length = 0 + (1 + (Tm.put u d f).enc.length) by omega, posN_shift, h2]
    · simp
    · intro g
      rcases pO_mem g with g | g <;> (simp only [List.mem_range'_1] at g; omega)
theorem red_sti : ∀ {t : Tm} {p : List Nat} {i : Nat} {b u : Tm}, t.Red p i b u → StI t i (t.step p) (stepO t i b u)
  | t, [], i, b, u, h => by
    have h2 : t.sub [] = some (i, .app (.lam b) u) := h
    rw [Tm.sub_nil] at h2
    cases h2
    rw [Tm.step_red h, Tm.rep_nil]
    have e : stepO (.app (.lam b) u) 0 b u = rootO b u := by
      unfold stepO rootO
      rw [show (Tm.app (.lam b) u).enc.length = 0 + 2 + b.enc.length + u.enc.length by simp only [Tm.enc, List.length_cons, List.length_append]; omega, Nat.sub_self, Nat.zero_add]
      simp
    rw [e]
    exact .root
  | .var n, c :: p, i, b, u, h => by simp [Tm.Red, Tm.sub] at h
  | .lam c0, c :: p, i, b, u, h => by
    have h2 : (Tm.lam c0).sub (c :: p) = some (i, .app (.lam b) u) := h
    simp only [Tm.sub] at h2
    split at h2
    · rename_i hc
      subst hc
      obtain ⟨⟨k, x⟩, hk, e⟩ := Option.map_eq_some_iff.mp h2
      cases e
      have hr : c0.Red p k b u := hk
      have ih := red_sti hr
      have lt := Tm.sub_lt hk
      rw [Tm.step_red h, show Tm.rep (Tm.put u 0 b) (.lam c0) (98 :: p) = .lam (Tm.rep (Tm.put u 0 b) c0 p) from rfl, ← Tm.step_red hr]
      have e : stepO (.lam c0) (k + 1) b u = 0 :: (stepO c0 k b u).map (· + 1) := by
        unfold stepO
        rw [List.map_append, List.map_append, pO_map, range_up, range_up, range_up, range_up, List.range'_succ (n := k)]
        simp only [Tm.enc, List.length_cons, List.cons_append]
        rw [show k + 1 + 2 + b.enc.length = k + 2 + b.enc.length + 1 by omega, show k + 1 + 2 = k + 2 + 1 by omega, show k + 2 + b.enc.length + 1 + u.enc.length = k + 2 + b.enc.length + u.enc.length + 1 by omega, show c0.enc.length + 1 - (k + 2 + b.enc.length + u.enc.length + 1) = c0.enc.length - (k + 2 + b.enc.length + u.enc.length) by omega]
      rw [e]
      exact .lam ih
    · cases h2
  | .app f a, c :: p, i, b, u, h => by
    have h2 : (Tm.app f a).sub (c :: p) = some (i, .app (.lam b) u) := h
    simp only [Tm.sub] at h2
    split at h2
    · rename_i hc
      subst hc
      obtain ⟨⟨k, x⟩, hk, e⟩ := Option.map_eq_some_iff.mp h2
      cases e
      have hr : f.Red p k b u := hk
      have ih := red_sti hr
      have lt := Tm.sub_lt hk
      have hal : (Tm.app (.lam b) u).enc.length = b.enc.length + u.enc.length + 2 := by
        simp only [Tm.enc, List.length_cons, List.length_append]
        omega
      rw [hal] at lt
      rw [Tm.step_red h, show Tm.rep (Tm.put u 0 b) (.app f a) (102 :: p) = .app (Tm.rep (Tm.put u 0 b) f p) a from rfl, ← Tm.step_red hr]
      have e : stepO (.app f a) (k + 1) b u = 0 :: ((stepO f k b u).map (· + 1) ++ List.range' (1 + f.enc.length) a.enc.length) := by
        unfold stepO
        rw [List.map_append, List.map_append, pO_map, range_up, range_up, range_up, range_up, List.range'_succ (n := k)]
        simp only [Tm.enc, List.length_cons, List.cons_append, List.length_append, List.append_assoc]
        rw [show k + 1 + 2 + b.enc.length = k + 2 + b.enc.length + 1 by omega, show k + 1 + 2 = k + 2 + 1 by omega, show k + 2 + b.enc.length + 1 + u.enc.length = k + 2 + b.enc.length + u.enc.length + 1 by omega]
        have ha := List.range'_append (s := k + 2 + b.enc.length + u.enc.length + 1) (m := f.enc.length - (k + 2 + b.enc.length + u.enc.length)) (n := a.enc.length) (step := 1)
        rw [Nat.one_mul, show k + 2 + b.enc.length + u.enc.length + 1 + (f.enc.length - (k + 2 + b.enc.length + u.enc.length)) = 1 + f.enc.length by omega, show f.enc.length - (k + 2 + b.enc.length + u.enc.length) + a.enc.length = f.enc.length + a.enc.length + 1 - (k + 2 + b.enc.length + u.enc.length + 1) by omega] at ha
        rw [ha]
      rw [e]
      exact .fn ih
    · split at h2
      · rename_i hc1 hc
        subst hc
        obtain ⟨⟨k, x⟩, hk, e⟩ := Option.map_eq_some_iff.mp h2
        cases e
        have hr : a.Red p k b u := hk
        have ih := red_sti hr
        have lt := Tm.sub_lt hk
        have hal : (Tm.app (.lam b) u).enc.length = b.enc.length + u.enc.length + 2 := by
          simp only [Tm.enc, List.length_cons, List.length_append]
          omega
        rw [hal] at lt
        rw [Tm.step_red h, show Tm.rep (Tm.put u 0 b) (.app f a) (97 :: p) = .app f (Tm.rep (Tm.put u 0 b) a p) from rfl, ← Tm.step_red hr]
        have e : stepO (.app f a) (k + (1 + f.enc.length)) b u = 0 :: (List.range' 1 f.enc.length ++ (stepO a k b u).map (· + (1 + f.enc.length))) := by
          unfold stepO
          rw [List.map_append, List.map_append, pO_map, range_up, range_up, range_up, range_up]
          have ha := List.range'_append (s := 0) (m := 1 + f.enc.length) (n := k) (step := 1)
          rw [Nat.one_mul] at ha
          rw [show k + (1 + f.enc.length) = 1 + f.enc.length + k by omega, ← ha, show 1 + f.enc.length = f.enc.length + 1 by omega, List.range'_succ (n := f.enc.length)]
          simp only [Tm.enc, List.length_cons, List.cons_append, List.length_append, List.append_assoc]
          rw [show f.enc.length + 1 + k + 2 + b.enc.length = k + 2 + b.enc.length + (f.enc.length + 1) by omega, show f.enc.length + 1 + k + 2 = k + 2 + (f.enc.length + 1) by omega, show k + 2 + b.enc.length + (f.enc.length + 1) + u.enc.length = k + 2 + b.enc.length + u.enc.length + (f.enc.length + 1) by omega, show f.enc.length + a.enc.length + 1 - (k + 2 + b.enc.length + u.enc.length + (f.enc.length + 1)) = a.enc.length - (k + 2 + b.enc.length + u.enc.length) by omega]
        rw [e]
        exact .arg ih
      · cases h2
theorem getE_left {α : Type} {xs ys : List α} {i : Nat} (h : i < xs.length) : (xs ++ ys)[i]? = xs[i]? := List.getElem?_append_left h
theorem getE_right {α : Type} (xs ys : List α) (i : Nat) : (xs ++ ys)[i + xs.length]? = ys[i]? := by
  rw [List.getElem?_append_right (by omega), Nat.add_sub_cancel]
theorem StI.redB {t v : Tm} {k : Nat} {O : List Nat} (h : StI t k v O) : redB t.enc k = true := by
  induction h with
  | root => exact redB_iff.mpr ⟨rfl, rfl⟩
  | lam _ ih =>
    obtain ⟨h1, h2⟩ := redB_iff.mp ih
    exact redB_iff.mpr ⟨h1, h2⟩
  | @fn f f' a k O h ih =>
    obtain ⟨h1, h2⟩ := redB_iff.mp ih
    have hk := h.lt
    refine redB_iff.mpr ⟨?_, ?_⟩
    · show (f.enc ++ a.enc)[k]? = _
      rw [getE_left (by omega), h1]
    · show (f.enc ++ a.enc)[k + 1]? = _
      rw [getE_left (by omega), h2]
  | @arg f a a' k O h ih =>
    obtain ⟨h1, h2⟩ := redB_iff.mp ih
    refine redB_iff.mpr ⟨?_, ?_⟩
    · rw [show k + (1 + f.enc.length) = k + f.enc.length + 1 by omega]
      show (f.enc ++ a.enc)[k + f.enc.length]? = _
      rw [getE_right, h1]
    · rw [show k + (1 + f.enc.length) + 1 = k + 1 + f.enc.length + 1 by omega]
      show (f.enc ++ a.enc)[k + 1 + f.enc.length]? = _
      rw [getE_right, h2]
def plc (t : Tm) (k : Nat) : List Nat := (t.pls []).getD k []
theorem red_plc {t : Tm} {p : List Nat} {k : Nat} {b u : Tm} (h : t.Red p k b u) : plc t k = p := by
  obtain ⟨_, hp⟩ := Tm.sub_at t p [] h
  unfold plc
  rw [List.getD_eq_getElem?_getD, hp]
  rfl
theorem red_of_redB {t : Tm} {k : Nat} (h : Ly.redB t.enc k = true) : ∃ b u, t.Red (plc t k) k b u := by
  have lt := redB_lt h
  obtain ⟨q, hq⟩ : ∃ q, (t.pls [])[k]? = some q := ⟨_, List.getElem?_eq_getElem (by rw [t.pls_len]; omega)⟩
  obtain ⟨s, j, u, e, hs⟩ := Tm.sub_of t [] (List.mem_of_getElem? hq)
  simp only [List.nil_append] at e
  subst e
  obtain ⟨_, hp⟩ := Tm.sub_at t q [] hs
  have e2 : k = j := same_at (Tm.pls_order t []) hq hp
  subst e2
  obtain ⟨b, c, rfl⟩ := (red_of hs).mp h
  have hr : t.Red q k b c := hs
  rw [red_plc hr]
  exact ⟨b, c, hr⟩
theorem StI.uniq {t v : Tm} {k : Nat} {O : List Nat} (h : StI t k v O) : ∀ {v' : Tm} {O' : List Nat}, StI t k v' O' → v' = v ∧ O' = O := by
  induction h with
  | @root b u =>
    intro v' O' g
    generalize hk : (0 : Nat) = z at g
    cases g with
    | root => exact ⟨rfl, rfl⟩
    | fn => omega
    | arg => omega
  | lam _ ih =>
    intro v' O' g
    cases g with
    | lam g =>
      obtain ⟨rfl, rfl⟩ := ih g
      exact ⟨rfl, rfl⟩
  | @fn f f' a k O h ih =>
    intro v' O' g
    have hk := h.lt
    generalize hz : k + 1 = z at g
    cases g with
    | root => omega
    | @fn _ _ _ k2 _ g =>
      have e : k2 = k := by omega
      subst e
      obtain ⟨rfl, rfl⟩ := ih g
      exact ⟨rfl, rfl⟩
    | arg g => omega
  | @arg f a a' k O h ih =>
    intro v' O' g
    generalize hz : k + (1 + f.enc.length) = z at g
    cases g with
    | root => omega
    | fn g =>
      have := g.lt
      omega
    | @arg _ _ _ k2 _ g =>
      have e : k2 = k := by omega
      subst e
      obtain ⟨rfl, rfl⟩ := ih g
      exact ⟨rfl, rfl⟩
theorem sti_red {t v : Tm} {k : Nat} {O : List Nat} (h : StI t k v O) : ∃ b u, t.Red (plc t k) k b u ∧ t.step (plc t k) = v ∧ stepO t k b u = O := by
  obtain ⟨b, u, hr⟩ := red_of_redB h.redB
  obtain ⟨e1, e2⟩ := h.uniq (red_sti hr)
  exact ⟨b, u, hr, e1, e2⟩
theorem pls_head (t : Tm) (q : List Nat) : (t.pls q)[0]? = some q := by cases t <;> rfl
/-- what stands in front of a step stays -/
theorem StI.front {t v : Tm} {k : Nat} {O : List Nat} (h : StI t k v O) : ∀ x, x < k → v.enc[x]? = t.enc[x]? ∧ O[x]? = some x := by
  induction h with
  | root => exact fun x hx => absurd hx (Nat.not_lt_zero x)
  | @lam b b' k O h ih =>
    intro x hx
    cases x with
    | zero => exact ⟨rfl, rfl⟩
    | succ x =>
      obtain ⟨h1, h2⟩ := ih x (by omega)
      refine ⟨h1, ?_⟩
      show (O.map (· + 1))[x]? = _
      rw [List.getElem?_map, h2]
      rfl
  | @fn f f' a k O h ih =>
    intro x hx
    cases x with
    | zero => exact ⟨rfl, rfl⟩
    | succ x =>
      obtain ⟨h1, h2⟩ := ih x (by omega)
      have hk := h.lt
      have hO := (List.getElem?_eq_some_iff.mp h2).1
      have hl := h.len
      refine ⟨?_, ?_⟩
      · show (f'.enc ++ a.enc)[x]? = (f.enc ++ a.enc)[x]?
        rw [getE_left (by omega), getE_left (by omega), h1]
      · show (O.map (· + 1) ++ _)[x]? = _
        rw [getE_left (by rw [List.length_map]; exact hO), List.getElem?_map, h2]
        rfl
  | @arg f a a' k O h ih =>
    intro x hx
    cases x with
    | zero => exact ⟨rfl, rfl⟩
    | succ x =>
      by_cases hf : x < f.enc.length
      · refine ⟨?_, ?_⟩
        · show (f.enc ++ a'.enc)[x]? = (f.enc ++ a.enc)[x]?
          rw [getE_left hf, getE_left hf]
        · show (List.range' 1 f.enc.length ++ _)[x]? = _
          rw [getE_left (by rw [List.length_range']; exact hf), List.getElem?_range' hf]
          congr 1
          omega
      · obtain ⟨y, rfl⟩ : ∃ y, x = y + f.enc.length := ⟨x - f.enc.length, by omega⟩
        obtain ⟨h1, h2⟩ := ih y (by omega)
        refine ⟨?_, ?_⟩
        · show (f.enc ++ a'.enc)[y + f.enc.length]? = (f.enc ++ a.enc)[y + f.enc.length]?
          rw [getE_right, getE_right, h1]
        · show (List.range' 1 f.enc.length ++ _)[y + f.enc.length]? = _
          have := getE_right (List.range' 1 f.enc.length) (O.map (· + (1 + f.enc.length))) y
          rw [List.length_range'] at this
          rw [this, List.getElem?_map, h2]
          show some (y + (1 + f.enc.length)) = _
          congr 1
          omega
theorem StI.plc_le {t v : Tm} {k : Nat} {O : List Nat} (h : StI t k v O) : ∀ (q : List Nat) (x : Nat), x ≤ k → (v.pls q)[x]? = (t.pls q)[x]? := by
  induction h with
  | root =>
    intro q x hx
    have e : x = 0 := by omega
    subst e
    rw [pls_head, pls_head]
  | lam _ ih =>
    intro q x hx
    cases x with
    | zero => rfl
    | succ x => exact ih _ x (by omega)
  | @fn f f' a k O h ih =>
    intro q x hx
    cases x with
    | zero => rfl
    | succ x =>
      have h1 := ih (q ++ [102]) x (by omega)
      have hk := h.lt
      have hx1 : x < (f.pls (q ++ [102])).length := by rw [Tm.pls_len]; omega
      have hx2 : x < (f'.pls (q ++ [102])).length := by
        obtain ⟨z, hz⟩ : ∃ z, (f.pls (q ++ [102]))[x]? = some z := ⟨_, List.getElem?_eq_getElem hx1⟩
        rw [hz] at h1
        exact (List.getElem?_eq_some_iff.mp h1).1
      show (f'.pls (q ++ [102]) ++ a.pls (q ++ [97]))[x]? = (f.pls (q ++ [102]) ++ a.pls (q ++ [97]))[x]?
      rw [getE_left hx1, getE_left hx2, h1]
  | @arg f a a' k O h ih =>
    intro q x hx
    cases x with
    | zero => rfl
    | succ x =>
      show (f.pls (q ++ [102]) ++ a'.pls (q ++ [97]))[x]? = (f.pls (q ++ [102]) ++ a.pls (q ++ [97]))[x]?
      by_cases hf : x < f.enc.length
      · rw [getE_left (by rw [Tm.pls_len]; exact hf), getE_left (by rw [Tm.pls_len]; exact hf)]
      · obtain ⟨y, rfl⟩ : ∃ y, x = y + f.enc.length := ⟨x - f.enc.length, by omega⟩
        have e1 := getE_right (f.pls (q ++ [102])) (a'.pls (q ++ [97])) y
        have e2 := getE_right (f.pls (q ++ [102])) (a.pls (q ++ [97])) y
        rw [Tm.pls_len] at e1 e2
        rw [e1, e2]
        exact ih _ y (by omega)
theorem StI.plc_eq {t v : Tm} {k : Nat} {O : List Nat} (h : StI t k v O) {x : Nat} (hx : x ≤ k) : plc v x = plc t x := by
  unfold plc
  rw [List.getD_eq_getElem?_getD, List.getD_eq_getElem?_getD, h.plc_le [] x hx]
/-- indices from the last to the first: all their places are told beforehand -/
def Dec : List Nat → Prop
  | [] => True
  | x :: xs => (∀ y ∈ xs, y < x) ∧ Dec xs
theorem Als.road {t v : Tm} {ks : List Nat} (h : Als t ks v) : Dec ks → Road t (ks.map (plc t)) ∧ t.along (ks.map (plc t)) = v := by
  induction h with
  | nil => exact fun _ => ⟨.nil, rfl⟩
  | @cons t t1 v k ks O h r ih =>
    rintro ⟨hd, hd2⟩
    obtain ⟨g1, g2⟩ := ih hd2
    have e : ks.map (plc t1) = ks.map (plc t) := List.map_congr_left fun y hy => h.plc_eq (Nat.le_of_lt (hd y hy))
    obtain ⟨b, u, hr, hs, _⟩ := sti_red h
    rw [e, ← hs] at g1 g2
    refine ⟨.cons ?_ g1, g2⟩
    unfold Tm.isRed
    exact decide_eq_true (Tm.red_mem.mpr ⟨_, _, _, hr⟩)
end Ly
set_option Elab.async false
set_option linter.all false
set_option maxRecDepth 100000
namespace Ly
open PySem PySem.Spec PyProof.Rows L2 Evl
theorem rn_head {t v : Tm} {r : List (List Nat)} {ms : List Mv} (h : Run t r ms v) {m : Mv} (hm : ms[0]? = some m) : m.t = t := by
  cases h with
  | nil => simp at hm
  | cons => simp at hm; rw [← hm]
theorem rn_next {t v : Tm} {r : List (List Nat)} {ms : List Mv} (h : Run t r ms v) : ∀ {k : Nat} {m m' : Mv}, ms[k]? = some m → ms[k + 1]? = some m' → m'.t = m.nx := by
  induction h with
  | nil =>
    intro k m m' h
    simp at h
  | @cons t v p i b u r ms h hf hr ih =>
    intro k m m' h1 h2
    cases k with
    | zero =>
      simp at h1
      rw [← h1]
      exact rn_head hr (by simpa using h2)
    | succ k => exact ih (by simpa using h1) (by simpa using h2)
theorem Mv.sti {m : Mv} (h : m.ok) : StI m.t m.i m.nx m.O := red_sti h
theorem Mv.plc {m : Mv} (h : m.ok) : Ly.plc m.t m.i = m.p := red_plc h
theorem StI.ge {t v : Tm} {k : Nat} {O : List Nat} (h : StI t k v O) : ∀ y o, O[y]? = some o → o < k → y = o := by
  induction h with
  | root => exact fun _ _ _ h => absurd h (Nat.not_lt_zero _)
  | @lam b b' k O h ih =>
    intro y o hy ho
    cases y with
    | zero => simp at hy; exact hy
    | succ y =>
      have hy : (O.map (· + 1))[y]? = some o := hy
      rw [List.getElem?_map] at hy
      obtain ⟨x, hx, rfl⟩ := Option.map_eq_some_iff.mp hy
      have := ih y x hx (by omega)
      omega
  | @fn f f' a k O h ih =>
    intro y o hy ho
    have hk := h.lt
    cases y with
    | zero => simp at hy; exact hy
    | succ y =>
      have hy : (O.map (· + 1) ++ List.range' (1 + f.enc.length) a.enc.length)[y]? = some o := hy
      by_cases hl : y < (O.map (· + 1)).length
      · rw [getE_left hl, List.getElem?_map] at hy
        obtain ⟨x, hx, rfl⟩ := Option.map_eq_some_iff.mp hy
        have := ih y x hx (by omega)
        omega
      · rw [List.getElem?_append_right (by omega)] at hy
        have := List.mem_of_getElem? hy
        simp only [List.mem_range'_1] at this
        omega
  | @arg f a a' k O h ih =>
    intro y o hy ho
    cases y with
    | zero => simp at hy; exact hy
    | succ y =>
      have hy : (List.range' 1 f.enc.length ++ O.map (· + (1 + f.enc.length)))[y]? = some o := hy
      by_cases hl : y < f.enc.length
      · rw [getE_left (by rw [List.length_range']; exact hl), List.getElem?_range' hl] at hy
        have := Option.some.inj hy
        omega
      · rw [List.getElem?_append_right (by rw [List.length_range']; omega), List.length_range', List.getElem?_map] at hy
        obtain ⟨x, hx, rfl⟩ := Option.map_eq_some_iff.mp hy
        have := ih _ x hx (by omega)
        omega
/-- steps behind p and its abstraction leave both as they are -/
theorem ahead {t v : Tm} {road : List (List Nat)} {ms : List Mv} (h : Run t road ms v) (p : Nat) : ∀ {k : Nat} {m : Mv}, ms[k]? = some m → (∀ j mj, j < k → ms[j]? = some mj → p + 1 < mj.i) →
    (∀ x, x ≤ p + 1 → m.t.enc[x]? = t.enc[x]? ∧ back (ms.take k) x = x) ∧ (∀ x, x ≤ p → redB t.enc x = true → src (ms.take k) x = some x) ∧ (∀ y, y < m.t.enc.length → back (ms.take k) y ≤ p + 1 → y ≤ p + 1)
  | 0, m, hm, _ => by
    rw [rn_head h hm]
    exact ⟨fun x _ => ⟨rfl, rfl⟩, fun x _ _ => rfl, fun y _ hy => hy⟩
  | k + 1, m, hm, hb => by
    obtain ⟨mk, hmk⟩ : ∃ mk, ms[k]? = some mk := ⟨_, List.getElem?_eq_getElem (by have := (List.getElem?_eq_some_iff.mp hm).1; omega)⟩
    obtain ⟨i1, i2, i3⟩ := ahead h p hmk fun j mj hj => hb j mj (by omega)
    have hpi := hb k mk (by omega) hmk
    have hok := (h.sub hmk).1
    have hs := mk.sti hok
    rw [rn_next h hmk hm]
    have tk : ms.take (k + 1) = ms.take k ++ [mk] := by rw [List.take_add_one, hmk]; rfl
    have hg : ∀ x, x ≤ p + 1 → mk.O.getD x 0 = x := fun x hx => by
      rw [List.getD_eq_getElem?_getD, (hs.front x (by omega)).2]
      rfl
    refine ⟨fun x hx => ?_, fun x hx hr => ?_, fun y hy hb2 => ?_⟩
    · rw [(hs.front x (by omega)).1, tk, back_app, hg x hx]
      exact i1 x hx
    · rw [tk, src_snoc, hg x (by omega), if_pos (by
        obtain ⟨r1, r2⟩ := redB_iff.mp hr
        exact redB_iff.mpr ⟨by rw [(i1 x (by omega)).1, r1], by rw [(i1 (x + 1) (by omega)).1, r2]⟩)]
      exact i2 x hx hr
    · obtain ⟨o, ho, he, hol⟩ := Mv.at mk hok hy
      rw [tk, back_app, he] at hb2
      have ho1 := i3 o hol hb2
      have := hs.ge y o ho (by omega)
      omega
theorem src_red {t v : Tm} {road : List (List Nat)} {ms : List Mv} (h : Run t road ms v) : ∀ {k : Nat} {m : Mv} {x s : Nat}, ms[k]? = some m → redB m.t.enc x = true → src (ms.take k) x = some s → redB t.enc s = true
  | 0, m, x, s, hm, hx, hs => by
    rw [rn_head h hm] at hx
    have : x = s := Option.some.inj hs
    rw [← this]
    exact hx
  | k + 1, m, x, s, hm, hx, hs => by
    obtain ⟨mk, hmk⟩ : ∃ mk, ms[k]? = some mk := ⟨_, List.getElem?_eq_getElem (by have := (List.getElem?_eq_some_iff.mp hm).1; omega)⟩
    rw [show ms.take (k + 1) = ms.take k ++ [mk] by rw [List.take_add_one, hmk]; rfl, src_snoc] at hs
    split at hs
    · rename_i hr
      exact src_red h hmk hr hs
    · cases hs
/-- the least source, and the first move with it -/
structure Least (ms : List Mv) (p n : Nat) : Prop where
  at_ : ∃ m, ms[n]? = some m ∧ src (ms.take n) m.i = some p
  min : ∀ k m s, ms[k]? = some m → src (ms.take k) m.i = some s → p ≤ s ∧ (s = p → n ≤ k)
theorem Least.red {t v : Tm} {road : List (List Nat)} {ms : List Mv} (h : Run t road ms v) {p n : Nat} (L : Least ms p n) : redB t.enc p = true := by
  obtain ⟨m, hm, hs⟩ := L.at_
  exact src_red h hm (m.sti (h.sub hm).1).redB hs
theorem Least.behind {t v : Tm} {road : List (List Nat)} {ms : List Mv} (h : Run t road ms v) {p n : Nat} (L : Least ms p n) : ∀ k, k < n → ∀ j mj, j < k + 1 → ms[j]? = some mj → p + 1 < mj.i := by
  intro k
  have key : ∀ k mk, k < n → ms[k]? = some mk → (∀ j mj, j < k → ms[j]? = some mj → p + 1 < mj.i) → p + 1 < mk.i := by
    intro k mk hk hmk hb
    obtain ⟨i1, i2, _⟩ := ahead h p hmk hb
    obtain ⟨r1, r2⟩ := redB_iff.mp (mk.sti (h.sub hmk).1).redB
    obtain ⟨p1, p2⟩ := redB_iff.mp (L.red h)
    by_cases hle : mk.i ≤ p
    · have hr : redB t.enc mk.i = true := redB_iff.mpr ⟨by rw [← (i1 mk.i (by omega)).1, r1], by rw [← (i1 (mk.i + 1) (by omega)).1, r2]⟩
      have hs := i2 mk.i hle hr
      obtain ⟨h1, h2⟩ := L.min k mk mk.i hmk hs
      have := h2 (by omega)
      omega
    · by_cases he : mk.i = p + 1
      · rw [he, (i1 (p + 1) (by omega)).1, p2] at r1
        exact absurd (V.str.inj (Option.some.inj r1)) str_ne1
      · omega
  induction k with
  | zero =>
    intro hk j mj hj hmj
    have e : j = 0 := by omega
    subst e
    exact key 0 mj hk hmj fun j _ hj => absurd hj (Nat.not_lt_zero j)
  | succ k ih =>
    intro hk j mj hj hmj
    by_cases e : j = k + 1
    · subst e
      exact key (k + 1) mj hk hmj (ih (by omega))
    · exact ih (by omega) j mj (by omega) hmj
theorem Least.front {t v : Tm} {road : List (List Nat)} {ms : List Mv} (h : Run t road ms v) {p n : Nat} (L : Least ms p n) : ∀ j mj, j < n → ms[j]? = some mj → p + 1 < mj.i := by
  intro j mj hj hm
  exact L.behind h j hj j mj (by omega) hm
def mvs : Tm → List (List Nat) → List Mv
  | _, [] => []
  | t, p :: r => match t.sub p with
    | some (i, .app (.lam b) u) => ⟨t, p, i, b, u⟩ :: mvs (t.step p) r
    | _ => []
def i0 : List Mv → Nat
  | [] => 0
  | m :: _ => m.i
def lst (t : Tm) (road : List (List Nat)) : Nat × Nat := fsN (mvs t road) (i0 (mvs t road)) ((mvs t road).length - 1)
/-- one of them: its step, and its place, which is as told beforehand -/
theorem Als.get {t v : Tm} {ks : List Nat} (h : Als t ks v) : Dec ks → ∀ {i k : Nat}, ks[i]? = some k → ∃ w O, StI (t.along ((ks.take i).map (plc t))) k w O ∧ plc (t.along ((ks.take i).map (plc t))) k = plc t k := by
  induction h with
  | nil =>
    intro _ i k hk
    simp at hk
  | @cons t t1 v k0 ks O h r ih =>
    rintro ⟨hd, hd2⟩ i k hk
    cases i with
    | zero =>
      simp at hk
      subst hk
      exact ⟨_, _, h, rfl⟩
    | succ i =>
      have hk : ks[i]? = some k := by simpa using hk
      obtain ⟨w, O', g1, g2⟩ := ih hd2 hk
      obtain ⟨b, u, hr, hs, _⟩ := sti_red h
      have e : (ks.take i).map (plc t1) = (ks.take i).map (plc t) := List.map_congr_left fun y hy => h.plc_eq (Nat.le_of_lt (hd y (List.mem_of_mem_take hy)))
      rw [e, ← hs] at g1 g2
      refine ⟨w, O', g1, ?_⟩
      show plc ((t.step (plc t k0)).along ((ks.take i).map (plc t))) k = plc t k
      rw [g2, hs]
      exact h.plc_eq (Nat.le_of_lt (hd k (List.mem_of_getElem? hk)))
end Ly
set_option Elab.async false
set_option linter.all false
set_option maxRecDepth 100000
namespace Ly
open PySem PySem.Spec PyProof.Rows L2 Evl
end Ly
set_option Elab.async false
set_option linter.all false
set_option maxRecDepth 100000
namespace Ly
open PySem PySem.Spec PyProof.Rows L2 Evl
end Ly
set_option Elab.async false
set_option linter.all false
set_option maxRecDepth 100000
namespace Ly
open PySem PySem.Spec PyProof.Rows L2 Evl
/-- how often a variable stands in a term -/
def Tm.cnt : Nat → Tm → Nat
  | d, .var n => if n = d then 1 else 0
  | d, .lam b => b.cnt (d + 1)
  | d, .app f a => f.cnt d + a.cnt d
def Tm.aff : Tm → Prop
  | .var _ => True
  | .lam b => b.cnt 0 ≤ 1 ∧ b.aff
  | .app f a => f.aff ∧ a.aff
theorem cnt_lif_lo (c : Nat) : ∀ (t : Tm) {e d : Nat}, d < e → (t.vmap (lif c) e).cnt d = t.cnt d
  | .var n, e, d, h => by
    show (if lif c e n = d then 1 else 0) = if n = d then 1 else 0
    unfold lif
    split
    · rw [if_neg (by omega), if_neg (by omega)]
    · rfl
  | .lam b, e, d, h => cnt_lif_lo c b (by omega)
  | .app f a, e, d, h => by
    show (f.vmap (lif c) e).cnt d + (a.vmap (lif c) e).cnt d = _
    rw [cnt_lif_lo c f h, cnt_lif_lo c a h]
    rfl
theorem cnt_lif_mid (c : Nat) : ∀ (t : Tm) {e d : Nat}, e ≤ d → d < e + c → (t.vmap (lif c) e).cnt d = 0
  | .var n, e, d, h, h2 => by
    show (if lif c e n = d then 1 else 0) = 0
    unfold lif
    split
    · rw [if_neg (by omega)]
    · rw [if_neg (by omega)]
  | .lam b, e, d, h, h2 => cnt_lif_mid c b (by omega) (by omega)
  | .app f a, e, d, h, h2 => by
    show (f.vmap (lif c) e).cnt d + (a.vmap (lif c) e).cnt d = _
    rw [cnt_lif_mid c f h h2, cnt_lif_mid c a h h2]
theorem cnt_lif_hi (c : Nat) : ∀ (t : Tm) {e d : Nat}, e ≤ d → (t.vmap (lif c) e).cnt (d + c) = t.cnt d
  | .var n, e, d, h => by
    show (if lif c e n = d + c then 1 else 0) = if n = d then 1 else 0
    unfold lif
    split
    · by_cases z : n = d
      · rw [if_pos (by omega), if_pos z]
      · rw [if_neg (by omega), if_neg z]
    · rw [if_neg (by omega), if_neg (by omega)]
  | .lam b, e, d, h => by
    have := cnt_lif_hi c b (e := e + 1) (d := d + 1) (by omega)
    show (b.vmap (lif c) (e + 1)).cnt (d + c + 1) = b.cnt (d + 1)
    rw [show d + c + 1 = d + 1 + c by omega, this]
  | .app f a, e, d, h => by
    show (f.vmap (lif c) e).cnt (d + c) + (a.vmap (lif c) e).cnt (d + c) = _
    rw [cnt_lif_hi c f h, cnt_lif_hi c a h]
    rfl
theorem aff_lif (c : Nat) : ∀ (t : Tm) {e : Nat}, t.aff → (t.vmap (lif c) e).aff
  | .var _, _, _ => trivial
  | .lam b, e, h => ⟨by rw [cnt_lif_lo c b (by omega)]; exact h.1, aff_lif c b h.2⟩
  | .app f a, e, h => ⟨aff_lif c f h.1, aff_lif c a h.2⟩
theorem cnt_put_lo (u : Tm) : ∀ (b : Tm) {e d : Nat}, d < e → (Tm.put u e b).cnt d = b.cnt d
  | .var n, e, d, h => by
    rw [Tm.put]
    split
    · rfl
    · split
      · rename_i h1 h2
        have := cnt_lif_mid e u (e := 0) (d := d) (by omega) (by omega)
        rw [this]
        show 0 = if n = d then 1 else 0
        rw [if_neg (by omega)]
      · show (if n - 1 = d then 1 else 0) = if n = d then 1 else 0
        rw [if_neg (by omega), if_neg (by omega)]
  | .lam b, e, d, h => cnt_put_lo u b (by omega)
  | .app f a, e, d, h => by
    show (Tm.put u e f).cnt d + (Tm.put u e a).cnt d = _
    rw [cnt_put_lo u f h, cnt_put_lo u a h]
    rfl
theorem cnt_put_hi (u : Tm) : ∀ (b : Tm) (e d : Nat), (Tm.put u e b).cnt (d + e) = b.cnt (d + e + 1) + b.cnt e * u.cnt d
  | .var n, e, d => by
    rw [Tm.put]
    split
    · show (if n = d + e then 1 else 0) = (if n = d + e + 1 then 1 else 0) + (if n = e then 1 else 0) * _
      rw [if_neg (by omega), if_neg (by omega), if_neg (by omega)]
      omega
    · split
      · rename_i h1 h2
        have := cnt_lif_hi e u (e := 0) (d := d) (by omega)
        rw [this]
        show _ = (if n = d + e + 1 then 1 else 0) + (if n = e then 1 else 0) * _
        rw [if_neg (by omega), if_pos h2]
        omega
      · show (if n - 1 = d + e then 1 else 0) = (if n = d + e + 1 then 1 else 0) + (if n = e then 1 else 0) * _
        rename_i h1 h2
        rw [if_neg h2]
        by_cases z : n = d + e + 1
        · rw [if_pos (by omega), if_pos z]
          omega
        · rw [if_neg (by omega), if_neg z]
          omega
  | .lam b, e, d => by
    have := cnt_put_hi u b (e + 1) d
    show (Tm.put u (e + 1) b).cnt (d + e + 1) = b.cnt (d + e + 1 + 1) + b.cnt (e + 1) * u.cnt d
    rw [show d + e + 1 = d + (e + 1) by omega, this]
  | .app f a, e, d => by
    show (Tm.put u e f).cnt (d + e) + (Tm.put u e a).cnt (d + e) = (f.cnt (d + e + 1) + a.cnt (d + e + 1)) + (f.cnt e + a.cnt e) * u.cnt d
    rw [cnt_put_hi u f e d, cnt_put_hi u a e d, Nat.add_mul]
    omega
theorem aff_put (u : Tm) (hu : u.aff) : ∀ (b : Tm) {e : Nat}, b.aff → (Tm.put u e b).aff
  | .var n, e, _ => by
    rw [Tm.put]
    split
    · trivial
    · split
      · exact aff_lif e u hu
      · trivial
  | .lam b, e, h => ⟨by rw [cnt_put_lo u b (by omega)]; exact h.1, aff_put u hu b h.2⟩
  | .app f a, e, h => ⟨aff_put u hu f h.1, aff_put u hu a h.2⟩
theorem put_lenC (u : Tm) : ∀ (b : Tm) (e : Nat), (Tm.put u e b).enc.length + b.cnt e = b.enc.length + b.cnt e * u.enc.length
  | .var n, e => by
    rw [Tm.put]
    split
    · show 1 + (if n = e then 1 else 0) = 1 + (if n = e then 1 else 0) * _
      rw [if_neg (by omega)]
      omega
    · split
      · rename_i h1 h2
        rw [Tm.vmap_len]
        show _ + (if n = e then 1 else 0) = 1 + (if n = e then 1 else 0) * _
        rw [if_pos h2]
        omega
      · rename_i h1 h2
        show 1 + (if n = e then 1 else 0) = 1 + (if n = e then 1 else 0) * _
        rw [if_neg h2]
        omega
  | .lam b, e => by
    have := put_lenC u b (e + 1)
    show (Tm.put u (e + 1) b).enc.length + 1 + b.cnt (e + 1) = b.enc.length + 1 + b.cnt (e + 1) * _
    omega
  | .app f a, e => by
    have h1 := put_lenC u f e
    have h2 := put_lenC u a e
    show (Tm.app (Tm.put u e f) (Tm.put u e a)).enc.length + (f.cnt e + a.cnt e) = (Tm.app f a).enc.length + (f.cnt e + a.cnt e) * _
    simp only [Tm.enc, List.length_cons, List.length_append, Nat.add_mul]
    omega
/-- a step of such a term is smaller, such a term again, and uses no variable more often -/
theorem StI.aff {t v : Tm} {k : Nat} {O : List Nat} (h : StI t k v O) : t.aff → v.aff ∧ (∀ d, v.cnt d ≤ t.cnt d) ∧ v.enc.length < t.enc.length := by
  induction h with
  | @root b u =>
    rintro ⟨⟨h1, h2⟩, h3⟩
    refine ⟨aff_put u h3 b h2, fun d => ?_, ?_⟩
    · have := cnt_put_hi u b 0 d
      rw [Nat.add_zero] at this
      rw [this]
      show _ ≤ b.cnt (d + 1) + u.cnt d
      have : b.cnt 0 * u.cnt d ≤ 1 * u.cnt d := Nat.mul_le_mul h1 (Nat.le_refl _)
      omega
    · have h4 := put_lenC u b 0
      have h5 : b.cnt 0 * u.enc.length ≤ 1 * u.enc.length := Nat.mul_le_mul h1 (Nat.le_refl _)
      simp only [Tm.enc, List.length_cons, List.length_append]
      omega
  | @lam b b' k O h ih =>
    rintro ⟨h1, h2⟩
    obtain ⟨i1, i2, i3⟩ := ih h2
    refine ⟨⟨Nat.le_trans (i2 0) h1, i1⟩, fun d => i2 (d + 1), ?_⟩
    simp only [Tm.enc, List.length_cons]
    omega
  | @fn f f' a k O h ih =>
    rintro ⟨h1, h2⟩
    obtain ⟨i1, i2, i3⟩ := ih h1
    refine ⟨⟨i1, h2⟩, fun d => ?_, ?_⟩
    · have := i2 d
      show f'.cnt d + a.cnt d ≤ f.cnt d + a.cnt d
      omega
    · simp only [Tm.enc, List.length_cons, List.length_append]
      omega
  | @arg f a a' k O h ih =>
    rintro ⟨h1, h2⟩
    obtain ⟨i1, i2, i3⟩ := ih h2
    refine ⟨⟨h1, i1⟩, fun d => ?_, ?_⟩
    · have := i2 d
      show f.cnt d + a'.cnt d ≤ f.cnt d + a.cnt d
      omega
    · simp only [Tm.enc, List.length_cons, List.length_append]
      omega
theorem posN_rng (r s0 l s : Nat) : (posN r s (List.range' s0 l)).length ≤ 1 ∧ (¬ (s0 ≤ r ∧ r < s0 + l) → (posN r s (List.range' s0 l)).length = 0) := by
  by_cases h : s0 ≤ r ∧ r < s0 + l
  · obtain ⟨k, rfl⟩ : ∃ k, r = s0 + k := ⟨r - s0, by omega⟩
    rw [posN_range s k l s0 (by omega)]
    exact ⟨Nat.le_refl _, fun z => absurd h z⟩
  · rw [posN_none (by simp only [List.mem_range'_1]; omega)]
    exact ⟨Nat.zero_le _, fun _ => rfl⟩
theorem posN_cons (r s x : Nat) (xs : List Nat) : (posN r s (x :: xs)).length = (if x = r then 1 else 0) + (posN r (s + 1) xs).length := by
  rw [posN]
  split
  · simp only [List.length_cons]
    omega
  · omega
theorem pO_cnt (r S l : Nat) : ∀ (b : Tm) (d s0 s : Nat), (posN r s (pO (List.range' S l) b.enc (b.deps d) (List.range' s0 b.enc.length))).length ≤ (if s0 ≤ r ∧ r < s0 + b.enc.length then 1 else 0) + b.cnt d * (if S ≤ r ∧ r < S + l then 1 else 0)
  | .var n, d, s0, s => by
    rw [show List.range' s0 (Tm.var n).enc.length = List.range' s0 1 from rfl, pO_var]
    show _ ≤ (if s0 ≤ r ∧ r < s0 + 1 then 1 else 0) + (if n = d then 1 else 0) * _
    by_cases h : n = d
    · rw [if_pos h, if_pos h]
      have := posN_rng r S l s
      by_cases c : S ≤ r ∧ r < S + l
      · rw [if_pos c]
        have := this.1
        omega
      · rw [this.2 c]
        exact Nat.zero_le _
    · rw [if_neg h, if_neg h, posN_cons]
      show _ + 0 ≤ _
      split
      · rw [if_pos (by omega)]
        omega
      · omega
  | .lam b, d, s0, s => by
    rw [pO_lam, posN_cons]
    have := pO_cnt r S l b (d + 1) (s0 + 1) (s + 1)
    show _ ≤ (if s0 ≤ r ∧ r < s0 + (b.enc.length + 1) then 1 else 0) + b.cnt (d + 1) * _
    by_cases c : s0 = r
    · rw [if_neg (by omega)] at this
      rw [if_pos c, if_pos (by omega)]
      omega
    · rw [if_neg c]
      by_cases c2 : s0 + 1 ≤ r ∧ r < s0 + 1 + b.enc.length
      · rw [if_pos c2] at this
        rw [if_pos (by omega)]
        omega
      · rw [if_neg c2] at this
        rw [if_neg (by omega)]
        omega
  | .app f a, d, s0, s => by
    rw [pO_appT, posN_cons, posN_app, List.length_append]
    have h1 := pO_cnt r S l f d (s0 + 1) (s + 1)
    have h2 := pO_cnt r S l a d (s0 + 1 + f.enc.length) (s + 1 + (pO (List.range' S l) f.enc (f.deps d) (List.range' (s0 + 1) f.enc.length)).length)
    have e : (Tm.app f a).enc.length = f.enc.length + a.enc.length + 1 := by simp only [Tm.enc, List.length_cons, List.length_append]
    rw [e]
    show _ ≤ _ + (f.cnt d + a.cnt d) * _
    rw [Nat.add_mul]
    by_cases c : s0 = r
    · rw [if_neg (by omega)] at h1 h2
      rw [if_pos c, if_pos (by omega)]
      omega
    · rw [if_neg c]
      by_cases c2 : s0 + 1 ≤ r ∧ r < s0 + 1 + f.enc.length
      · rw [if_pos c2] at h1
        rw [if_neg (by omega)] at h2
        rw [if_pos (by omega)]
        omega
      · rw [if_neg c2] at h1
        by_cases c3 : s0 + 1 + f.enc.length ≤ r ∧ r < s0 + 1 + f.enc.length + a.enc.length
        · rw [if_pos c3] at h2
          rw [if_pos (by omega)]
          omega
        · rw [if_neg c3] at h2
          rw [if_neg (by omega)]
          omega
/-- a step of such a term copies no redex -/
theorem StI.once {t v : Tm} {k : Nat} {O : List Nat} (h : StI t k v O) : t.aff → ∀ r s, (posN r s O).length ≤ 1 := by
  induction h with
  | @root b u =>
    rintro ⟨⟨h1, _⟩, _⟩ r s
    have := pO_cnt r (2 + b.enc.length) u.enc.length b 0 2 s
    unfold rootO
    by_cases c : 2 + b.enc.length ≤ r ∧ r < 2 + b.enc.length + u.enc.length
    · rw [if_pos c, if_neg (by omega)] at this
      omega
    · rw [if_neg c] at this
      split at this <;> omega
  | @lam b b' k O h ih =>
    rintro ⟨_, h2⟩ r s
    rw [posN_cons]
    cases r with
    | zero =>
      rw [posN_none (by simp)]
      simp
    | succ r =>
      rw [posN_map r 1, if_neg (by omega)]
      have := ih h2 r (s + 1)
      omega
  | @fn f f' a k O h ih =>
    rintro ⟨h1, _⟩ r s
    rw [posN_cons, posN_app, List.length_append]
    have hg := posN_rng r (1 + f.enc.length) a.enc.length (s + 1 + (O.map (· + 1)).length)
    cases r with
    | zero =>
      rw [posN_none (xs := O.map (· + 1)) (by simp), hg.2 (by omega)]
      simp
    | succ r =>
      rw [posN_map r 1, if_neg (by omega)]
      have := ih h1 r (s + 1)
      by_cases c : r < f.enc.length
      · rw [hg.2 (by omega)]
        omega
      · rw [posN_none (fun z => by have := h.bnd r z; omega)]
        have := hg.1
        simp only [List.length_nil]
        omega
  | @arg f a a' k O h ih =>
    rintro ⟨_, h2⟩ r s
    rw [posN_cons, posN_app, List.length_append]
    have hg := posN_rng r 1 f.enc.length (s + 1)
    by_cases c : r < 1 + f.enc.length
    · rw [posN_none (xs := O.map (· + (1 + f.enc.length))) (fun z => by
        obtain ⟨x, _, e⟩ := List.mem_map.mp z
        omega)]
      by_cases c2 : 0 = r
      · rw [if_pos c2, hg.2 (by omega)]
        simp
      · rw [if_neg c2]
        have := hg.1
        simp only [List.length_nil]
        omega
    · obtain ⟨r', rfl⟩ : ∃ r', r = r' + (1 + f.enc.length) := ⟨r - (1 + f.enc.length), by omega⟩
      rw [if_neg (by omega), hg.2 (by omega), posN_map]
      have := ih h2 r' (s + 1 + (List.range' 1 f.enc.length).length)
      omega
end Ly
set_option Elab.async false
set_option linter.all false
set_option maxRecDepth 100000
namespace Ly
open PySem PySem.Spec PyProof.Rows L2 Evl
def rDGet (x y : V) (H : Hp) (Q : VK) : Prop := ∃ a v, x = .ref a ∧ DGet H a y (some v) ∧ Q v H
def rDIn (x y : V) (H : Hp) (Q : VK) : Prop := ∃ a o, x = .ref a ∧ DGet H a y o ∧ Q (.bl o.isSome) H
def rDNotIn (x y : V) (H : Hp) (Q : VK) : Prop := ∃ a o, x = .ref a ∧ DGet H a y o ∧ Q (.bl (!o.isSome)) H
def rDPut (x y v : V) (H : Hp) (N : Hp → Prop) : Prop := ∃ a H4, x = .ref a ∧ DPut H a y v H4 ∧ N H4
section
variable {σ : L2.St} {H : Hp} {Q : VK} {D : Ends} {td ty tx tv : TE} {a : Addr} {kvs : List (L2.Key × V)} {i : Int} {v : V}
theorem w_tdget (h : td σ H fun x H1 => ty σ H1 fun y H2 => rDGet x y H2 Q) : tDGet td ty σ H Q := h
theorem w_tdin (h : ty σ H fun y H1 => td σ H1 fun x H2 => rDIn x y H2 Q) : tDIn ty td σ H Q := h
theorem w_tdnotin (h : ty σ H fun y H1 => td σ H1 fun x H2 => rDNotIn x y H2 Q) : tDNotIn ty td σ H Q := h
theorem w_sdput (h : tv σ H fun v H1 => td σ H1 fun x H2 => ty σ H2 fun y H3 => rDPut x y v H3 fun H4 => D.nx σ H4) : sDPut td ty tv D σ H := h
theorem w_dnew (h : ∀ p, H p = none → Q (.ref p) (upd H p (.dK []))) : tDNewK σ H Q := h
theorem w_tdsetd (h : td σ H fun x H1 => ∃ a, x = .ref a ∧ IsD H1 a ∧ ty σ H1 fun y H2 => tx σ H2 fun z H3 => ∃ (kvs : List (L2.Key × V)) (k : L2.Key), H3 a = some (.dK kvs) ∧ y = kV k ∧ kvs.length < sizeLine ∧
  (∀ v, valV kvs k = some v → Q v H3) ∧ (valV kvs k = none → Q z (upd H3 a (.dK (putK kvs k z))))) : tDSetd td ty tx σ H Q := h
end
/-- the dict that numbers vs -/
def NumD (vs : List Nat) (kvs : List (L2.Key × V)) : Prop := kvs.length = vs.length ∧ ∀ n : Nat, valV kvs (.inl (n : Int)) = if n ∈ vs then some (.int (vs.idxOf n : Nat)) else none
theorem NumD.nil : NumD [] [] := ⟨rfl, fun n => rfl⟩
theorem NumD.put {vs : List Nat} {kvs : List (L2.Key × V)} {n : Nat} (h : NumD vs kvs) (hn : n ∉ vs) : NumD (vs ++ [n]) (putK kvs (.inl (n : Int)) (.int (vs.length : Nat))) := by
  have h0 : valV kvs (.inl (n : Int)) = none := by rw [h.2 n, if_neg hn]
  refine ⟨?_, fun m => ?_⟩
  · rw [putK_new _ h0, List.length_append, List.length_append, h.1]
    rfl
  · rw [valV_put, h.2 m]
    by_cases e : m = n
    · subst e
      rw [if_pos rfl, if_pos (by simp), List.idxOf_append, if_neg hn]
      simp
    · have e2 : ¬ ((.inl (m : Int) : L2.Key) = .inl (n : Int)) := fun z => e (by have := Sum.inl.inj z; omega)
      rw [if_neg e2]
      by_cases hm : m ∈ vs
      · rw [if_pos hm, if_pos (by simp [hm]), List.idxOf_append, if_pos hm]
      · rw [if_neg hm, if_neg (by simp [hm, e])]
end Ly
set_option Elab.async false
set_option linter.all false
set_option maxRecDepth 100000
set_option maxHeartbeats 2000000
namespace Ly
open PySem PySem.Spec PyProof.Rows L2 Evl
section
variable {σ : L2.St} {H : Hp} {Q : VK} {d : Addr} {o : Obj} {kvs : List (L2.Key × V)} {g : TG} {R : It → Hp → Prop} {td ty tx : TE}
end
/-- the indexes of the abstractions whose variables stand in a term, that begins at i under the abstractions row -/
def Tm.arnd : Nat → List Nat → Tm → List Nat
  | _, row, .var n => (row[n]?).toList
  | i, row, .lam b => b.arnd (i + 1) (i :: row)
  | i, row, .app f a => f.arnd (i + 1) row ++ a.arnd (i + 1 + f.enc.length) row
def arnds : Nat → List Tm → List (List Nat) → List Nat
  | i, t :: ts, r :: rs => t.arnd i r ++ arnds (i + t.enc.length) ts rs
  | _, _, _ => []
/-- in the midst of the walk: the rows that wait (the last one first), as many as terms are left -/
def UInv (t : Tm) (i : Nat) (found : List Nat) (rows : List (List Nat)) : Prop := ∃ ts : List Tm, t.enc.drop i = encs ts ∧ ts.length = rows.length ∧ t.arnd 0 [] = found ++ arnds i ts rows.reverse ∧ (t.deps 0).drop i = depss ts (rows.reverse.map List.length)
theorem UInv.start (t : Tm) : UInv t 0 [] [[]] := ⟨[t], by simp [encs], rfl, by simp [arnds], by simp [depss]⟩
theorem UInv.done {t : Tm} {found : List Nat} {rows : List (List Nat)} (h : UInv t t.enc.length found rows) : found = t.arnd 0 [] := by
  obtain ⟨ts, h1, h2, h3, _⟩ := h
  rw [List.drop_length] at h1
  have e := encs_nil h1.symm
  subst e
  rw [h3]
  cases rows.reverse <;> simp [arnds]
theorem UInv.step {t : Tm} {i : Nat} {v : V} {found : List Nat} {rows : List (List Nat)} (h : UInv t i found rows) (hi : t.enc[i]? = some v) : ∃ rs row, rows = rs ++ [row] ∧ (t.deps 0)[i]? = some row.length ∧
    ((∃ n : Nat, v = .int n ∧ (∀ x, row[n]? = some x → n < row.length ∧ UInv t (i + 1) (found ++ [x]) rs) ∧ (¬ n < row.length → UInv t (i + 1) found rs)) ∨ (v = .str "lam" ∧ UInv t (i + 1) found (rs ++ [i :: row])) ∨ (v = .str "app" ∧ UInv t (i + 1) found (rs ++ [row, row]))) := by
  obtain ⟨ts, h1, h2, h3, h4⟩ := h
  cases ts with
  | nil =>
    exfalso
    have := drop_at hi
    rw [h1] at this
    simp [encs] at this
  | cons u ts =>
    obtain ⟨rs, row, rfl⟩ : ∃ rs row, rows = rs ++ [row] := by
      refine ⟨rows.dropLast, rows.getLast (by intro z; rw [z] at h2; simp at h2), (List.dropLast_concat_getLast _).symm⟩
    have rv : (rs ++ [row]).reverse = row :: rs.reverse := by simp
    rw [rv] at h3 h4
    have hl : ts.length = rs.length := by simpa using h2
    have hd := drop_at hi
    rw [h1] at hd
    have d0 : ∀ (x : Nat) (l : List Nat), (t.deps 0).drop i = x :: l → (t.deps 0)[i]? = some x ∧ (t.deps 0).drop (i + 1) = l := fun x l e => by
      refine ⟨?_, ?_⟩
      · have := congrArg (fun z => z[0]?) e
        simpa using this
      · rw [← List.drop_drop, e]
        rfl
    refine ⟨rs, row, rfl, ?_⟩
    cases u with
    | var n =>
      obtain ⟨e1, e2⟩ := List.cons.inj (show V.int (n : Int) :: encs ts = v :: t.enc.drop (i + 1) from hd)
      obtain ⟨g1, g2⟩ := d0 row.length (depss ts (rs.reverse.map List.length)) h4
      refine ⟨g1, .inl ⟨n, e1.symm, fun x hx => ⟨(List.getElem?_eq_some_iff.mp hx).1, ts, e2.symm, hl, ?_, g2⟩, fun hx => ⟨ts, e2.symm, hl, ?_, g2⟩⟩⟩
      · rw [h3]
        show found ++ ((row[n]?).toList ++ arnds (i + 1) ts rs.reverse) = _
        rw [hx]
        simp
      · rw [h3]
        show found ++ ((row[n]?).toList ++ arnds (i + 1) ts rs.reverse) = _
        rw [List.getElem?_eq_none (by omega)]
        simp
    | lam b =>
      obtain ⟨e1, e2⟩ := List.cons.inj (show V.str "lam" :: (b.enc ++ encs ts) = v :: t.enc.drop (i + 1) from hd)
      obtain ⟨g1, g2⟩ := d0 row.length (b.deps (row.length + 1) ++ depss ts (rs.reverse.map List.length)) h4
      refine ⟨g1, .inr (.inl ⟨e1.symm, b :: ts, e2.symm, by simp [hl], ?_, ?_⟩)⟩
      · rw [h3]
        have : (rs ++ [i :: row]).reverse = (i :: row) :: rs.reverse := by simp
        rw [this]
        show found ++ (b.arnd (i + 1) (i :: row) ++ arnds (i + (b.enc.length + 1)) ts rs.reverse) = found ++ (b.arnd (i + 1) (i :: row) ++ arnds (i + 1 + b.enc.length) ts rs.reverse)
        rw [show i + (b.enc.length + 1) = i + 1 + b.enc.length by omega]
      · rw [g2]
        have : (rs ++ [i :: row]).reverse = (i :: row) :: rs.reverse := by simp
        rw [this]
        rfl
    | app f a =>
      obtain ⟨e1, e2⟩ := List.cons.inj (show V.str "app" :: ((f.enc ++ a.enc) ++ encs ts) = v :: t.enc.drop (i + 1) from hd)
      obtain ⟨g1, g2⟩ := d0 row.length ((f.deps row.length ++ a.deps row.length) ++ depss ts (rs.reverse.map List.length)) h4
      refine ⟨g1, .inr (.inr ⟨e1.symm, f :: a :: ts, by rw [← e2]; simp [encs], by simp [hl], ?_, ?_⟩)⟩
      · rw [h3]
        have : (rs ++ [row, row]).reverse = row :: row :: rs.reverse := by simp
        rw [this]
        show found ++ ((f.arnd (i + 1) row ++ a.arnd (i + 1 + f.enc.length) row) ++ arnds (i + (Tm.app f a).enc.length) ts rs.reverse) = found ++ (f.arnd (i + 1) row ++ (a.arnd (i + 1 + f.enc.length) row ++ arnds (i + 1 + f.enc.length + a.enc.length) ts rs.reverse))
        rw [List.append_assoc, show i + (Tm.app f a).enc.length = i + 1 + f.enc.length + a.enc.length by simp only [Tm.enc, List.length_cons, List.length_append]; omega]
      · rw [g2]
        have : (rs ++ [row, row]).reverse = row :: row :: rs.reverse := by simp
        rw [this]
        show _ = f.deps row.length ++ (a.deps row.length ++ _)
        rw [List.append_assoc]
/-- a dict that counts what stands in a list -/
def CntD (kvs : List (L2.Key × V)) (xs : List Nat) : Prop := kvs.length ≤ xs.length ∧ (∀ x : Nat, valV kvs (.inl (x : Int)) = if x ∈ xs then some (.int (xs.count x : Nat)) else none) ∧ ∀ p ∈ kvs, ∃ x : Nat, p.1 = .inl (x : Int) ∧ x ∈ xs
theorem CntD.nil : CntD [] [] := ⟨Nat.le_refl _, fun x => by rw [if_neg (by simp)]; rfl, fun p h => by simp at h⟩
theorem mem_putK {kvs : List (L2.Key × V)} {k : L2.Key} {v : V} {p : L2.Key × V} (h : p ∈ putK kvs k v) : p.1 = k ∨ ∃ q ∈ kvs, q.1 = p.1 := by
  unfold putK at h
  split at h
  · obtain ⟨q, hq, e⟩ := List.mem_map.mp h
    refine .inr ⟨q, hq, ?_⟩
    split at e <;> rw [← e]
  · rcases List.mem_append.mp h with h | h
    · exact .inr ⟨p, h, rfl⟩
    · rw [List.mem_singleton.mp h]
      exact .inl rfl
theorem CntD.put {kvs : List (L2.Key × V)} {xs : List Nat} (h : CntD kvs xs) (x : Nat) : CntD (putK kvs (.inl (x : Int)) (.int ((xs.count x : Nat) + 1 : Int))) (xs ++ [x]) := by
  refine ⟨?_, fun y => ?_, fun p hp => ?_⟩
  · have := length_putK kvs (.inl (x : Int)) (.int ((xs.count x : Nat) + 1 : Int))
    have := h.1
    rw [List.length_append, List.length_singleton]
    omega
  · rw [valV_put]
    by_cases e : y = x
    · subst e
      rw [if_pos rfl, if_pos (by simp), List.count_append]
      simp
    · have e2 : ¬ (Sum.inl (y : Int) : L2.Key) = .inl (x : Int) := fun z => e (by have := Sum.inl.inj z; omega)
      rw [if_neg e2, h.2.1 y, List.count_append]
      have e3 : [x].count y = 0 := List.count_eq_zero.mpr (by simpa using e)
      rw [e3, Nat.add_zero]
      by_cases m : y ∈ xs
      · rw [if_pos m, if_pos (by simp [m])]
      · rw [if_neg m, if_neg (by simp [m, e])]
  · rcases mem_putK hp with e | ⟨q, hq, e⟩
    · exact ⟨x, e, by simp⟩
    · obtain ⟨y, e2, hy⟩ := h.2.2 q hq
      exact ⟨y, by rw [← e, e2], by simp [hy]⟩
theorem CntD.key {kvs : List (L2.Key × V)} {xs : List Nat} (h : CntD kvs xs) {x : Nat} (hx : x ∈ xs) : ∃ (i : Nat) (v : V), kvs[i]? = some (.inl (x : Int), v) := by
  have h1 := h.2.1 x
  rw [if_pos hx] at h1
  unfold valV at h1
  cases e : kvs.find? fun kv => decide (kv.1 = .inl (x : Int)) with
  | none => rw [e] at h1; cases h1
  | some p =>
    have h2 := List.find?_some e
    obtain ⟨i, hi⟩ := List.getElem?_of_mem (List.mem_of_find?_eq_some e)
    obtain ⟨k, v⟩ := p
    refine ⟨i, v, ?_⟩
    rw [hi]
    have : k = .inl (x : Int) := by simpa using h2
    rw [this]
end Ly
namespace Ly
open PySem PySem.Spec PyProof.Rows L2 Evl
section
variable {K : PySem.W.Frag} {H : Hp} {Q : VK} {a b : Addr} {xs ys : List V}
end
/-- rows of numbers in lists -/
def RowsAt (H : Hp) (P : Addr → Prop) : List Addr → List (List Nat) → Prop
  | [], [] => True
  | a :: as, r :: rs => (P a ∧ H a = some (.lst (nums r))) ∧ RowsAt H P as rs
  | _, _ => False
theorem RowsAt.snoc {H : Hp} {P : Addr → Prop} {a : Addr} {r : List Nat} (p : P a) (h : H a = some (.lst (nums r))) : ∀ {as : List Addr} {rs : List (List Nat)}, RowsAt H P as rs → RowsAt H P (as ++ [a]) (rs ++ [r])
  | [], [], _ => ⟨⟨p, h⟩, trivial⟩
  | _ :: _, _ :: _, g => ⟨g.1, RowsAt.snoc p h g.2⟩
  | [], _ :: _, g => g.elim
  | _ :: _, [], g => g.elim
theorem RowsAt.last {H : Hp} {P : Addr → Prop} {r : List Nat} : ∀ {as : List Addr} {rs : List (List Nat)}, RowsAt H P as (rs ++ [r]) → ∃ as' a, as = as' ++ [a] ∧ RowsAt H P as' rs ∧ P a ∧ H a = some (.lst (nums r))
  | [], [], g => g.elim
  | [], _ :: _, g => g.elim
  | [a], [], g => ⟨[], a, rfl, trivial, g.1.1, g.1.2⟩
  | _ :: _ :: _, [], g => g.2.elim
  | a :: as, x :: rs, g => by
    obtain ⟨as', b, e, h1, h2, h3⟩ := RowsAt.last (as := as) (rs := rs) (r := r) g.2
    exact ⟨a :: as', b, by rw [e]; rfl, ⟨g.1, h1⟩, h2, h3⟩
theorem RowsAt.mono {H H' : Hp} {P : Addr → Prop} (e : ∀ a o, P a → H a = some o → H' a = some o) : ∀ {as : List Addr} {rs : List (List Nat)}, RowsAt H P as rs → RowsAt H' P as rs
  | [], [], _ => trivial
  | _ :: _, _ :: _, g => ⟨⟨g.1.1, e _ _ g.1.1 g.1.2⟩, RowsAt.mono e g.2⟩
  | [], _ :: _, g => g.elim
  | _ :: _, [], g => g.elim
theorem RowsAt.len {H : Hp} {P : Addr → Prop} : ∀ {as : List Addr} {rs : List (List Nat)}, RowsAt H P as rs → as.length = rs.length
  | [], [], _ => rfl
  | _ :: _, _ :: _, g => by rw [List.length_cons, List.length_cons, RowsAt.len g.2]
  | [], _ :: _, g => g.elim
  | _ :: _, [], g => g.elim
theorem sqT_lst {K : PySem.W.Frag} {H : Hp} {x l : Addr} {xs ys zs : List V} (h : SqT K H x xs) (hl : H l = some (.lst ys)) : SqT K (upd H l (.lst zs)) x xs := by
  rcases h with (h | ⟨ob, h⟩) | h
  · exact .inl (.inl (by rw [upd_ne (fun z => by rw [z, hl] at h; cases h)]; exact h))
  · exact .inl (.inr ⟨ob, by rw [upd_ne (fun z => by rw [z, hl] at h; cases h)]; exact h⟩)
  · exact .inr h
end Ly
set_option Elab.async false
set_option linter.all false
set_option maxRecDepth 100000
set_option maxHeartbeats 2000000
namespace Ly
open PySem PySem.Spec PyProof.Rows L2 Evl
theorem enc_cut : ∀ (u w : Tm) {p q : List V}, u.enc ++ p = w.enc ++ q → u = w ∧ p = q
  | .var n, .var m, p, q, h => by
    obtain ⟨h1, h2⟩ := List.cons.inj (show V.int (n : Int) :: p = V.int (m : Int) :: q from h)
    have : n = m := by have := V.int.inj h1; omega
    exact ⟨by rw [this], h2⟩
  | .lam b, .lam c, p, q, h => by
    obtain ⟨_, h2⟩ := List.cons.inj (show V.str "lam" :: (b.enc ++ p) = V.str "lam" :: (c.enc ++ q) from h)
    obtain ⟨e1, e2⟩ := enc_cut b c h2
    exact ⟨by rw [e1], e2⟩
  | .app f a, .app g c, p, q, h => by
    obtain ⟨_, h2⟩ := List.cons.inj (show V.str "app" :: ((f.enc ++ a.enc) ++ p) = V.str "app" :: ((g.enc ++ c.enc) ++ q) from h)
    rw [List.append_assoc, List.append_assoc] at h2
    obtain ⟨e1, h3⟩ := enc_cut f g h2
    obtain ⟨e2, e3⟩ := enc_cut a c h3
    exact ⟨by rw [e1, e2], e3⟩
  | .var n, .lam c, p, q, h => by
    have := (List.cons.inj (show V.int (n : Int) :: p = V.str "lam" :: (c.enc ++ q) from h)).1
    cases this
  | .var n, .app g c, p, q, h => by
    have := (List.cons.inj (show V.int (n : Int) :: p = V.str "app" :: ((g.enc ++ c.enc) ++ q) from h)).1
    cases this
  | .lam b, .var m, p, q, h => by
    have := (List.cons.inj (show V.str "lam" :: (b.enc ++ p) = V.int (m : Int) :: q from h)).1
    cases this
  | .app f a, .var m, p, q, h => by
    have := (List.cons.inj (show V.str "app" :: ((f.enc ++ a.enc) ++ p) = V.int (m : Int) :: q from h)).1
    cases this
  | .lam b, .app g c, p, q, h => by
    have := (List.cons.inj (show V.str "lam" :: (b.enc ++ p) = V.str "app" :: ((g.enc ++ c.enc) ++ q) from h)).1
    exact absurd (V.str.inj this) (by decide +kernel)
  | .app f a, .lam c, p, q, h => by
    have := (List.cons.inj (show V.str "app" :: ((f.enc ++ a.enc) ++ p) = V.str "lam" :: (c.enc ++ q) from h)).1
    exact absurd (V.str.inj this) (by decide +kernel)
theorem encs_cut {u : Tm} {p : List V} : ∀ {us : List Tm}, u.enc ++ p = encs us → ∃ rest, us = u :: rest ∧ p = encs rest
  | [], h => by
    have : u.enc = [] := (List.append_eq_nil_iff.mp (show u.enc ++ p = [] by rw [h]; rfl)).1
    exact absurd this u.enc_ne
  | w :: us, h => by
    rw [encs_cons] at h
    obtain ⟨e1, e2⟩ := enc_cut u w h
    exact ⟨us, by rw [e1], e2⟩
def Tm.unl : Tm → Tm
  | .lam b => b
  | t => t
/-- where the steps at the chosen redexes of a term lead, whose first node has the index i -/
def Tm.dv (C : Nat → Bool) : Nat → Tm → Tm
  | _, .var n => .var n
  | i, .lam b => .lam (b.dv C (i + 1))
  | i, .app f a => if C i then Tm.put (a.dv C (i + 1 + f.enc.length)) 0 (f.dv C (i + 1)).unl else .app (f.dv C (i + 1)) (a.dv C (i + 1 + f.enc.length))
/-- the origins of the nodes there -/
def Tm.dvO (C : Nat → Bool) : Nat → Tm → List Nat
  | i, .var _ => [i]
  | i, .lam b => i :: b.dvO C (i + 1)
  | i, .app f a =>
    if C i then
      (pO (List.range' (f.dv C (i + 1)).unl.enc.length (a.dv C (i + 1 + f.enc.length)).enc.length) (f.dv C (i + 1)).unl.enc ((f.dv C (i + 1)).unl.deps 0) (List.range' 0 (f.dv C (i + 1)).unl.enc.length)).map fun k => ((f.dvO C (i + 1)).tail ++ a.dvO C (i + 1 + f.enc.length)).getD k 0
    else i :: (f.dvO C (i + 1) ++ a.dvO C (i + 1 + f.enc.length))
/-- no part of it is too large; the abstractions of the chosen redexes are no parts -/
def Tm.dvK (C : Nat → Bool) : Nat → Tm → Bool
  | _, .var n => fitsV [V.int (n : Int)]
  | i, .lam b => b.dvK C (i + 1) && decide ((b.dv C (i + 1)).enc.length + 1 ≤ 1000)
  | i, .app (.lam b) a => b.dvK C (i + 2) && a.dvK C (i + 1 + (Tm.lam b).enc.length) &&
      (if C i then fitsV (Tm.put (a.dv C (i + 1 + (Tm.lam b).enc.length)) 0 (b.dv C (i + 2))).enc
        else decide ((b.dv C (i + 2)).enc.length + 1 ≤ 1000) && decide (((Tm.app (.lam b) a).dv C i).enc.length ≤ 1000))
  | i, .app f a => f.dvK C (i + 1) && a.dvK C (i + 1 + f.enc.length) && decide (((Tm.app f a).dv C i).enc.length ≤ 1000)
/-- only redexes are chosen -/
def Tm.gd (C : Nat → Bool) : Nat → Tm → Prop
  | _, .var _ => True
  | i, .lam b => b.gd C (i + 1)
  | i, .app f a => (C i = true → ∃ b, f = .lam b) ∧ f.gd C (i + 1) ∧ a.gd C (i + 1 + f.enc.length)
theorem gd_of {C : Nat → Bool} {xs : List V} (h : ∀ k, C k = true → redB xs k = true) : ∀ (t : Tm) {i : Nat} {post : List V}, xs.drop i = t.enc ++ post → t.gd C i
  | .var n, i, post, _ => trivial
  | .lam b, i, post, e => gd_of h b (i := i + 1) (post := post) (drop_get (i := i) (v := .str "lam") (r := b.enc ++ post) e).2
  | .app f a, i, post, e => by
    have g := drop_get (i := i) (v := .str "app") (r := f.enc ++ (a.enc ++ post)) (by rw [e]; simp [Tm.enc])
    refine ⟨fun hc => ?_, gd_of h f g.2, gd_of h a (post := post) ?_⟩
    · obtain ⟨_, h2⟩ := redB_iff.mp (h i hc)
      cases f with
      | lam b => exact ⟨b, rfl⟩
      | var n =>
        have := (drop_get (i := i + 1) (v := .int n) (r := a.enc ++ post) g.2).1
        rw [this] at h2
        cases h2
      | app f1 f2 =>
        have := (drop_get (i := i + 1) (v := .str "app") (r := f1.enc ++ f2.enc ++ (a.enc ++ post)) (by rw [g.2]; rfl)).1
        rw [this] at h2
        exact absurd (V.str.inj (Option.some.inj h2)) (by decide +kernel)
    · rw [← List.drop_drop, g.2, List.drop_left]
theorem dvO_len {C : Nat → Bool} : ∀ (t : Tm) {i : Nat}, t.gd C i → (t.dvO C i).length = (t.dv C i).enc.length
  | .var n, i, _ => rfl
  | .lam b, i, h => by
    have := dvO_len b (i := i + 1) h
    show (b.dvO C (i + 1)).length + 1 = (b.dv C (i + 1)).enc.length + 1
    rw [this]
  | .app f a, i, ⟨h1, h2, h3⟩ => by
    have e2 := dvO_len f h2
    have e3 := dvO_len a h3
    rw [Tm.dvO, Tm.dv]
    cases hc : C i with
    | true =>
      rw [if_pos rfl, if_pos rfl, List.length_map, Tm.enc_put]
      refine (pO_len (by simp) (fun w hw => Tm.int_nat hw) (by rw [Tm.deps_len]) (by simp)).symm
    | false =>
      rw [if_neg (by simp), if_neg (by simp)]
      simp only [Tm.enc, List.length_cons, List.length_append]
      omega
theorem fitsV_iff {xs : List V} : fitsV xs = true ↔ xs.length ≤ 1000 ∧ xs.all okV = true := by
  unfold fitsV
  rw [Bool.and_eq_true, decide_eq_true_iff]
theorem dvK_fits {C : Nat → Bool} : ∀ (t : Tm) {i : Nat}, t.gd C i → t.dvK C i = true → fitsV (t.dv C i).enc = true
  | .var n, i, _, h => h
  | .lam b, i, g, h => by
    rw [Tm.dvK, Bool.and_eq_true, decide_eq_true_iff] at h
    obtain ⟨h1, h2⟩ := fitsV_iff.mp (dvK_fits b (i := i + 1) g h.1)
    refine fitsV_iff.mpr ⟨h.2, ?_⟩
    show (V.str "lam" :: (b.dv C (i + 1)).enc).all okV = true
    rw [List.all_cons, h2]
    rfl
  | .app f a, i, ⟨g1, g2, g3⟩, h => by
    have key : ∀ (hf : fitsV (f.dv C (i + 1)).enc = true) (ha : fitsV (a.dv C (i + 1 + f.enc.length)).enc = true) (hc : C i = false) (hs : (((Tm.app f a).dv C i).enc).length ≤ 1000), fitsV ((Tm.app f a).dv C i).enc = true := fun hf ha hc hs => by
      have hx : (Tm.app f a).dv C i = .app (f.dv C (i + 1)) (a.dv C (i + 1 + f.enc.length)) := by
        rw [Tm.dv, if_neg (by simp [hc])]
      refine fitsV_iff.mpr ⟨hs, ?_⟩
      rw [hx]
      show (V.str "app" :: ((f.dv C (i + 1)).enc ++ (a.dv C (i + 1 + f.enc.length)).enc)).all okV = true
      rw [List.all_cons, List.all_append, (fitsV_iff.mp hf).2, (fitsV_iff.mp ha).2]
      rfl
    have plain : (∀ b, f ≠ .lam b) → f.dvK C (i + 1) = true ∧ a.dvK C (i + 1 + f.enc.length) = true ∧ ((Tm.app f a).dv C i).enc.length ≤ 1000 := fun nf => by
      cases f with
      | lam b => exact absurd rfl (nf b)
      | var n =>
        rw [Tm.dvK, Bool.and_eq_true, Bool.and_eq_true, decide_eq_true_iff] at h
        · exact ⟨h.1.1, h.1.2, h.2⟩
        · exact fun b z => nomatch z
      | app f1 f2 =>
        rw [Tm.dvK, Bool.and_eq_true, Bool.and_eq_true, decide_eq_true_iff] at h
        · exact ⟨h.1.1, h.1.2, h.2⟩
        · exact fun b z => nomatch z
    cases hc : C i with
    | false =>
      cases f with
      | lam b =>
        rw [Tm.dvK, Bool.and_eq_true, Bool.and_eq_true, if_neg (by simp [hc]), Bool.and_eq_true, decide_eq_true_iff, decide_eq_true_iff] at h
        have hb : (Tm.lam b).dvK C (i + 1) = true := by
          rw [Tm.dvK, Bool.and_eq_true, decide_eq_true_iff]
          exact ⟨h.1.1, h.2.1⟩
        exact key (dvK_fits (.lam b) g2 hb) (dvK_fits a g3 h.1.2) hc h.2.2
      | var n =>
        obtain ⟨p1, p2, p3⟩ := plain (fun b z => nomatch z)
        exact key (dvK_fits _ g2 p1) (dvK_fits a g3 p2) hc p3
      | app f1 f2 =>
        obtain ⟨p1, p2, p3⟩ := plain (fun b z => nomatch z)
        exact key (dvK_fits _ g2 p1) (dvK_fits a g3 p2) hc p3
    | true =>
      obtain ⟨b, rfl⟩ := g1 hc
      rw [Tm.dvK, Bool.and_eq_true, if_pos hc] at h
      rw [Tm.dv, if_pos hc]
      exact h.2
/-- where a term has no part that is too large, no part of a part is -/
theorem dvK_part {C : Nat → Bool} {xs : List V} : ∀ (w : Tm) {p : Nat} {q0 : List V}, xs.drop p = w.enc ++ q0 → w.gd C p → w.dvK C p = true → ∀ {j : Nat} {u : Tm} {q : List V}, p ≤ j → j < p + w.enc.length → xs.drop j = u.enc ++ q →
    u.dvK C j = true ∨ ∃ b, u = .lam b ∧ p < j ∧ C (j - 1) = true ∧ b.dvK C (j + 1) = true
  | .var n, p, q0, e, g, h, j, u, q, h1, h2, e2 => by
    have : j = p := by simp only [Tm.enc, List.length_singleton] at h2; omega
    subst this
    obtain ⟨rfl, _⟩ := enc_cut u (.var n) (e2.symm.trans e)
    exact .inl h
  | .lam b, p, q0, e, g, h, j, u, q, h1, h2, e2 => by
    by_cases ej : j = p
    · subst ej
      obtain ⟨rfl, _⟩ := enc_cut u (.lam b) (e2.symm.trans e)
      exact .inl h
    · have h3 := h
      rw [Tm.dvK, Bool.and_eq_true] at h3
      have el : (Tm.lam b).enc.length = b.enc.length + 1 := rfl
      have ed := (drop_get (i := p) (v := .str "lam") (r := b.enc ++ q0) e).2
      rcases dvK_part b (p := p + 1) (q0 := q0) ed g h3.1 (j := j) (u := u) (q := q) (by omega) (by omega) e2 with r | ⟨c, r1, r2, r3, r4⟩
      · exact .inl r
      · exact .inr ⟨c, r1, by omega, r3, r4⟩
  | .app f a, p, q0, e, ⟨g1, g2, g3⟩, h, j, u, q, h1, h2, e2 => by
    by_cases ej : j = p
    · subst ej
      obtain ⟨rfl, _⟩ := enc_cut u (.app f a) (e2.symm.trans e)
      exact .inl h
    · have el : (Tm.app f a).enc.length = f.enc.length + a.enc.length + 1 := by simp only [Tm.enc, List.length_cons, List.length_append]
      have ed := (drop_get (i := p) (v := .str "app") (r := f.enc ++ (a.enc ++ q0)) (by rw [e]; simp [Tm.enc])).2
      have ea : xs.drop (p + 1 + f.enc.length) = a.enc ++ q0 := by rw [← List.drop_drop, ed, List.drop_left]
      have both : a.dvK C (p + 1 + f.enc.length) = true ∧ (f.dvK C (p + 1) = true ∨ ∃ b, f = .lam b ∧ C p = true ∧ b.dvK C (p + 2) = true) := by
        cases f with
        | lam b =>
          rw [Tm.dvK, Bool.and_eq_true, Bool.and_eq_true] at h
          refine ⟨h.1.2, ?_⟩
          cases hc : C p with
          | true => exact .inr ⟨b, rfl, rfl, h.1.1⟩
          | false =>
            rw [if_neg (by simp [hc]), Bool.and_eq_true] at h
            left
            rw [Tm.dvK, Bool.and_eq_true]
            exact ⟨h.1.1, h.2.1⟩
        | var n =>
          rw [Tm.dvK, Bool.and_eq_true, Bool.and_eq_true] at h
          · exact ⟨h.1.2, .inl h.1.1⟩
          · exact fun b z => nomatch z
        | app f1 f2 =>
          rw [Tm.dvK, Bool.and_eq_true, Bool.and_eq_true] at h
          · exact ⟨h.1.2, .inl h.1.1⟩
          · exact fun b z => nomatch z
      by_cases inA : p + 1 + f.enc.length ≤ j
      · rcases dvK_part a ea g3 both.1 (j := j) (u := u) (q := q) inA (by omega) e2 with r | ⟨c, r1, r2, r3, r4⟩
        · exact .inl r
        · exact .inr ⟨c, r1, by omega, r3, r4⟩
      · rcases both.2 with hf | ⟨b, rfl, hc, hb⟩
        · rcases dvK_part f ed g2 hf (j := j) (u := u) (q := q) (by omega) (by omega) e2 with r | ⟨c, r1, r2, r3, r4⟩
          · exact .inl r
          · exact .inr ⟨c, r1, by omega, r3, r4⟩
        · by_cases e1 : j = p + 1
          · subst e1
            obtain ⟨rfl, _⟩ := enc_cut u (.lam b) (e2.symm.trans ed)
            exact .inr ⟨b, rfl, by omega, by simpa using hc, hb⟩
          · have elb : (Tm.lam b).enc.length = b.enc.length + 1 := rfl
            have eb := (drop_get (i := p + 1) (v := .str "lam") (r := b.enc ++ (a.enc ++ q0)) ed).2
            rcases dvK_part b (p := p + 2) eb g2 hb (j := j) (u := u) (q := q) (by omega) (by omega) e2 with r | ⟨c, r1, r2, r3, r4⟩
            · exact .inl r
            · exact .inr ⟨c, r1, by omega, r3, r4⟩
section
variable {σ : L2.St} {H : Hp} {Q : VK} {g : TG} {tt : TT} {tk tv : TE} {vs : List Nat} {wi : TI} {R : It → Hp → Prop}
/-- in the midst of a dict that is filled by a walk -/
def DcB (J : It) (g : TG) (tt : TT) (tk tv : TE) (vs : List Nat) (Q : VK) (σ : L2.St) (H1 : Hp) (D : Addr) : Prop := ∃ W : Nat → Nat → Hp → Prop, (∃ m, W 0 m (upd H1 D (.dK []))) ∧ ∀ i m H, W i m H →
  (J.stop i H ∧ Q (.ref D) H) ∨ (J.go i H ∧ ∃ Nx : Hp → Prop, (∀ H', Nx H' → ∃ m', m' < m ∧ W (i + 1) m' H') ∧ ∀ x H', J.yld i H x H' → g x (wipe σ vs) H' fun σ2 H2 => wipe σ2 vs = wipe σ vs ∧ tt σ2 H2 fun b H3 =>
    if b = true then tk σ2 H3 fun y H4 => tv σ2 H4 fun z H5 => ∃ kvs k, y = kV k ∧ H5 D = some (.dK kvs) ∧ kvs.length < sizeLine ∧ Nx (upd H5 D (.dK (putK kvs k z))) else Nx H3)
theorem w_dc (h : wi σ H fun J H1 => ∀ D, H1 D = none → DcB J g tt tk tv vs Q σ H1 D) : tDc wi g tt tk tv vs σ H Q := h
theorem dc_list {K : PySem.W.Frag} {a : Addr} {xs : List V} {H1 : Hp} {D : Addr} (Pv : Nat → Hp → Prop) (h0 : Pv 0 (upd H1 D (.dK []))) (hl : ∀ i H, Pv i H → SqL K H a xs)
    (hs : ∀ i x H, xs[i]? = some x → Pv i H → g x (wipe σ vs) H fun σ2 H2 => wipe σ2 vs = wipe σ vs ∧ tt σ2 H2 fun b H3 =>
      if b = true then tk σ2 H3 fun y H4 => tv σ2 H4 fun z H5 => ∃ kvs k, y = kV k ∧ H5 D = some (.dK kvs) ∧ kvs.length < sizeLine ∧ Pv (i + 1) (upd H5 D (.dK (putK kvs k z))) else Pv (i + 1) H3) (hd : ∀ H, Pv xs.length H → Q (.ref D) H) :
    DcB (Itl K a) g tt tk tv vs Q σ H1 D := by
  refine ⟨fun i m H => m = xs.length - i ∧ i ≤ xs.length ∧ Pv i H, ⟨_, rfl, Nat.zero_le _, h0⟩, ?_⟩
  rintro i m H ⟨rfl, hi, p⟩
  have sq := hl i H p
  by_cases hlt : i < xs.length
  · refine .inr ⟨⟨xs, xs[i], sq, List.getElem?_eq_getElem hlt⟩, Pv (i + 1), fun H' p' => ⟨xs.length - (i + 1), by omega, rfl, hlt, p'⟩, fun x H' y => ?_⟩
    obtain ⟨rfl, y⟩ := y
    exact hs i x _ (y xs sq) p
  · have e : i = xs.length := by omega
    subst e
    exact .inl ⟨⟨xs, sq, Nat.le_refl _⟩, hd H p⟩
end
/-- the dict of the chosen indexes -/
def ChD (kvs : List (L2.Key × V)) (C : Nat → Bool) : Prop := ∀ z : Int, (valV kvs (.inl z)).isSome = decide (0 ≤ z ∧ C z.toNat = true)
/-- a pair of nodes and origins, made apart from the list at pn -/
def Ent (K : PySem.W.Frag) (H : Hp) (pn a : Addr) (xs : List V) (os : List Nat) : Prop := ∃ T O : Addr, SqT K H a [.ref T, .ref O] ∧ SqT K H T xs ∧ H O = some (.lst (nums os)) ∧ O ≠ pn
theorem Ent.mono {K : PySem.W.Frag} {H H' : Hp} {pn a : Addr} {xs zs : List V} {os : List Nat} (e : Ent K H pn a xs os) (fr : Fr pn H H') (hp : H pn = some (.lst zs)) : Ent K H' pn a xs os := by
  obtain ⟨T, O, h1, h2, h3, h4⟩ := e
  exact ⟨T, O, fr_t fr hp h1, fr_t fr hp h2, fr _ _ h4 h3, h4⟩
def Tm.entT (C : Nat → Bool) (sk : Bool) (p : Nat) (u : Tm) : Tm := if sk = true then (u.dv C p).unl else u.dv C p
def Tm.entO (C : Nat → Bool) (sk : Bool) (p : Nat) (u : Tm) : List Nat := if sk = true then (u.dvO C p).tail else u.dvO C p
def Tm.entK (C : Nat → Bool) (sk : Bool) (p : Nat) (u : Tm) : Prop := if sk = true then ∃ b, u = .lam b ∧ b.dvK C (p + 1) = true else u.dvK C p = true
def Ents (K : PySem.W.Frag) (H : Hp) (pn : Addr) (C : Nat → Bool) : Nat → Bool → List Addr → List Tm → Prop
  | _, _, [], [] => True
  | p, sk, a :: as, u :: us => (Ent K H pn a (u.entT C sk p).enc (u.entO C sk p) ∧ u.entK C sk p ∧ u.gd C p) ∧ Ents K H pn C (p + u.enc.length) false as us
  | _, _, _, _ => False
theorem Ents.mono {K : PySem.W.Frag} {H H' : Hp} {pn : Addr} {C : Nat → Bool} {zs : List V} (fr : Fr pn H H') (hp : H pn = some (.lst zs)) : ∀ {p : Nat} {sk : Bool} {as : List Addr} {us : List Tm}, Ents K H pn C p sk as us → Ents K H' pn C p sk as us
  | _, _, [], [], _ => trivial
  | _, _, _ :: _, _ :: _, h => ⟨⟨h.1.1.mono fr hp, h.1.2⟩, Ents.mono fr hp h.2⟩
  | _, _, [], _ :: _, h => h.elim
  | _, _, _ :: _, [], h => h.elim
theorem Ents.len {K : PySem.W.Frag} {H : Hp} {pn : Addr} {C : Nat → Bool} : ∀ {p : Nat} {sk : Bool} {as : List Addr} {us : List Tm}, Ents K H pn C p sk as us → as.length = us.length
  | _, _, [], [], _ => rfl
  | _, _, _ :: _, _ :: _, h => by rw [List.length_cons, List.length_cons, Ents.len h.2]
  | _, _, [], _ :: _, h => h.elim
  | _, _, _ :: _, [], h => h.elim
theorem Ents.uncons {K : PySem.W.Frag} {H : Hp} {pn : Addr} {C : Nat → Bool} {p : Nat} {sk : Bool} {as : List Addr} {u : Tm} {us : List Tm} (h : Ents K H pn C p sk as (u :: us)) :
    ∃ a as', as = a :: as' ∧ Ent K H pn a (u.entT C sk p).enc (u.entO C sk p) ∧ u.entK C sk p ∧ u.gd C p ∧ Ents K H pn C (p + u.enc.length) false as' us := by
  cases as with
  | nil => exact h.elim
  | cons a as' => exact ⟨a, as', rfl, h.1.1, h.1.2.1, h.1.2.2, h.2⟩
/-- a pair, whatever list is made beside it -/
def Pr2 (K : PySem.W.Frag) (H : Hp) (a : Addr) (xs : List V) (os : List Nat) : Prop := ∃ T O : Addr, SqT K H a [.ref T, .ref O] ∧ SqT K H T xs ∧ H O = some (.lst (nums os))
theorem Pr2.ex {K : PySem.W.Frag} {H H' : Hp} {a : Addr} {xs : List V} {os : List Nat} (h : Pr2 K H a xs os) (e : Ex H H') : Pr2 K H' a xs os := by
  obtain ⟨T, O, h1, h2, h3⟩ := h
  exact ⟨T, O, ex_t e h1, ex_t e h2, e _ _ h3⟩
def Prs2 (K : PySem.W.Frag) (H : Hp) : List Addr → List (List V × List Nat) → Prop
  | [], [] => True
  | a :: as, x :: xs => Pr2 K H a x.1 x.2 ∧ Prs2 K H as xs
  | _, _ => False
theorem Prs2.ex {K : PySem.W.Frag} {H H' : Hp} (e : Ex H H') : ∀ {as : List Addr} {xs : List (List V × List Nat)}, Prs2 K H as xs → Prs2 K H' as xs
  | [], [], _ => trivial
  | _ :: _, _ :: _, h => ⟨h.1.ex e, Prs2.ex e h.2⟩
  | [], _ :: _, h => h.elim
  | _ :: _, [], h => h.elim
theorem Prs2.at {K : PySem.W.Frag} {H : Hp} : ∀ {as : List Addr} {xs : List (List V × List Nat)}, Prs2 K H as xs → ∀ {i : Nat} {a : Addr}, as[i]? = some a → ∃ x, xs[i]? = some x ∧ Pr2 K H a x.1 x.2
  | _ :: _, x :: _, h, 0, a, e => by
    simp at e
    subst e
    exact ⟨x, rfl, h.1⟩
  | _ :: _, _ :: _, h, i + 1, a, e => Prs2.at h.2 (i := i) (by simpa using e)
  | [], _ :: _, h, _, _, _ => h.elim
  | _ :: _, [], h, _, _, _ => h.elim
  | [], [], _, _, _, e => by simp at e
theorem Prs2.len {K : PySem.W.Frag} {H : Hp} : ∀ {as : List Addr} {xs : List (List V × List Nat)}, Prs2 K H as xs → as.length = xs.length
  | [], [], _ => rfl
  | _ :: _, _ :: _, h => by rw [List.length_cons, List.length_cons, Prs2.len h.2]
  | [], _ :: _, h => h.elim
  | _ :: _, [], h => h.elim
theorem w_iRv {tr : L2.St → Hp → (Int → Int → Hp → Prop) → Prop} {σ : L2.St} {H : Hp} {R : It → Hp → Prop} (h : tr σ H fun a b H1 => -(2 ^ 62) ≤ a ∧ a < 2 ^ 62 ∧ -(2 ^ 62) ≤ b ∧ b < 2 ^ 62 ∧ R (Itc (a + (((b - a).toNat : Nat) : Int) - 1) (-1) (b - a).toNat) H1) : iRevR tr σ H R := h
theorem encs_len : ∀ us : List Tm, us.length ≤ (encs us).length
  | [] => Nat.zero_le _
  | u :: us => by
    have := encs_len us
    have p := List.length_pos_iff.mpr u.enc_ne
    rw [encs_cons, List.length_cons, List.length_append]
    omega
theorem fits_app {f a : Tm} (h : fitsV f.enc = true) (k : fitsV a.enc = true) : fitsV (Tm.app f a).enc = decide ((Tm.app f a).enc.length ≤ 1000) := by
  have h1 := (fitsV_iff.mp h).2
  have h2 := (fitsV_iff.mp k).2
  rw [Bool.eq_iff_iff, fitsV_iff, decide_eq_true_iff]
  refine ⟨fun z => z.1, fun z => ⟨z, ?_⟩⟩
  rw [show (Tm.app f a).enc = V.str "app" :: (f.enc ++ a.enc) from rfl, List.all_cons, List.all_append, h1, h2]
  rfl
def Tm.full : Tm → Tm
  | .var n => .var n
  | .lam b => .lam b.full
  | .app f a => if f.isLam = true then Tm.put a.full 0 f.full.unl else .app f.full a.full
def Tm.fullK : Tm → Bool
  | .var _ => true
  | .lam b => b.fullK && decide (b.full.enc.length + 1 ≤ 1000)
  | .app (.lam b) a => b.fullK && a.fullK && fitsV (Tm.put a.full 0 b.full).enc
  | .app f a => f.fullK && a.fullK && fitsV (Tm.app f.full a.full).enc
theorem redB_isLam {xs : List V} {f a : Tm} {i : Nat} {post : List V} (e : xs.drop i = (Tm.app f a).enc ++ post) : redB xs i = f.isLam := by
  have g := drop_get (i := i) (v := .str "app") (r := f.enc ++ (a.enc ++ post)) (by rw [e]; simp [Tm.enc])
  cases f with
  | var n =>
    have g2 := (drop_get (i := i + 1) (v := .int n) (r := a.enc ++ post) g.2).1
    rw [redB_app g.1 g2]
    rfl
  | lam b =>
    have g2 := (drop_get (i := i + 1) (v := .str "lam") (r := b.enc ++ (a.enc ++ post)) g.2).1
    rw [redB_app g.1 g2]
    exact decide_eq_true rfl
  | app f1 f2 =>
    have g2 := (drop_get (i := i + 1) (v := .str "app") (r := f1.enc ++ f2.enc ++ (a.enc ++ post)) (by rw [g.2]; rfl)).1
    rw [redB_app g.1 g2]
    exact decide_eq_false (fun z => absurd (V.str.inj z) (by decide +kernel))
theorem dv_full {xs : List V} : ∀ (t : Tm) {i : Nat} {post : List V}, xs.drop i = t.enc ++ post → t.dv (redB xs) i = t.full ∧ (t.enc.all okV = true → t.dvK (redB xs) i = t.fullK)
  | .var n, i, post, _ => ⟨rfl, fun h => by
    rw [Tm.dvK, Tm.fullK]
    exact fitsV_iff.mpr ⟨by simp, h⟩⟩
  | .lam b, i, post, e => by
    obtain ⟨h1, h2⟩ := dv_full b (i := i + 1) (post := post) (drop_get (i := i) (v := .str "lam") (r := b.enc ++ post) e).2
    refine ⟨by rw [Tm.dv, h1]; rfl, fun h => ?_⟩
    rw [Tm.dvK, h1, h2 (by rw [Tm.enc, List.all_cons, Bool.and_eq_true] at h; exact h.2), Tm.fullK]
  | .app (.lam b) a, i, post, e => by
    have hc := redB_isLam e
    have g := (drop_get (i := i) (v := .str "app") (r := V.str "lam" :: (b.enc ++ (a.enc ++ post))) (by rw [e]; simp [Tm.enc])).2
    have g2 := (drop_get (i := i + 1) (v := .str "lam") (r := b.enc ++ (a.enc ++ post)) g).2
    have ga : xs.drop (i + 1 + (Tm.lam b).enc.length) = a.enc ++ post := by
      rw [show i + 1 + (Tm.lam b).enc.length = i + 1 + 1 + b.enc.length by simp only [Tm.enc, List.length_cons]; omega, ← List.drop_drop, g2, List.drop_left]
    obtain ⟨b1, b2⟩ := dv_full b (i := i + 1 + 1) g2
    obtain ⟨a1, a2⟩ := dv_full a ga
    have hc2 : redB xs i = true := hc
    refine ⟨?_, fun h => ?_⟩
    · rw [Tm.dv, if_pos hc2, a1, Tm.dv, b1]
      rfl
    · have hb : b.enc.all okV = true ∧ a.enc.all okV = true := by
        simp only [Tm.enc, List.all_cons, List.all_append, List.cons_append, Bool.and_eq_true] at h
        exact ⟨h.2.2.1, h.2.2.2⟩
      rw [Tm.dvK, if_pos hc2, b2 hb.1, a2 hb.2, a1, b1, Tm.fullK]
  | .app (.var n) a, i, post, e => by
    have hc : redB xs i = false := redB_isLam e
    have g := (drop_get (i := i) (v := .str "app") (r := (Tm.var n).enc ++ (a.enc ++ post)) (by rw [e]; simp [Tm.enc])).2
    have ga : xs.drop (i + 1 + (Tm.var n).enc.length) = a.enc ++ post := by rw [← List.drop_drop, g, List.drop_left]
    obtain ⟨b1, b2⟩ := dv_full (.var n) (i := i + 1) g
    obtain ⟨a1, a2⟩ := dv_full a ga
    refine ⟨?_, fun h => ?_⟩
    · rw [Tm.dv, if_neg (by simp [hc]), a1, b1]
      rfl
    · have hb : (Tm.var n).enc.all okV = true ∧ a.enc.all okV = true := by
        simp only [Tm.enc, List.all_cons, List.all_append, Bool.and_eq_true] at h ⊢
        exact h.2
      have e1 : (Tm.app (.var n) a).dv (redB xs) i = .app (Tm.var n).full a.full := by rw [Tm.dv, if_neg (by simp [hc]), a1, b1]
      have k1 : (Tm.app (.var n) a).dvK (redB xs) i = ((Tm.var n).dvK (redB xs) (i + 1) && a.dvK (redB xs) (i + 1 + (Tm.var n).enc.length) && decide (((Tm.app (.var n) a).dv (redB xs) i).enc.length ≤ 1000)) := rfl
      have k2 : (Tm.app (.var n) a).fullK = ((Tm.var n).fullK && a.fullK && fitsV (Tm.app (Tm.var n).full a.full).enc) := rfl
      rw [k1, k2, b2 hb.1, a2 hb.2, e1]
      cases hf : (Tm.var n).fullK with
      | false => rfl
      | true =>
        cases ha : a.fullK with
        | false => rfl
        | true =>
          have q1 := dvK_fits (C := redB xs) (.var n) (i := i + 1) (gd_of (fun _ h => h) _ g) ((b2 hb.1).trans hf)
          have q2 := dvK_fits (C := redB xs) a (i := i + 1 + (Tm.var n).enc.length) (gd_of (fun _ h => h) a ga) ((a2 hb.2).trans ha)
          rw [b1] at q1
          rw [a1] at q2
          rw [fits_app q1 q2]
  | .app (.app f1 f2) a, i, post, e => by
    have hc : redB xs i = false := redB_isLam e
    have g := (drop_get (i := i) (v := .str "app") (r := (Tm.app f1 f2).enc ++ (a.enc ++ post)) (by rw [e]; simp [Tm.enc])).2
    have ga : xs.drop (i + 1 + (Tm.app f1 f2).enc.length) = a.enc ++ post := by rw [← List.drop_drop, g, List.drop_left]
    obtain ⟨b1, b2⟩ := dv_full (.app f1 f2) (i := i + 1) g
    obtain ⟨a1, a2⟩ := dv_full a ga
    refine ⟨?_, fun h => ?_⟩
    · rw [Tm.dv, if_neg (by simp [hc]), a1, b1]
      rfl
    · have hb : (Tm.app f1 f2).enc.all okV = true ∧ a.enc.all okV = true := by
        rw [show (Tm.app (.app f1 f2) a).enc = V.str "app" :: ((Tm.app f1 f2).enc ++ a.enc) from rfl, List.all_cons, List.all_append, Bool.and_eq_true, Bool.and_eq_true] at h
        exact h.2
      have e1 : (Tm.app (.app f1 f2) a).dv (redB xs) i = .app (Tm.app f1 f2).full a.full := by rw [Tm.dv, if_neg (by simp [hc]), a1, b1]
      have k1 : (Tm.app (.app f1 f2) a).dvK (redB xs) i = ((Tm.app f1 f2).dvK (redB xs) (i + 1) && a.dvK (redB xs) (i + 1 + (Tm.app f1 f2).enc.length) && decide (((Tm.app (.app f1 f2) a).dv (redB xs) i).enc.length ≤ 1000)) := rfl
      have k2 : (Tm.app (.app f1 f2) a).fullK = ((Tm.app f1 f2).fullK && a.fullK && fitsV (Tm.app (Tm.app f1 f2).full a.full).enc) := rfl
      rw [k1, k2, b2 hb.1, a2 hb.2, e1]
      cases hf : (Tm.app f1 f2).fullK with
      | false => rfl
      | true =>
        cases ha : a.fullK with
        | false => rfl
        | true =>
          have q1 := dvK_fits (C := redB xs) (.app f1 f2) (i := i + 1) (gd_of (fun _ h => h) _ g) ((b2 hb.1).trans hf)
          have q2 := dvK_fits (C := redB xs) a (i := i + 1 + (Tm.app f1 f2).enc.length) (gd_of (fun _ h => h) a ga) ((a2 hb.2).trans ha)
          rw [b1] at q1
          rw [a1] at q2
          rw [fits_app q1 q2]
/-- so many developments; none: too large on the way -/
def Tm.dvN : Nat → Tm → Option Tm
  | 0, t => some t
  | n + 1, t => if t.fullK = true then Tm.dvN n t.full else none
theorem full_of {t : Tm} (h : fitsV t.enc = true) : t.dv (redB t.enc) 0 = t.full ∧ t.dvK (redB t.enc) 0 = t.fullK := by
  obtain ⟨h1, h2⟩ := dv_full (xs := t.enc) t (i := 0) (post := []) (by simp)
  exact ⟨h1, h2 (fitsV_iff.mp h).2⟩
theorem full_fits {t : Tm} (h : fitsV t.enc = true) (k : t.fullK = true) : fitsV t.full.enc = true := by
  obtain ⟨h1, h2⟩ := full_of h
  have := dvK_fits (C := redB t.enc) t (i := 0) (gd_of (fun _ h => h) t (post := []) (by simp)) (h2.trans k)
  rwa [h1] at this
theorem fullK_len : ∀ (t : Tm), t.fullK = true → t.full.enc.length ≤ 1000
  | .var _, _ => by simp [Tm.full, Tm.enc]
  | .lam b, h => by
    rw [Tm.fullK, Bool.and_eq_true, decide_eq_true_iff] at h
    exact h.2
  | .app (.lam b) a, h => by
    rw [Tm.fullK, Bool.and_eq_true] at h
    exact fits_len h.2
  | .app (.var n) a, h => by
    rw [Tm.fullK, Bool.and_eq_true] at h
    · exact fits_len h.2
    · exact fun b z => nomatch z
  | .app (.app f g) a, h => by
    rw [Tm.fullK, Bool.and_eq_true] at h
    · exact fits_len h.2
    · exact fun b z => nomatch z
def RwO : List Nat → List (List Tm) → Prop
  | [], [_] => True
  | c :: rs, G :: gs => c = G.length + 1 ∧ RwO rs gs
  | _, _ => False
def Rw : List Nat → List (List Tm) → Prop
  | [], [_] => True
  | c :: rs, G :: gs => c = G.length ∧ RwO rs gs
  | _, _ => False
def AllB (m : Nat) : Nat → List (List Tm) → Prop
  | d, G :: gs => (∀ u ∈ G, d + u.tall + 1 ≤ m) ∧ AllB m (d - 1) gs
  | _, [] => True
theorem Rw.groups {rs : List Nat} {gs : List (List Tm)} (h : Rw rs gs) : ∃ G gs', gs = G :: gs' := by
  cases gs with
  | nil => cases rs <;> exact h.elim
  | cons G gs' => exact ⟨G, gs', rfl⟩
theorem AllB.none {m : Nat} : ∀ {d : Nat} {gs : List (List Tm)}, gs.flatten = [] → AllB m d gs
  | _, [], _ => trivial
  | _, G :: gs, h => by
    rw [List.flatten_cons, List.append_eq_nil_iff] at h
    exact ⟨fun u hu => by rw [h.1] at hu; simp at hu, AllB.none h.2⟩
/-- what is known between two nodes -/
def DpI (t : Tm) (i most : Nat) (rs : List Nat) (gs : List (List Tm)) : Prop := t.enc.drop i = encs gs.flatten ∧ ∀ m, most ≤ m → AllB m rs.length gs → t.tall + 1 ≤ m
theorem DpI.start (t : Tm) : DpI t 0 0 [] [[t]] := ⟨by simp [encs], fun m _ h => by have := h.1 t (by simp); simp at this; exact this⟩
theorem DpI.done {t : Tm} {most : Nat} {rs : List Nat} {gs : List (List Tm)} (h : DpI t t.enc.length most rs gs) : t.tall + 1 ≤ most := by
  obtain ⟨h1, h2⟩ := h
  rw [List.drop_length] at h1
  exact h2 most (Nat.le_refl _) (AllB.none (encs_nil h1.symm))
/-- the next node -/
theorem DpI.step {t : Tm} {i most : Nat} {rs : List Nat} {gs : List (List Tm)} {v : V} (h : DpI t i most rs gs) (hr : Rw rs gs) (hi : t.enc[i]? = some v) (ne : ∀ G gs', gs = G :: gs' → G ≠ []) :
    (∃ n : Nat, v = .int n ∧ ∃ G gs', RwO rs (G :: gs') ∧ DpI t (i + 1) (max most (rs.length + 1)) rs (G :: gs')) ∨
    (v = .str "lam" ∧ ∃ gs', Rw (1 :: rs) gs' ∧ DpI t (i + 1) (max most (rs.length + 1)) (1 :: rs) gs' ∧ ∀ G gs2, gs' = G :: gs2 → G ≠ []) ∨
    (v = .str "app" ∧ ∃ gs', Rw (2 :: rs) gs' ∧ DpI t (i + 1) (max most (rs.length + 1)) (2 :: rs) gs' ∧ ∀ G gs2, gs' = G :: gs2 → G ≠ []) := by
  obtain ⟨G, gs', rfl⟩ := hr.groups
  have hne := ne G gs' rfl
  obtain ⟨u, G', rfl⟩ : ∃ u G', G = u :: G' := by
    cases G with
    | nil => exact absurd rfl hne
    | cons u G' => exact ⟨u, G', rfl⟩
  have ho : RwO rs (G' :: gs') := by
    cases rs with
    | nil =>
      cases gs' with
      | nil => trivial
      | cons _ _ => exact hr.elim
    | cons c rs => exact ⟨hr.1, hr.2⟩
  obtain ⟨h1, h2⟩ := h
  have hd := drop_at hi
  rw [h1, List.flatten_cons, List.cons_append, encs_cons] at hd
  cases u with
  | var n =>
    obtain ⟨e1, e2⟩ := List.cons.inj (show V.int (n : Int) :: encs (G' ++ gs'.flatten) = v :: t.enc.drop (i + 1) from hd)
    refine .inl ⟨n, e1.symm, G', gs', ho, by rw [← e2]; simp, fun m hm hb => h2 m (by omega) ⟨fun u hu => ?_, hb.2⟩⟩
    rcases List.mem_cons.mp hu with rfl | hu
    · simp only [Tm.tall]
      omega
    · exact hb.1 u hu
  | lam b =>
    obtain ⟨e1, e2⟩ := List.cons.inj (show V.str "lam" :: (b.enc ++ encs (G' ++ gs'.flatten)) = v :: t.enc.drop (i + 1) from hd)
    refine .inr (.inl ⟨e1.symm, [b] :: G' :: gs', ⟨rfl, ho⟩, ⟨by rw [← e2]; simp [encs_cons], fun m hm hb => h2 m (by omega) ⟨fun u hu => ?_, hb.2.2⟩⟩, fun G gs2 e => by rw [← (List.cons.inj e).1]; simp⟩)
    rcases List.mem_cons.mp hu with rfl | hu
    · have := hb.1 b (by simp)
      simp only [Tm.tall, List.length_cons] at this ⊢
      omega
    · have := hb.2.1 u hu
      simpa using this
  | app f a =>
    obtain ⟨e1, e2⟩ := List.cons.inj (show V.str "app" :: ((f.enc ++ a.enc) ++ encs (G' ++ gs'.flatten)) = v :: t.enc.drop (i + 1) from hd)
    refine .inr (.inr ⟨e1.symm, [f, a] :: G' :: gs', ⟨rfl, ho⟩, ⟨by rw [← e2]; simp [encs_cons], fun m hm hb => h2 m (by omega) ⟨fun u hu => ?_, hb.2.2⟩⟩, fun G gs2 e => by rw [← (List.cons.inj e).1]; simp⟩)
    rcases List.mem_cons.mp hu with rfl | hu
    · have b1 := hb.1 f (by simp)
      have b2 := hb.1 a (by simp)
      simp only [Tm.tall, List.length_cons] at b1 b2 ⊢
      omega
    · have := hb.2.1 u hu
      simpa using this
/-- an open node with no part left is closed -/
theorem DpI.pop {t : Tm} {i most c : Nat} {rs : List Nat} {gs : List (List Tm)} (h : DpI t i most (c :: rs) ([] :: gs)) : DpI t i most rs gs :=
  ⟨by simpa using h.1, fun m hm hb => h.2 m hm ⟨fun u hu => by simp at hu, by simpa using hb⟩⟩
theorem fullK_app {g c : Tm} (h : g.isLam = false) : (Tm.app g c).fullK = (g.fullK && c.fullK && fitsV (Tm.app g.full c.full).enc) ∧ (Tm.app g c).full = .app g.full c.full := by
  cases g with
  | lam b => cases h
  | var n => exact ⟨rfl, rfl⟩
  | app f a => exact ⟨rfl, rfl⟩
/-- what the law's development of a part is: a term, or the word for too large -/
def LV (K : PySem.W.Frag) (H : Hp) (t : Tm) (y : V) : Prop := (t.fullK = true ∧ ∃ p : Addr, y = .ref p ∧ SqT K H p t.full.enc) ∨ (t.fullK = false ∧ y = .str "large")
theorem LV.ex {K : PySem.W.Frag} {H H' : Hp} {t : Tm} {y : V} (h : LV K H t y) (e : Ex H H') : LV K H' t y := by
  rcases h with ⟨h, p, h1, h2⟩ | h
  · exact .inl ⟨h, p, h1, ex_t e h2⟩
  · exact .inr h
end Ly
set_option Elab.async false
set_option linter.all false
set_option maxRecDepth 100000
set_option maxHeartbeats 2000000
namespace Ly
open PySem PySem.Spec PyProof.Rows L2 Evl
/-- a def's promise at all places that are at most D frames deep -/
structure FnT (P : Program) (w : World) (K : PySem.W.Frag) (mg : Str → Option Value) (base : Heap) (D U : Nat) (f : Addr) (fd : FuncData) (ps : List Str) (sp : Sp) : Prop where
  len : ∀ vs H Q E, sp vs H Q E → vs.length = ps.length
  run : ∀ (A : Around) (outer : List Env) (s : Shared) (H : Hp) (g : Args) (us : List Value) (vs : List V) (Q : VK) (E : XK), A.handled = none → A.depth ≤ D → A.units ≤ U → Env0 P w K mg base A outer s H →
    BindsTo s fd g (ps.zip us) → Vals vs us → sp vs H Q E → codeAny (model P w) A (.call (.ref f) g) (CR CX0 outer P w H s Q E) s
/-- near the top it is a def as others are -/
theorem FnT.fn {P : Program} {w : World} {K : PySem.W.Frag} {mg : Str → Option Value} {base : Heap} {D U k : Nat} {f : Addr} {fd : FuncData} {ps : List Str} {sp : Sp} (F : FnT P w K mg base D U f fd ps sp) (hd : recursionLimit ≤ D + 3 * k + 6) (hu : cLine ≤ U + 16 * k + 201) :
    FnOk P w K mg base CX0 k f fd ps sp :=
  ⟨F.len, fun A outer s H g us vs Q E r => F.run A outer s H g us vs Q E r.hd (by have := r.dp; omega) (by have := r.un; omega)⟩
section
variable {X : Cx} {D U : Nat} {f : Addr} {fd : FuncData} {ps : List Str} {sp : Sp} {x : Str} {p pos : Pos} {e : Expr} {es : List Expr} {t : TA}
theorem pe_callT (F : FnT X.prog X.w X.K X.mg X.base D U f fd ps sp) (h1 : X.A.handled = none) (h2 : X.A.depth ≤ D) (h3 : X.A.units ≤ U) (hg : Gl X x) (hm : X.mg x = some (.ref f)) (hk : PySem.W.keepIn X.K (.ref f) = true) (hb : Binds X.K fd ps [])
    (ha : PA X (e :: es) t) (hdb : (x == ("__debug__" : Str)) = false := by decide) (st : starEach (e :: es) X.env = (false, eval e X.env) :: starEach es X.env := by rfl) (pl : (backTo pos (starEach es X.env)).any (·.1) = false := by rfl) :
    PE X (.Call (.Name x p) (e :: es) [] pos) (tCall sp [] E0 t) := by
  constructor
  intro pins s σ H Q I h
  apply wpAny_Call_Name_kw
  apply ld_glob I hg hm _ hdb
  apply PySem.W.callWith_K (h₀ := X.base) I.ok.mod.kin hk _ st pl
  refine thn (ha.run pos pins s σ H _ I h) ?_
  rintro us z ⟨vs, H1, J, rel, now⟩
  refine ⟨J.kIn, ?_⟩
  rw [List.append_nil] at now
  have n : us.length = ps.length := by rw [← rel.length]; exact F.len _ _ _ _ now
  have bind : BindsTo z fd ⟨us, []⟩ (ps.zip us) := by
    have := hb z us J.kIn (by rw [List.append_nil]; exact n)
    rw [List.append_nil] at this
    exact this
  apply wpAny_call
  refine codeAny_mono (F.run X.A X.stack z H1 ⟨us, []⟩ us vs Q E0 h1 h2 h3 J.env0 bind rel now) ?_
  intro r z' out
  match r with
  | .ok (.ret u) => exact J.after out
  | .ok .next => exact False.elim out
  | .ok .brk => exact False.elim out
  | .ok .cont => exact False.elim out
  | .error e => exact (pass0 : Passes CX0 X E0) pins σ H1 z e z' J out
end
section
variable {P : Program} {w : World} {K : PySem.W.Frag} {mg : Str → Option Value} {base : Heap}
theorem fnT_of {x qual : Str} {st : Stmt} {f : Addr} {fd : FuncData} {N ps : List Str} {D U : Nat} {sp : Sp} (F : Fun K x qual st f fd) (S : FnScope N ps (defScope st)) (len : ∀ vs H Q E, sp vs H Q E → vs.length = ps.length) (lim : D < recursionLimit)
    (body : ∀ (cdv : Value) (A : Around) (outer : List Env) (s : Shared) (H : Hp) (vs : List V) (Q : VK) (E : XK), A.handled = none → A.depth ≤ D → A.units ≤ U → sp vs H Q E →
      ∃ t, PSs (cxOf CX0 P w K mg base N qual (defScope st) f cdv A outer s H E).nox (defBody st) t ∧ t { nx := fun _ H' => Q .non H', rt := Q } (L2.start N vs) H) : FnT P w K mg base D U f fd ps sp := by
  obtain ⟨oc, od, kV, doc, pm, an, cdv, ct, osl, rfl, lk, code⟩ := F.ex
  refine ⟨len, ?_⟩
  intro A outer s H g us vs Q E hh dp un e0 bind rel pre
  have n := len _ _ _ _ pre
  have kin : K.In s.heap := e0.mod.kin.keeps fun b o e => (e0.bs b o e).1
  have nol : s.heap.NoLimit := e0.mod.nolimit.keeps fun b o e => (e0.bs b o e).1
  have kinds : ∀ y ∈ ps.zip us, (defScope st).names.lookup y.1 = some .local ∨ ((defScope st).names.lookup y.1 = some .cell ∧ ((cellsFrom (s.heap.objs.size + 1) (defScope st).names []).lookup y.1).isSome = true) := by
    rintro ⟨a, v⟩ hy
    exact (S.par a (List.of_mem_zip hy).1).imp id fun c => ⟨c, PySem.W.cellsFrom_some _ _ _ (.inl c)⟩
  apply codeAny_call_function (Nat.lt_of_le_of_lt dp lim) (kin _ _ lk) rfl S.co S.gen rfl (PySem.W.codeRec_of kin code) (bind _ _ _ _ _)
  apply wpAny_newFunctionEnv_cells S.kind kinds
  intro env ee s1 laid
  subst ee
  refine ⟨nol.keeps laid.toInCall.keep, codeAny_func ?_⟩
  obtain ⟨t, run, now⟩ := body cdv A outer s H vs Q E hh dp un pre
  replace run := run.nox
  have J : Inv (cxOf CX0 P w K mg base N qual (defScope st) f cdv A outer s H E) [] (L2.start N vs) H s1 := inv_start S hh e0 n rel laid
  refine wpAny_mono (run.run [] s1 (L2.start N vs) H _ J now) ?_ fun _ _ e => e
  intro fl z out
  match fl, out with
  | .ret u, ⟨v, σ', H', J', rv, q⟩ => exact ⟨v, H', J'.os, J'.bare, J'.base, J'.hok, rv, q⟩
  | .next, ⟨σ', H', J', q⟩ => exact ⟨V.non, H', J'.os, J'.bare, J'.base, J'.hok, rfl, q⟩
  | .brk, ⟨_, _, _, q⟩ => exact False.elim q
  | .cont, ⟨_, _, _, q⟩ => exact False.elim q
end
end Ly
set_option Elab.async false
set_option linter.all false
set_option maxRecDepth 100000
set_option maxHeartbeats 8000000
namespace Ly
open PySem PySem.Spec PyProof.Rows L2 Evl
local macro_rules | `(tactic| walk_at "ne") => `(tactic| first
  | assumption
  | ((refine' Ne.symm ?hq); (case hq => assumption))
  | ((refine' ne_of_none ?nh1 ?nh2); (case nh2 => assumption); (case nh1 => walk_at "hp"))
  | ((refine' Ne.symm (ne_of_none ?nh1 ?nh2)); (case nh2 => assumption); (case nh1 => walk_at "hp")))
local macro_rules | `(tactic| walk_at "hp") => `(tactic| first
  | assumption
  | exact upd_same
  | ((refine' SqL.of ?hq); (case hq => walk_at "hp"))
  | ((refine' SqT.of ?hq); (case hq => walk_at "hp"))
  | ((refine' (upd_ne ?hne).trans ?hrest); (case hne => walk_at "ne"); (case hrest => walk_at "hp"))
  | ((refine' ly_at ?hex ?hh); (case hex => assumption); (case hh => walk_at "hp"))
  | ((refine' ly_atF ?hex ?hnn ?hh); (case hex => assumption); (case hh => walk_at "hp"); (case hnn => walk_at "ne"))
  | ((refine' ex_t ?hex ?hh); (case hh => assumption); (case hex => walk_at "ex"))
  | ((refine' ex_l ?hex ?hh); (case hh => assumption); (case hex => walk_at "ex")))
local macro_rules | `(tactic| walk_at "ex") => `(tactic| first
  | assumption
  | exact Ex.refl _
  | ((refine' ex_new ?xa ?xb); (case xb => assumption); (case xa => walk_at "ex"))
  | ((refine' ex_upd ?xa ?xb); (case xb => walk_at "free"); (case xa => walk_at "ex"))
  | ((refine' Ex.trans ?xa ?xb); (case xb => assumption); (case xa => walk_at "ex")))
local macro_rules | `(tactic| walk_at "free") => `(tactic| first
  | assumption
  | ((refine' fresh_back ?xa ?xb); (case xb => assumption); (case xa => walk_at "ex")))
local macro_rules | `(tactic| walk_at "fr") => `(tactic| first
  | assumption
  | exact Fr.refl _ _
  | ((refine' Fr.own ?hq); (case hq => walk_at "fr"))
  | ((refine' Fr.new ?xa ?xb); (case xb => assumption); (case xa => walk_at "fr"))
  | ((refine' Fr.mut ?xa ?xb); (case xb => assumption); (case xa => walk_at "fr"))
  | ((refine' Fr.trans ?xa ?xb); (case xb => assumption); (case xa => walk_at "fr"))
  | ((refine' Fr.trans ?xa (Fr.ex ?xb)); (case xb => assumption); (case xa => walk_at "fr")))
local macro_rules | `(tactic| walk_at "go1") => `(tactic| first
  | (with_reducible refine' w_seq ?_)
  | (with_reducible refine' w_asg ?_)
  | (with_reducible refine' w_ret ?_)
  | (with_reducible refine' w_drop ?_)
  | (with_reducible refine' w_if ?_)
  | (with_reducible refine' w_next ?_)
  | (with_reducible refine' w_name ?_)
  | (with_reducible refine' w_sub ?_)
  | ((with_reducible refine' w_var ?hv ?_); (case hv => exact rfl))
  | (with_reducible refine' w_c ?_)
  | (with_reducible refine' w_op ?_)
  | (with_reducible refine' w_un ?_)
  | (with_reducible refine' w_ch ?_)
  | (with_reducible refine' w_I0 ?_)
  | ((with_reducible refine' w_I ?hc ?_); (case hc => first | (exact ly_mulL (by decide) (by decide)) | (exact ly_mulR (by decide) (by decide)) | (exact ly_mulL (by omega) (by omega)) | (show (_ : Int) ≠ 0; decide) | (show (_ : Int) ≠ 0; omega) | (exact ⟨by decide, by decide⟩) | (exact ⟨by omega, by omega⟩)))
  | (with_reducible refine' w_U ?_)
  | ((with_reducible refine' w_eq ?hs ?_); (case hs => exact rfl))
  | ((with_reducible refine' w_ne ?hs ?_); (case hs => exact rfl))
  | (with_reducible refine' w_isB ?_)
  | (with_reducible refine' w_notB ?_)
  | (with_reducible refine' w_nil ?_)
  | (with_reducible refine' w_cons ?_)
  | (with_reducible refine' w_tup ?_)
  | (with_reducible refine' w_lst ?_)
  | (with_reducible refine' w_cb ?_)
  | (with_reducible refine' w_call ?_)
  | (with_reducible refine' w_bm ?_)
  | (with_reducible refine' w_bm0 ?_)
  | ((with_reducible refine' w_app ?hh ?hz ?_); (case hh => walk_at "hp"); (case hz => first | exact ly_lt (by omega) | exact ly_lt (by simp only [List.length_append, List.length_map, List.length_cons, List.length_nil]; omega)))
  | ((with_reducible refine' w_popA ?hh ?_); (case hh => walk_at "hp"))
  | ((with_reducible refine' w_ext ?hh ?hh2 ?hz ?_); (case hh => walk_at "hp"); (case hh2 => walk_at "hp"))
  | ((with_reducible refine' w_ixL ?hh ?ha ?_); (case hh => walk_at "hp"); (case ha => first | exact rfl | exact at_map (by omega) | exact atI_last _ _ | ((refine' at_of ?ae ?ah); (case ah => assumption); (case ae => omega))))
  | ((with_reducible refine' w_ixT ?hh ?ha ?_); (case hh => walk_at "hp"); (case ha => first | exact rfl | exact at_map (by omega) | exact atI_last _ _ | ((refine' at_of ?ae ?ah); (case ah => assumption); (case ae => omega))))
  | ((with_reducible refine' w_cat ?hh ?hh2 ?hz ?_); (case hh => walk_at "hp"); (case hh2 => walk_at "hp"))
  | ((with_reducible refine' w_setL ?hh ?ha ?_); (case hh => walk_at "hp"); (case ha => exact rfl))
  | (with_reducible refine' w_test ?_)
  | (with_reducible refine' w_tB ?_)
  | (with_reducible refine' w_bl ?_)
  | (with_reducible refine' w_and ?_)
  | (with_reducible refine' w_or ?_)
  | (with_reducible refine' w_not ?_)
  | (with_reducible refine' w_andV ?_)
  | (with_reducible refine' w_orV ?_)
  | (with_reducible refine' w_notV ?_)
  | (with_reducible refine' w_ifE ?_)
  | (with_reducible refine' w_for ?_)
  | ((with_reducible refine' w_nin ?hh ?_); (case hh => walk_at "hp"))
  | ((with_reducible refine' w_sorted ?hh ?_); (case hh => walk_at "hp"))
  | (with_reducible refine' w_tsadd ?_)
  | ((with_reducible refine' w_tsadd1 ?hh ?_); (case hh => walk_at "hp"))
  | ((with_reducible refine' w_sadd ?hh ?hr ?_); (case hh => walk_at "hp"); (case hr => omega))
  | (with_reducible refine' w_iZ ?_)
  | ((with_reducible refine' w_iZ1 ?hh ?hh2 ?_); (case hh => walk_at "hp"); (case hh2 => walk_at "hp"))
  | (with_reducible refine' w_iS ?_)
  | (with_reducible refine' w_iS1 ?_)
  | ((with_reducible refine' w_gtup ?hh ?hn ?_); (case hh => walk_at "hp"); (case hn => exact rfl))
  | (with_reducible refine' w_gcons ?_)
  | (with_reducible refine' w_gnil ?_)
  | (with_reducible refine' w_js ?_)
  | (with_reducible refine' w_jsn ?_)
  | ((with_reducible refine' w_js1 ?hl ?_); (case hl => decide +kernel))
  | (with_reducible refine' w_fmt ?_)
  | ((with_reducible refine' w_fmt1 ?hl ?_); (case hl => decide +kernel))
  | (with_reducible refine' w_callS ?_)
  | ((with_reducible refine' w_truL ?hh ?_); (case hh => walk_at "hp"))
  | (with_reducible refine' w_lc ?_)
  | (with_reducible refine' w_yes ?_)
  | ((with_reducible refine' w_wipe ?he ?_); (case he => exact rfl))
  | (with_reducible refine' w_iL ?_)
  | (with_reducible refine' w_iT ?_)
  | (with_reducible refine' w_iR ?_)
  | ((with_reducible refine' w_iL1 ?hh ?_); (case hh => walk_at "hp"))
  | ((with_reducible refine' w_iT1 ?hh ?_); (case hh => walk_at "hp"))
  | ((with_reducible refine' w_iR1 ?h1 ?h2 ?_); (case h1 => omega); (case h2 => omega))
  | ((with_reducible refine' w_aug ?hv ?_); (case hv => exact rfl))
  | (with_reducible refine' w_ipI ?_)
  | ((with_reducible refine' w_isi ?hy ?hk ?_); (case hy => walk_at "ty"); (case hk => walk_at "kit"))
  | ((with_reducible refine' w_int ?_))
  | ((with_reducible refine' w_intB ?_))
  | ((with_reducible refine' w_abs ?_))
  | ((with_reducible refine' w_lenL ?hh ?_); (case hh => walk_at "hp"))
  | ((with_reducible refine' w_lenT ?hh ?_); (case hh => walk_at "hp"))
  | ((with_reducible refine' w_tupL ?hh ?_); (case hh => walk_at "hp"))
  | ((with_reducible refine' w_tupT ?hh ?_); (case hh => walk_at "hp"))
  | ((with_reducible refine' w_catA ?hh ?hh2 ?hz ?_); (case hh => walk_at "hp"); (case hh2 => walk_at "hp"); (case hz => walk_at "len"))
  | ((with_reducible refine' w_repB ?hh ?hne ?h2 ?h3 ?hz ?_); (case hh => walk_at "hp"); (case hne => simp); (case h2 => omega); (case h3 => omega); (case hz => exact Nat.le_of_ble_eq_true rfl))
  | ((with_reducible refine' w_eqN ?hh ?hh2 ?n1 ?n2 ?_); (case hh => walk_at "hp"); (case hh2 => walk_at "hp"); (case n1 => walk_at "nd"); (case n2 => walk_at "nd"))
  | ((with_reducible refine' w_neN ?hh ?hh2 ?n1 ?n2 ?_); (case hh => walk_at "hp"); (case hh2 => walk_at "hp"); (case n1 => walk_at "nd"); (case n2 => walk_at "nd"))
  | ((with_reducible refine' w_eqL ?hh ?hh2 ?n1 ?n2 ?_); (case hh => walk_at "hp"); (case hh2 => walk_at "hp"); (case n1 => walk_at "nd"); (case n2 => walk_at "nd"))
  | ((with_reducible refine' w_neL ?hh ?hh2 ?n1 ?n2 ?_); (case hh => walk_at "hp"); (case hh2 => walk_at "hp"); (case n1 => walk_at "nd"); (case n2 => walk_at "nd"))
  | ((with_reducible refine' w_neNon ?hh2 ?n2 ?_); (case hh2 => walk_at "hp"); (case n2 => walk_at "nd"))
  | ((with_reducible refine' w_eqNon ?hh2 ?n2 ?_); (case hh2 => walk_at "hp"); (case n2 => walk_at "nd"))
  | ((with_reducible refine' w_slA ?hh ?_); (case hh => walk_at "hp"))
  | ((with_reducible refine' w_disp ?hz ?_); (case hz => exact sz_of (Nat.le_of_ble_eq_true rfl)))
  | ((with_reducible refine' w_tyL ?hh ?_); (case hh => walk_at "hp"))
  | (with_reducible refine' iteT ?_)
  | (with_reducible refine' iteF ?_)
  | (with_reducible refine' w_nT ?_)
  | (with_reducible refine' w_nn ?_)
  | (with_reducible refine' w_nnT ?_)
  | (with_reducible refine' w_nnR ?_)
  | (with_reducible refine' w_neG ?_)
  | (with_reducible refine' w_eqG ?_)
  | (with_reducible refine' w_neS ?_)
  | (with_reducible refine' w_eqS ?_)
  | (with_reducible refine' w_neSb ?_)
  | (with_reducible refine' w_eqSb ?_)
  | (with_reducible refine' w_deIS ?_)
  | (with_reducible refine' w_deSI ?_)
  | (with_reducible refine' w_deISn ?_)
  | ((with_reducible refine' w_deST ?he ?_); (case he => decide +kernel))
  | ((with_reducible refine' w_deSF ?he ?_); (case he => decide +kernel))
  | ((with_reducible refine' w_deSTn ?he ?_); (case he => decide +kernel))
  | ((with_reducible refine' w_deSFn ?he ?_); (case he => decide +kernel))
  | (with_reducible refine' w_nF ?_)
  | dsimp only [Bool.not_true, Bool.not_false])
local macro_rules | `(tactic| walk_at "ty") => `(tactic| first
  | exact .base (.int _) | exact .base (.str _) | exact .base (.bl _) | exact .base .non
  | ((refine' tyx_t ?hq); (case hq => walk_at "hp")) | ((refine' tyx_l ?hq); (case hq => walk_at "hp")) | ((refine' .base (.tup ?hq)); (case hq => walk_at "hp")) | assumption)
local macro_rules | `(tactic| walk_at "go") => `(tactic| repeat walk_at "go1")
local macro_rules | `(tactic| walk_at "st") => `(tactic| try dsimp only [cxOf, Cx.nox, Cx.wish])
local macro_rules | `(tactic| walk_at "kit") => `(tactic| with_reducible first | exact kit_int_int | exact kit_int_str | exact kit_int_bool | exact kit_int_tuple | exact kit_int_list | exact kit_str_int | exact kit_str_str | exact kit_str_bool | exact kit_str_tuple | exact kit_str_list | exact kit_bool_int | exact kit_bool_str | exact kit_bool_bool | exact kit_bool_tuple | exact kit_bool_list | exact kit_NoneType_int | exact kit_NoneType_str | exact kit_NoneType_bool | exact kit_NoneType_tuple | exact kit_NoneType_list | exact kit_list_int | exact kit_list_str | exact kit_list_bool | exact kit_list_tuple | exact kit_list_list | exact kit_tuple_int | exact kit_tuple_str | exact kit_tuple_bool | exact kit_tuple_tuple | exact kit_tuple_list)
local macro_rules | `(tactic| walk_at "nd") => `(tactic| first
  | assumption
  | exact Tm.nds _
  | exact Nds.nil
  | exact Nds.ofInts _
  | ((refine' Nds.cons ?na ?nb); (case na => first | exact Nds.I _ | exact Nds.L | exact Nds.A); (case nb => walk_at "nd"))
  | ((refine' Nds.app ?na ?nb); (case na => walk_at "nd"); (case nb => walk_at "nd"))
  | ((refine' Nds.rep ?na _); (case na => walk_at "nd")))
local macro_rules | `(tactic| walk_at "len") => `(tactic| first
  | exact ly_sz (by omega)
  | ((simp only [List.length_append, List.length_cons, List.length_nil, List.length_map, PyProof.Rows.lm_len_rep_flat]); exact ly_sz (by omega)))
local macro_rules | `(tactic| walk_at "go1") => `(tactic| first
  | (with_reducible refine' w_kget2 ?_)
  | (with_reducible refine' w_isRN ?_)
  | (with_reducible refine' w_isNN ?_)
  | (with_reducible refine' w_isIN ?_)
  | ((with_reducible refine' w_kg ?hd ?_); (case hd => assumption)))
local macro_rules | `(tactic| walk_at "go1") => `(tactic| first
  | ((with_reducible refine' w_extT ?hh ?hh2 ?hz ?_); (case hh => walk_at "hp"); (case hh2 => walk_at "hp"))
  | ((with_reducible refine' w_I ?hc ?_); (case hc => exact ⟨by decide, by decide, by decide⟩))
  | (with_reducible refine' w_sl ?_)
  | (with_reducible refine' w_noP ?_)
  | (with_reducible refine' w_part ?_)
  | (with_reducible refine' w_part1 ?_)
  | (with_reducible refine' w_it ?_)
  | (with_reducible refine' w_it1 ?_)
  | ((with_reducible refine' w_lenZ ?hz ?_); (case hz => omega))
  | ((with_reducible refine' w_addZb ?hz ?_); (case hz => omega))
  | ((with_reducible refine' w_addZf ?hz ?_); (case hz => omega))
  | ((with_reducible refine' w_addZa ?hz ?_); (case hz => omega))
  | ((with_reducible refine' w_inS ?hh ?_); (case hh => walk_at "hp"))
  | ((with_reducible refine' w_ixT ?hh ?ha ?_); (case hh => assumption); (case ha => exact atI_nat (by assumption))))
def topS (i : Nat) : Stmt := PySem.Challenge.pw_lydite_k24_developments.main.body.getD i (.Pass ⟨0, 0, 0, 0⟩)
abbrev s_check_size : Stmt := topS 6
theorem sc_check_size : FnScope ["size"] ["size"] (defScope s_check_size) := ⟨rfl, rfl, rfl, by decide +kernel, rfl, by decide +kernel, by decide +kernel⟩
abbrev s_checked : Stmt := topS 7
theorem sc_checked : FnScope ["term", "node"] ["term"] (defScope s_checked) := ⟨rfl, rfl, rfl, by decide +kernel, rfl, by decide +kernel, by decide +kernel⟩
abbrev s_depths : Stmt := topS 8
theorem sc_depths : FnScope ["term", "found", "pending", "node", "depth"] ["term"] (defScope s_depths) := ⟨rfl, rfl, rfl, by decide +kernel, rfl, by decide +kernel, by decide +kernel⟩
abbrev s_stands_free : Stmt := topS 9
theorem sc_stands_free : FnScope ["node", "depth"] ["node", "depth"] (defScope s_stands_free) := ⟨rfl, rfl, rfl, by decide +kernel, rfl, by decide +kernel, by decide +kernel⟩
abbrev s_lifted_nodes : Stmt := topS 10
theorem sc_lifted_nodes : FnScope ["term", "count", "nodes", "node", "depth"] ["term", "count"] (defScope s_lifted_nodes) := ⟨rfl, rfl, rfl, by decide +kernel, rfl, by decide +kernel, by decide +kernel⟩
abbrev s_put : Stmt := topS 11
theorem sc_put : FnScope ["term", "value", "nodes", "node", "depth"] ["term", "value"] (defScope s_put) := ⟨rfl, rfl, rfl, by decide +kernel, rfl, by decide +kernel, by decide +kernel⟩
abbrev s_put_origins : Stmt := topS 12
theorem sc_put_origins : FnScope ["term", "value", "of_value", "found", "at", "depth"] ["term", "value"] (defScope s_put_origins) := ⟨rfl, rfl, rfl, by decide +kernel, rfl, by decide +kernel, by decide +kernel⟩
abbrev s_is_redex : Stmt := topS 14
theorem sc_is_redex : FnScope ["term", "at"] ["term", "at"] (defScope s_is_redex) := ⟨rfl, rfl, rfl, by decide +kernel, rfl, by decide +kernel, by decide +kernel⟩
abbrev s_redex_indexes : Stmt := topS 15
abbrev N_redex_indexes : List Str := ["term", "at"]
theorem sc_redex_indexes : FnScope ["term", "at"] ["term"] (defScope s_redex_indexes) := ⟨rfl, rfl, rfl, by decide +kernel, rfl, by decide +kernel, by decide +kernel⟩
abbrev s_all_redexes : Stmt := topS 17
abbrev N_all_redexes : List Str := ["term", "at"]
theorem sc_all_redexes : FnScope ["term", "at"] ["term"] (defScope s_all_redexes) := ⟨rfl, rfl, rfl, by decide +kernel, rfl, by decide +kernel, by decide +kernel⟩
abbrev s_joined : Stmt := topS 18
theorem sc_joined : FnScope ["head", "parts", "nodes", "origins", "part_nodes", "part_origins"] ["head", "parts"] (defScope s_joined) := ⟨rfl, rfl, rfl, by decide +kernel, rfl, by decide +kernel, by decide +kernel⟩
abbrev s_contracted : Stmt := topS 19
abbrev N_contracted : List Str := ["function", "argument", "body", "body_origins", "value", "value_origins", "nodes", "known", "origin"]
theorem sc_contracted : FnScope ["function", "argument", "body", "body_origins", "value", "value_origins", "nodes", "known", "origin"] ["function", "argument"] (defScope s_contracted) := ⟨rfl, rfl, rfl, by decide +kernel, rfl, by decide +kernel, by decide +kernel⟩
abbrev s_reduced : Stmt := topS 20
theorem sc_reduced : FnScope ["term", "chosen", "pending", "at", "head", "function", "argument"] ["term", "chosen"] (defScope s_reduced) := ⟨rfl, rfl, rfl, by decide +kernel, rfl, by decide +kernel, by decide +kernel⟩
abbrev s_develop : Stmt := topS 21
theorem sc_develop : FnScope ["term", "times", "_"] ["term", "times"] (defScope s_develop) := ⟨rfl, rfl, rfl, by decide +kernel, rfl, by decide +kernel, by decide +kernel⟩
abbrev s_law_stream : Stmt := topS 23
theorem sc_law_stream : FnScope ["script", "mixed", "cell"] ["script"] (defScope s_law_stream) := ⟨rfl, rfl, rfl, by decide +kernel, rfl, by decide +kernel, by decide +kernel⟩
abbrev s_law_draw : Stmt := topS 24
theorem sc_law_draw : FnScope ["stream", "many", "value"] ["stream", "many"] (defScope s_law_draw) := ⟨rfl, rfl, rfl, by decide +kernel, rfl, by decide +kernel, by decide +kernel⟩
abbrev s_law_is_lam : Stmt := topS 25
theorem sc_law_is_lam : FnScope ["node"] ["node"] (defScope s_law_is_lam) := ⟨rfl, rfl, rfl, by decide +kernel, rfl, by decide +kernel, by decide +kernel⟩
abbrev s_law_end : Stmt := topS 26
theorem sc_law_end : FnScope ["term", "at", "missing"] ["term", "at"] (defScope s_law_end) := ⟨rfl, rfl, rfl, by decide +kernel, rfl, by decide +kernel, by decide +kernel⟩
abbrev s_law_depths : Stmt := topS 27
theorem sc_law_depths : FnScope ["term", "found", "waiting", "node", "depth"] ["term"] (defScope s_law_depths) := ⟨rfl, rfl, rfl, by decide +kernel, rfl, by decide +kernel, by decide +kernel⟩
abbrev s_law_lift : Stmt := topS 28
theorem sc_law_lift : FnScope ["term", "count", "depths_v", "nodes", "k"] ["term", "count"] (defScope s_law_lift) := ⟨rfl, rfl, rfl, by decide +kernel, rfl, by decide +kernel, by decide +kernel⟩
abbrev s_law_put : Stmt := topS 29
theorem sc_law_put : FnScope ["term", "value", "depths_v", "nodes", "k"] ["term", "value"] (defScope s_law_put) := ⟨rfl, rfl, rfl, by decide +kernel, rfl, by decide +kernel, by decide +kernel⟩
abbrev s_law_term : Stmt := topS 30
theorem sc_law_term : FnScope ["stream", "size", "depth", "pick", "half"] ["stream", "size", "depth"] (defScope s_law_term) := ⟨rfl, rfl, rfl, by decide +kernel, rfl, by decide +kernel, by decide +kernel⟩
abbrev s_law_closed_term : Stmt := topS 31
theorem sc_law_closed_term : FnScope ["stream", "many", "term", "k", "other"] ["stream"] (defScope s_law_closed_term) := ⟨rfl, rfl, rfl, by decide +kernel, rfl, by decide +kernel, by decide +kernel⟩
abbrev s_law_rich : Stmt := topS 32
theorem sc_law_rich : FnScope ["stream", "size", "pick", "half"] ["stream", "size"] (defScope s_law_rich) := ⟨rfl, rfl, rfl, by decide +kernel, rfl, by decide +kernel, by decide +kernel⟩
abbrev s_law_is_large : Stmt := topS 33
abbrev N_law_is_large : List Str := ["term", "node"]
theorem sc_law_is_large : FnScope ["term", "node"] ["term"] (defScope s_law_is_large) := ⟨rfl, rfl, rfl, by decide +kernel, rfl, by decide +kernel, by decide +kernel⟩
abbrev s_law_develop : Stmt := topS 34
theorem sc_law_develop : FnScope ["term", "inner", "end", "other", "start", "first", "found"] ["term"] (defScope s_law_develop) := ⟨rfl, rfl, rfl, by decide +kernel, rfl, by decide +kernel, by decide +kernel⟩
abbrev s_law_depth : Stmt := topS 35
theorem sc_law_depth : FnScope ["term", "rows", "most", "node", "left"] ["term"] (defScope s_law_depth) := ⟨rfl, rfl, rfl, by decide +kernel, rfl, by decide +kernel, by decide +kernel⟩
abbrev s_law_developed : Stmt := topS 36
theorem sc_law_developed : FnScope ["term", "times", "k"] ["term", "times"] (defScope s_law_developed) := ⟨rfl, rfl, rfl, by decide +kernel, rfl, by decide +kernel, by decide +kernel⟩
abbrev s_law_no_text : Stmt := topS 37
theorem sc_law_no_text : FnScope ["value"] ["value"] (defScope s_law_no_text) := ⟨rfl, rfl, rfl, by decide +kernel, rfl, by decide +kernel, by decide +kernel⟩
abbrev s_law_told : Stmt := topS 38
theorem sc_law_told : FnScope ["term", "times"] ["term", "times"] (defScope s_law_told) := ⟨rfl, rfl, rfl, by decide +kernel, rfl, by decide +kernel, by decide +kernel⟩
abbrev s_law_far : Stmt := topS 39
abbrev N_law_far : List Str := ["stream", "term", "depths_v", "rows", "k", "at"]
theorem sc_law_far : FnScope ["stream", "term", "depths_v", "rows", "k", "at"] ["stream", "term"] (defScope s_law_far) := ⟨rfl, rfl, rfl, by decide +kernel, rfl, by decide +kernel, by decide +kernel⟩
abbrev s_law : Stmt := topS 40
theorem sc_law : FnScope ["script", "stream", "term", "times", "due"] ["script"] (defScope s_law) := ⟨rfl, rfl, rfl, by decide +kernel, rfl, by decide +kernel, by decide +kernel⟩
structure Txt (w : World) (K : PySem.W.Frag) (mg : Str → Option Value) (tk : Nat → Tok) (cl : Nat → Addr) : Prop where
  n_int : mg "int" = none
  n_list : mg "list" = none
  n_len : mg "len" = none
  n_abs : mg "abs" = none
  n_isinstance : mg "isinstance" = none
  n_tuple : mg "tuple" = none
  n_range : mg "range" = none
  n_zip : mg "zip" = none
  n_reversed : mg "reversed" = none
  n_str : mg "str" = none
  n_max : mg "max" = none
  n_enumerate : mg "enumerate" = none
  g_MOST_NODES : mg "MOST_NODES" = some (.int 1000 (tk 0))
  g_MOST_VARIABLE : mg "MOST_VARIABLE" = some (.int 1000000 (tk 1))
  n_ValueError : mg "ValueError" = none
  g_LyditeError : mg "LyditeError" = some (.ref (cl 0))
  t_LyditeError : PySem.W.typeIn K (.ref (cl 0)) = some (.type "type")
  h3_LyditeError : PySem.W.hasDictIn K (cl 0) = true
  g_TooLarge : mg "TooLarge" = some (.ref (cl 1))
  x_TooLarge : PySem.W.excIn K (cl 1) [.type "ValueError", .type "Exception", .type "BaseException", .type "object"] "ValueError.__new__" = true
  k_TooLarge : PySem.W.keepIn K (.ref (cl 1)) = true
  b_TooLarge : PySem.W.subIn K (.ref (cl 1)) (.type "BaseException") = some true
  t_TooLarge : PySem.W.typeIn K (.ref (cl 1)) = some (.type "type")
  s0_TooLarge : PySem.W.subIn K (.ref (cl 1)) (.ref (cl 0)) = some true
  sv_TooLarge : PySem.W.subIn K (.ref (cl 1)) (.type "ValueError") = some true
  s1_TooLarge : PySem.W.subIn K (.ref (cl 1)) (.ref (cl 1)) = some true
  h1_TooLarge : PySem.W.findIn K (.ref (cl 1)) "__getattribute__" = some (some (.builtin "BaseException.__getattribute__"))
  h2_TooLarge : PySem.W.findIn K (.ref (cl 1)) "__getattr__" = some none
  h3_TooLarge : PySem.W.hasDictIn K (cl 1) = true
  h4_TooLarge : PySem.W.findIn K (.ref (cl 1)) "__class__" = some (some (.builtin "object.__class__"))
  h7_TooLarge : PySem.W.mroIn K (cl 1) (.type "object") = some true
  h5_TooLarge : PySem.W.specialIn K (.builtin "object.__class__") "__get__" = some (some (.builtin "getset_descriptor.__get__"))
  h6_TooLarge : PySem.W.takesIn K (.builtin "object.__class__") = some true
theorem Txt.e_TooLarge_TooLarge {w : World} {K : PySem.W.Frag} {mg : Str → Option Value} {tk : Nat → Tok} {cl : Nat → Addr} (T : Txt w K mg tk cl) : PySem.W.exmOne K (.ref (cl 1)) (.ref (cl 1)) = some true := exm_mk T.b_TooLarge T.h3_TooLarge T.t_TooLarge T.s1_TooLarge
section
variable {P : Program} {w : World} {K : PySem.W.Frag} {mg : Str → Option Value} {base : Heap} {tk : Nat → Tok} {cl : Nat → Addr}
def spStream (K : PySem.W.Frag) : Sp := fun vs H Q _ => ∃ (a : Addr) (ns : List Int), vs = [.ref a] ∧ SqL K H a (ns.map V.int) ∧ ns.length ≤ 63 ∧ ∀ H' p l, Ex H H' → H p = none → StAt H' p ⟨l, ns, 0, 0, mixOf ns⟩ → Q (.ref p) H'
theorem ok_stream {f : Addr} {fd : FuncData} {k : Nat} (F : Fun K "_law_stream" "_law_stream" s_law_stream f fd) (T : Txt w K mg tk cl) : FnOk P w K mg base CX0 (k + 1) f fd ["script"] (spStream K) := by
  refine F.ok sc_law_stream (fun vs H Q E h => ?_) (fun cdv A outer s H vs Q E hr h => ?_)
  · obtain ⟨a, ns, rfl, _⟩ := h
    rfl
  · obtain ⟨a, ns, rfl, hS, hlen, q⟩ := h
    refine ⟨_, (pss_cons (ps_set (i := 1) sc_law_stream.nd rfl (.inl rfl) pe_int) (pss_cons (ps_for PassesOwn.never rfl (pi_list (pv 0)) (pg_name (i := 2) sc_law_stream.nd rfl (.inl rfl)) (pss_one (ps_set (i := 1) sc_law_stream.nd rfl (.inl rfl) (pe_op op_modN (pe_callTy call_int1 (by rfl) T.n_int (by decide +kernel) (pa_cons (pe_op op_add (pe_op op_add (pe_op op_mul (pv 1) pe_int) (pe_op op_modN (pe_callTy call_int1 (by rfl) T.n_int (by decide +kernel) (pa_cons (pv 2) pa_nil)) pe_int)) pe_int) pa_nil)) pe_int)))) (pss_one (ps_ret (pe_lst (pa_cons (pe_callTy call_list_of (by rfl) T.n_list (by decide +kernel) (pa_cons (pv 0) pa_nil)) (pa_cons pe_int (pa_cons pe_int (pa_cons (pv 1) pa_nil))))))))), ?_⟩
    refine sl_of (σ2 := [some _, none, none]) rfl ?_
    walk_at "st"
    walk_at "go"
    refine for_list (K := K) (a := a) (xs := ns.map V.int) (fun i σ H' => H' = H ∧ ∃ y, σ = [some (.ref a), some (.int (mixOf (ns.take i))), y]) ⟨rfl, none, rfl⟩ (fun i σ H' _ e => by rw [e.1]; exact hS) ?_ ?_
    · rintro i x σ H' hi ⟨rfl, y, rfl⟩
      obtain ⟨z, hz, rfl⟩ := get_int hi
      walk_at "go"
      exact ⟨rfl, _, by rw [mixOf_take hz]; rfl⟩
    · rintro σ H' ⟨rfl, y, rfl⟩
      walk_at "go"
      intro l hl
      walk_at "go"
      intro p hp
      rw [List.take_of_length_le (by simp)]
      refine q _ _ l ?_ ?_ ⟨?_, ?_, ?_⟩
      · walk_at "ex"
      · walk_at "free"
      · walk_at "ne"
      · walk_at "hp"
      · walk_at "hp"
def spDraw : Sp := fun vs H Q _ => ∃ (s : Addr) (m : Stm) (n : Int), vs = [.ref s, .int n] ∧ StAt H s m ∧ 0 < n ∧ n < 1073741824 ∧ ∀ H', Fr s H H' → StAt H' s (m.next n) → Q (.int (m.val n)) H'
theorem ok_draw {f : Addr} {fd : FuncData} {k : Nat} (F : Fun K "_law_draw" "_law_draw" s_law_draw f fd) (T : Txt w K mg tk cl) : FnOk P w K mg base CX0 (k + 1) f fd ["stream", "many"] spDraw := by
  refine F.ok sc_law_draw (fun vs H Q E h => ?_) (fun cdv A outer s H vs Q E hr h => ?_)
  · obtain ⟨a, m, n, rfl, _⟩ := h
    rfl
  · obtain ⟨a, m, n, rfl, ⟨hla, ha, hl⟩, n0, n1, q⟩ := h
    refine ⟨_, (pss_cut (ps_if (PW.pt (pw_and (pt_cmpR op_eq (pe_ix ix_list (pv 0) pe_int (fun _ _ => rfl)) pe_int (nomark _)) (pw_and1 (pt_cmpR op_lt (pe_ix ix_list (pv 0) pe_int (fun _ _ => rfl)) (pe_callB call_len_seq (by rfl) T.n_len (by decide +kernel) (pa_cons (pe_ix ix_list (pv 0) pe_int (fun _ _ => rfl)) pa_nil)) (nomark _))))) (pss_cons (ps_asg (pe_callB call_abs (by rfl) T.n_abs (by decide +kernel) (pa_cons (pe_callTy call_int1 (by rfl) T.n_int (by decide +kernel) (pa_cons (pe_ix ix_list (pe_ix ix_list (pv 0) pe_int (fun _ _ => rfl)) (pe_ix ix_list (pv 0) pe_int (fun _ _ => rfl)) (fun _ _ => rfl)) pa_nil)) pa_nil)) (pg_sub (pv 0) pe_int set_list)) (pss_one (ps_asg (pe_op op_add (pe_ix ix_list (pv 0) pe_int (fun _ _ => rfl)) pe_int) (pg_sub (pv 0) pe_int set_list)))) pss_nil) (pss_cons (ps_if (pt_cmpR op_eq (pe_ix ix_list (pv 0) pe_int (fun _ _ => rfl)) pe_int (nomark _)) (pss_cons (ps_asg (pe_op op_modN (pe_callTy call_int1 (by rfl) T.n_int (by decide +kernel) (pa_cons (pe_op op_add (pe_op op_mul (pe_ix ix_list (pv 0) pe_int (fun _ _ => rfl)) pe_int) pe_int) pa_nil)) pe_int) (pg_sub (pv 0) pe_int set_list)) (pss_one (ps_ret (pe_op op_modN (pe_callTy call_int1 (by rfl) T.n_int (by decide +kernel) (pa_cons (pe_op op_fdivN (pe_ix ix_list (pv 0) pe_int (fun _ _ => rfl)) pe_int) pa_nil)) (pv 1))))) pss_nil) (pss_cons (ps_set (i := 2) sc_law_draw.nd rfl (.inl rfl) (pe_op op_modN (pe_callTy call_int1 (by rfl) T.n_int (by decide +kernel) (pa_cons (pe_ix ix_list (pv 0) pe_int (fun _ _ => rfl)) pa_nil)) (pv 1))) (pss_cons (ps_asg (pe_op op_fdivN (pe_ix ix_list (pv 0) pe_int (fun _ _ => rfl)) (pv 1)) (pg_sub (pv 0) pe_int set_list)) (pss_one (ps_ret (pv 2))))))), ?_⟩
    refine sl_of (σ2 := [some _, some _, none]) rfl ?_
    walk_at "st"
    walk_at "go"
    refine w_cut (M := fun σ' H' => σ' = [some (.ref a), some (.int n), none] ∧ Fr a H H' ∧ H' a = some (.lst [.ref m.home, .int m.take.cur, .int m.take.pos, .int m.take.mix]) ∧ H' m.home = some (.lst (m.cells.map V.int))) ?_ ?_
    · walk_at "go"
      refine w_brI (fun hc => ?_) (fun hc => ?_)
      · walk_at "go"
        refine w_br (fun hp => ?_) (fun hp => ?_)
        · rw [List.length_map] at hp
          have hp2 : m.pos < m.cells.length := by omega
          have e : m.take = { m with cur := (if m.cells.getD m.pos 0 < 0 then -(m.cells.getD m.pos 0) else m.cells.getD m.pos 0), pos := m.pos + 1 } := if_pos ⟨hc, hp2⟩
          walk_at "go"
          refine ⟨rfl, ?_, ?_, ?_⟩
          · walk_at "fr"
          · rw [e]
            exact upd_same
          · walk_at "hp"
        · rw [List.length_map] at hp
          have e : m.take = m := if_neg (fun z => hp (by omega))
          walk_at "go"
          rw [e]
          exact ⟨rfl, Fr.refl _ _, ha, hl⟩
      · have e : m.take = m := if_neg (fun z => hc z.1)
        walk_at "go"
        rw [e]
        exact ⟨rfl, Fr.refl _ _, ha, hl⟩
    · rintro σ' H' ⟨rfl, fr, ea, el⟩
      walk_at "go"
      refine w_brI (fun hc => ?_) (fun hc => ?_)
      · walk_at "go"
        have e1 : m.next n = m.take.turn := if_pos hc
        have e2 : m.val n = (m.take.turn.mix.fdiv 97).fmod n := if_pos hc
        rw [e1, e2] at q
        refine q _ ?_ ⟨?_, ?_, ?_⟩
        · walk_at "fr"
        · show m.take.home ≠ a
          rw [m.take_home]
          exact hla
        · show _ = some (HO.lst [.ref m.take.home, _, _, _])
          rw [upd_same, m.take_home]
          rfl
        · show _ = some (HO.lst (List.map V.int m.take.cells))
          rw [m.take_cells]
          show upd _ a _ m.take.home = _
          rw [m.take_home]
          walk_at "hp"
      · walk_at "go"
        have e1 : m.next n = { m.take with cur := m.take.cur.fdiv n } := if_neg hc
        have e2 : m.val n = m.take.cur.fmod n := if_neg hc
        rw [e1, e2] at q
        refine q _ ?_ ⟨?_, ?_, ?_⟩
        · walk_at "fr"
        · show m.take.home ≠ a
          rw [m.take_home]
          exact hla
        · show _ = some (HO.lst [.ref m.take.home, _, _, _])
          rw [upd_same, m.take_home]
          rfl
        · show _ = some (HO.lst (List.map V.int m.take.cells))
          rw [m.take_cells]
          show upd _ a _ m.take.home = _
          rw [m.take_home]
          walk_at "hp"
def spDepths (K : PySem.W.Frag) : Sp := fun vs H Q _ => ∃ (a : Addr) (t : Tm), vs = [.ref a] ∧ SqT K H a t.enc ∧ t.enc.length ≤ 2000000 ∧ ∀ H' p, Ex H H' → H p = none → H' p = some (.lst (nums (t.deps 0))) → Q (.ref p) H'
def spEnd (K : PySem.W.Frag) : Sp := fun vs H Q _ => ∃ (a : Addr) (xs : List V) (s : Nat) (u : Tm) (post : List V), vs = [.ref a, .int (s : Int)] ∧ SqT K H a xs ∧ xs.drop s = u.enc ++ post ∧ xs.length ≤ 2000000 ∧ Q (.int ((s + u.enc.length : Nat) : Int)) H




def NodeV (v : V) : Prop := (∃ n : Int, v = .int n) ∨ v = .str "lam" ∨ v = .str "app"
def isLamV (v : V) : Bool := decide (v = .str "lam")
def spIsLam : Sp := fun vs H Q _ => ∃ v, vs = [v] ∧ NodeV v ∧ Q (.bl (isLamV v)) H
theorem ok_islam {f : Addr} {fd : FuncData} {k : Nat} (F : Fun K "_law_is_lam" "_law_is_lam" s_law_is_lam f fd) (T : Txt w K mg tk cl) : FnOk P w K mg base CX0 (k + 1) f fd ["node"] spIsLam := by
  refine F.ok sc_law_is_lam (fun vs H Q E h => ?_) (fun cdv A outer s H vs Q E hr h => ?_)
  · obtain ⟨v, rfl, _⟩ := h
    rfl
  · obtain ⟨v, rfl, hv, q⟩ := h
    refine ⟨_, (pss_one (ps_ret (pe_or (pe_cmpR op_eq (pv 0) pe_str (nomark _)) (pe_one (pe_callB call_isi (by rfl) T.n_isinstance (by decide +kernel) (pa_cons (pv 0) (pa_cons (pe_bltn (v := .ty "tuple") (by rfl) T.n_tuple (by decide +kernel) rfl) pa_nil))))))), ?_⟩
    refine sl_of (σ2 := [some _]) rfl ?_
    walk_at "st"
    rcases hv with ⟨n, rfl⟩ | rfl | rfl
    · walk_at "go"
      exact q
    · walk_at "go"
      exact q
    · walk_at "go"
      exact q
theorem lamV_int (n : Int) : isLamV (.int n) = false := rfl
theorem lamV_lam : isLamV (.str "lam") = true := by decide +kernel
theorem lamV_app : isLamV (.str "app") = false := by decide +kernel
theorem ok_sdepths {f : Addr} {fd : FuncData} (F : Fun K "_law_depths" "_law_depths" s_law_depths f fd) (T : Txt w K mg tk cl)
    (D1 : Def P w K mg base CX0 1 "_law_is_lam" ["node"] spIsLam) : FnOk P w K mg base CX0 2 f fd ["term"] (spDepths K) := by
  obtain ⟨f1, fd1, g_law_is_lam, kp_law_is_lam, b_law_is_lam, G_law_is_lam⟩ := D1
  refine F.ok sc_law_depths (fun vs H Q E h => ?_) (fun cdv A outer s H vs Q E hr h => ?_)
  · obtain ⟨a, t, rfl, _⟩ := h
    rfl
  · obtain ⟨a, t, rfl, hS, hlen, q⟩ := h
    refine ⟨_, (pss_cons (ps_set (i := 1) sc_law_depths.nd rfl (.inl rfl) (pe_lst pa_nil)) (pss_cons (ps_set (i := 2) sc_law_depths.nd rfl (.inl rfl) (pe_lst (pa_cons pe_int pa_nil))) (pss_cons (ps_for PassesOwn.never rfl (pi_tup (pv 0)) (pg_name (i := 3) sc_law_depths.nd rfl (.inl rfl)) (pss_cons (ps_set (i := 4) sc_law_depths.nd rfl (.inl rfl) (pe_bm0 PySem.F.plainAttrs_list PySem.F.slot_list_pop PySem.F.type_list_pop mt_pop (pv 2))) (pss_cons (ps_expr (pe_bm PySem.F.plainAttrs_list PySem.F.slot_list_append PySem.F.type_list_append mt_append (pv 1) (pa_cons (pv 4) pa_nil))) (pss_one (ps_if (pt_cmpR op_eq (pv 3) pe_str (nomark _)) (pss_cons (ps_expr (pe_bm PySem.F.plainAttrs_list PySem.F.slot_list_append PySem.F.type_list_append mt_append (pv 2) (pa_cons (pv 4) pa_nil))) (pss_one (ps_expr (pe_bm PySem.F.plainAttrs_list PySem.F.slot_list_append PySem.F.type_list_append mt_append (pv 2) (pa_cons (pv 4) pa_nil))))) (pss_one (ps_if (pt_val (pe_call G_law_is_lam (hr.mono (by first | decide | omega)) (by rfl) g_law_is_lam kp_law_is_lam b_law_is_lam .nil pass0 (pa_cons (pv 3) pa_nil))) (pss_one (ps_expr (pe_bm PySem.F.plainAttrs_list PySem.F.slot_list_append PySem.F.type_list_append mt_append (pv 2) (pa_cons (pe_op op_add (pv 4) pe_int) pa_nil)))) pss_nil))))))) (pss_one (ps_ret (pv 1)))))), ?_⟩
    refine sl_of (σ2 := [some _, none, none, none, none]) rfl ?_
    walk_at "st"
    walk_at "go"
    intro fl hfl
    walk_at "go"
    intro wl hwl
    have hwf : wl ≠ fl := (ne_of_none upd_same hwl).symm
    have hwl0 : H wl = none := by
      rw [upd_ne hwf] at hwl
      exact hwl
    walk_at "go"
    refine for_tup (K := K) (a := a) (xs := t.enc) (fun i σ H' => ∃ found ds y1 y2, σ = [some (.ref a), some (.ref fl), some (.ref wl), y1, y2] ∧ Ex H H' ∧ H' fl = some (.lst (nums found)) ∧ H' wl = some (.lst (nums ds)) ∧ DInv t i found ds ∧ found.length = i ∧ ds.length ≤ i + 1)
      ⟨[], [0], none, none, rfl, by walk_at "ex", by walk_at "hp", upd_same, DInv.start t, rfl, by simp⟩ (fun i σ H' _ h => by obtain ⟨_, _, _, _, _, e, _⟩ := h; exact ex_t e hS) ?_ ?_
    · rintro i v σ H1 hi ⟨found, ds, y1, y2, rfl, e1, hf1, hw1, hinv, hfl1, hds1⟩
      have hlt : i < t.enc.length := (List.getElem?_eq_some_iff.mp hi).1
      obtain ⟨r, d, rfl, hstep⟩ := hinv.step hi
      have hw1b : H1 wl = some (.lst (nums r ++ [V.int d])) := by rw [hw1]; simp [nums]
      have el : (nums found).length = found.length := List.length_map _
      have el2 : (nums r).length = r.length := List.length_map _
      have hrl : r.length ≤ i := by simpa using hds1
      have ef : nums found ++ [V.int d] = nums (found ++ [d]) := by simp [nums]
      rcases hstep with ⟨n, rfl, hn⟩ | ⟨rfl, hn⟩ | ⟨rfl, hn⟩
      · walk_at "go"
        refine ⟨_, rfl, .inl ⟨_, rfl⟩, ?_⟩
        rw [lamV_int]
        walk_at "go"
        refine ⟨found ++ [d], r, _, _, rfl, by walk_at "ex", ?_, by walk_at "hp", hn, by simp [hfl1], by omega⟩
        rw [← ef]
        walk_at "hp"
      · walk_at "go"
        refine ⟨_, rfl, .inr (.inl rfl), ?_⟩
        rw [lamV_lam]
        walk_at "go"
        refine ⟨found ++ [d], r ++ [d + 1], _, _, rfl, by walk_at "ex", ?_, ?_, hn, by simp [hfl1], by simp; omega⟩
        · rw [← ef]
          walk_at "hp"
        · rw [upd_same]
          simp [nums]
      · walk_at "go"
        refine ⟨found ++ [d], r ++ [d] ++ [d], _, _, rfl, by walk_at "ex", ?_, ?_, hn, by simp [hfl1], by simp; omega⟩
        · rw [← ef]
          walk_at "hp"
        · rw [upd_same]
          simp [nums]
    · rintro σ H1 ⟨found, ds, y1, y2, rfl, e1, hf1, hw1, hinv, hfl1, hds1⟩
      walk_at "go"
      rw [hinv.done] at hf1
      exact q H1 fl e1 hfl hf1
theorem ok_send {f : Addr} {fd : FuncData} (F : Fun K "_law_end" "_law_end" s_law_end f fd) (T : Txt w K mg tk cl)
    (D1 : Def P w K mg base CX0 1 "_law_is_lam" ["node"] spIsLam) : FnOk P w K mg base CX0 2 f fd ["term", "at"] (spEnd K) := by
  obtain ⟨f1, fd1, g_law_is_lam, kp_law_is_lam, b_law_is_lam, G_law_is_lam⟩ := D1
  refine F.ok sc_law_end (fun vs H Q E h => ?_) (fun cdv A outer s H vs Q E hr h => ?_)
  · obtain ⟨a, xs, s, u, post, rfl, _⟩ := h
    rfl
  · obtain ⟨a, xs, s, u, post, rfl, hS, hu, hlen, q⟩ := h
    refine ⟨_, (pss_cons (ps_set (i := 2) sc_law_end.nd rfl (.inl rfl) pe_int) (pss_cons (ps_while PassesOwn.never (pt_cmpR op_gt (pv 2) pe_int (nomark _)) (pss_cut (ps_if (pt_cmpR op_eq (pe_ix ix_tup (pv 0) (pv 1) (fun _ _ => rfl)) pe_str (nomark _)) (pss_one (ps_set (i := 2) sc_law_end.nd rfl (.inl rfl) (pe_op op_add (pv 2) pe_int))) (pss_one (ps_if (pt_not (pt_val (pe_call G_law_is_lam (hr.mono (by first | decide | omega)) (by rfl) g_law_is_lam kp_law_is_lam b_law_is_lam .nil pass0 (pa_cons (pe_ix ix_tup (pv 0) (pv 1) (fun _ _ => rfl)) pa_nil)))) (pss_one (ps_set (i := 2) sc_law_end.nd rfl (.inl rfl) (pe_op op_sub (pv 2) pe_int))) pss_nil))) (pss_one (ps_set (i := 1) sc_law_end.nd rfl (.inl rfl) (pe_op op_add (pv 1) pe_int))))) (pss_one (ps_ret (pv 1))))), ?_⟩
    refine sl_of (σ2 := [some _, some _, none]) rfl ?_
    walk_at "st"
    walk_at "go"
    refine w_while (fun m σ H' => H' = H ∧ ∃ (e : Nat) (ts : List Tm), σ = [some (.ref a), some (.int (e : Int)), some (.int (ts.length : Int))] ∧ EInv xs (s + u.enc.length) e ts ∧ m = s + u.enc.length - e) _ ⟨rfl, s, [u], rfl, EInv.start hu, rfl⟩ ?_
    rintro m σ H ⟨rfl, e, ts, rfl, inv, rfl⟩
    walk_at "go"
    cases ts with
    | nil =>
      obtain ⟨post2, h1, h2⟩ := inv
      have h2 : e = s + u.enc.length := by simpa [encs] using h2
      refine w_br (fun h => by simp at h) (fun _ => ?_)
      walk_at "go"
      rw [h2]
      exact q
    | cons t ts =>
      obtain ⟨lt, v, ts', hv, inv', hcase⟩ := inv.step
      refine w_br (fun h => ?_) (fun h => absurd h (by simp))
      refine ⟨fun σ' H' => H' = H ∧ ∃ (e' : Nat) (ts2 : List Tm), σ' = [some (.ref a), some (.int (e' : Int)), some (.int (ts2.length : Int))] ∧ EInv xs (s + u.enc.length) e' ts2 ∧ e' = e + 1, fun σ' H' ⟨h1, e', ts2, h2, h3, h4⟩ => ⟨_, ?_, h1, e', ts2, h2, h3, rfl⟩, ?_⟩
      · omega
      · walk_at "go"
        refine w_cut (M := fun σ' H' => H' = H ∧ σ' = [some (.ref a), some (.int (e : Int)), some (.int (ts'.length : Int))]) ?_ ?_
        · walk_at "go"
          rcases hcase with ⟨n, rfl, hl⟩ | ⟨rfl, hl⟩ | ⟨rfl, hl⟩
          · walk_at "go"
            refine ⟨_, rfl, .inl ⟨_, rfl⟩, ?_⟩
            rw [lamV_int]
            walk_at "go"
            refine ⟨rfl, ?_⟩
            simp
            omega
          · walk_at "go"
            refine ⟨_, rfl, .inr (.inl rfl), ?_⟩
            rw [lamV_lam]
            walk_at "go"
            refine ⟨rfl, ?_⟩
            simp
            omega
          · walk_at "go"
            refine ⟨rfl, ?_⟩
            simp
            omega
        · rintro σ' H' ⟨rfl, rfl⟩
          walk_at "go"
          exact ⟨rfl, e + 1, ts', rfl, inv', rfl⟩
end
end Ly
set_option Elab.async false
set_option linter.all false
set_option maxRecDepth 100000
set_option maxHeartbeats 8000000
namespace Ly
open PySem PySem.Spec PyProof.Rows L2 Evl
local macro_rules | `(tactic| walk_at "ne") => `(tactic| first
  | assumption
  | ((refine' Ne.symm ?hq); (case hq => assumption))
  | ((refine' ne_of_none ?nh1 ?nh2); (case nh2 => assumption); (case nh1 => walk_at "hp"))
  | ((refine' Ne.symm (ne_of_none ?nh1 ?nh2)); (case nh2 => assumption); (case nh1 => walk_at "hp")))
local macro_rules | `(tactic| walk_at "hp") => `(tactic| first
  | assumption
  | exact upd_same
  | ((refine' SqL.of ?hq); (case hq => walk_at "hp"))
  | ((refine' SqT.of ?hq); (case hq => walk_at "hp"))
  | ((refine' (upd_ne ?hne).trans ?hrest); (case hne => walk_at "ne"); (case hrest => walk_at "hp"))
  | ((refine' ly_at ?hex ?hh); (case hex => assumption); (case hh => walk_at "hp"))
  | ((refine' ly_atF ?hex ?hnn ?hh); (case hex => assumption); (case hh => walk_at "hp"); (case hnn => walk_at "ne"))
  | ((refine' ex_t ?hex ?hh); (case hh => assumption); (case hex => walk_at "ex"))
  | ((refine' ex_l ?hex ?hh); (case hh => assumption); (case hex => walk_at "ex")))
local macro_rules | `(tactic| walk_at "ex") => `(tactic| first
  | assumption
  | exact Ex.refl _
  | ((refine' ex_new ?xa ?xb); (case xb => assumption); (case xa => walk_at "ex"))
  | ((refine' ex_upd ?xa ?xb); (case xb => walk_at "free"); (case xa => walk_at "ex"))
  | ((refine' Ex.trans ?xa ?xb); (case xb => assumption); (case xa => walk_at "ex")))
local macro_rules | `(tactic| walk_at "free") => `(tactic| first
  | assumption
  | ((refine' fresh_back ?xa ?xb); (case xb => assumption); (case xa => walk_at "ex")))
local macro_rules | `(tactic| walk_at "fr") => `(tactic| first
  | assumption
  | exact Fr.refl _ _
  | ((refine' Fr.own ?hq); (case hq => walk_at "fr"))
  | ((refine' Fr.new ?xa ?xb); (case xb => assumption); (case xa => walk_at "fr"))
  | ((refine' Fr.mut ?xa ?xb); (case xb => assumption); (case xa => walk_at "fr"))
  | ((refine' Fr.trans ?xa ?xb); (case xb => assumption); (case xa => walk_at "fr"))
  | ((refine' Fr.trans ?xa (Fr.ex ?xb)); (case xb => assumption); (case xa => walk_at "fr")))
local macro_rules | `(tactic| walk_at "go1") => `(tactic| first
  | (with_reducible refine' w_seq ?_)
  | (with_reducible refine' w_asg ?_)
  | (with_reducible refine' w_ret ?_)
  | (with_reducible refine' w_drop ?_)
  | (with_reducible refine' w_if ?_)
  | (with_reducible refine' w_next ?_)
  | (with_reducible refine' w_name ?_)
  | (with_reducible refine' w_sub ?_)
  | ((with_reducible refine' w_var ?hv ?_); (case hv => exact rfl))
  | (with_reducible refine' w_c ?_)
  | (with_reducible refine' w_op ?_)
  | (with_reducible refine' w_un ?_)
  | (with_reducible refine' w_ch ?_)
  | (with_reducible refine' w_I0 ?_)
  | ((with_reducible refine' w_I ?hc ?_); (case hc => first | (exact ly_mulL (by decide) (by decide)) | (exact ly_mulR (by decide) (by decide)) | (exact ly_mulL (by omega) (by omega)) | (show (_ : Int) ≠ 0; decide) | (show (_ : Int) ≠ 0; omega) | (exact ⟨by decide, by decide⟩) | (exact ⟨by omega, by omega⟩)))
  | (with_reducible refine' w_U ?_)
  | ((with_reducible refine' w_eq ?hs ?_); (case hs => exact rfl))
  | ((with_reducible refine' w_ne ?hs ?_); (case hs => exact rfl))
  | (with_reducible refine' w_isB ?_)
  | (with_reducible refine' w_notB ?_)
  | (with_reducible refine' w_nil ?_)
  | (with_reducible refine' w_cons ?_)
  | (with_reducible refine' w_tup ?_)
  | (with_reducible refine' w_lst ?_)
  | (with_reducible refine' w_cb ?_)
  | (with_reducible refine' w_call ?_)
  | (with_reducible refine' w_bm ?_)
  | (with_reducible refine' w_bm0 ?_)
  | ((with_reducible refine' w_app ?hh ?hz ?_); (case hh => walk_at "hp"); (case hz => first | exact ly_lt (by omega) | exact ly_lt (by simp only [List.length_append, List.length_map, List.length_cons, List.length_nil]; omega)))
  | ((with_reducible refine' w_popA ?hh ?_); (case hh => walk_at "hp"))
  | ((with_reducible refine' w_ext ?hh ?hh2 ?hz ?_); (case hh => walk_at "hp"); (case hh2 => walk_at "hp"))
  | ((with_reducible refine' w_ixL ?hh ?ha ?_); (case hh => walk_at "hp"); (case ha => first | exact rfl | exact at_map (by omega) | exact atI_last _ _ | ((refine' at_of ?ae ?ah); (case ah => assumption); (case ae => omega))))
  | ((with_reducible refine' w_ixT ?hh ?ha ?_); (case hh => walk_at "hp"); (case ha => first | exact rfl | exact at_map (by omega) | exact atI_last _ _ | ((refine' at_of ?ae ?ah); (case ah => assumption); (case ae => omega))))
  | ((with_reducible refine' w_cat ?hh ?hh2 ?hz ?_); (case hh => walk_at "hp"); (case hh2 => walk_at "hp"))
  | ((with_reducible refine' w_setL ?hh ?ha ?_); (case hh => walk_at "hp"); (case ha => exact rfl))
  | (with_reducible refine' w_test ?_)
  | (with_reducible refine' w_tB ?_)
  | (with_reducible refine' w_bl ?_)
  | (with_reducible refine' w_and ?_)
  | (with_reducible refine' w_or ?_)
  | (with_reducible refine' w_not ?_)
  | (with_reducible refine' w_andV ?_)
  | (with_reducible refine' w_orV ?_)
  | (with_reducible refine' w_notV ?_)
  | (with_reducible refine' w_ifE ?_)
  | (with_reducible refine' w_for ?_)
  | ((with_reducible refine' w_nin ?hh ?_); (case hh => walk_at "hp"))
  | ((with_reducible refine' w_sorted ?hh ?_); (case hh => walk_at "hp"))
  | (with_reducible refine' w_tsadd ?_)
  | ((with_reducible refine' w_tsadd1 ?hh ?_); (case hh => walk_at "hp"))
  | ((with_reducible refine' w_sadd ?hh ?hr ?_); (case hh => walk_at "hp"); (case hr => omega))
  | (with_reducible refine' w_iZ ?_)
  | ((with_reducible refine' w_iZ1 ?hh ?hh2 ?_); (case hh => walk_at "hp"); (case hh2 => walk_at "hp"))
  | (with_reducible refine' w_iS ?_)
  | (with_reducible refine' w_iS1 ?_)
  | ((with_reducible refine' w_gtup ?hh ?hn ?_); (case hh => walk_at "hp"); (case hn => exact rfl))
  | (with_reducible refine' w_gcons ?_)
  | (with_reducible refine' w_gnil ?_)
  | (with_reducible refine' w_js ?_)
  | (with_reducible refine' w_jsn ?_)
  | ((with_reducible refine' w_js1 ?hl ?_); (case hl => decide +kernel))
  | (with_reducible refine' w_fmt ?_)
  | ((with_reducible refine' w_fmt1 ?hl ?_); (case hl => decide +kernel))
  | (with_reducible refine' w_callS ?_)
  | ((with_reducible refine' w_truL ?hh ?_); (case hh => walk_at "hp"))
  | (with_reducible refine' w_lc ?_)
  | (with_reducible refine' w_yes ?_)
  | ((with_reducible refine' w_wipe ?he ?_); (case he => exact rfl))
  | (with_reducible refine' w_iL ?_)
  | (with_reducible refine' w_iT ?_)
  | (with_reducible refine' w_iR ?_)
  | ((with_reducible refine' w_iL1 ?hh ?_); (case hh => walk_at "hp"))
  | ((with_reducible refine' w_iT1 ?hh ?_); (case hh => walk_at "hp"))
  | ((with_reducible refine' w_iR1 ?h1 ?h2 ?_); (case h1 => omega); (case h2 => omega))
  | ((with_reducible refine' w_aug ?hv ?_); (case hv => exact rfl))
  | (with_reducible refine' w_ipI ?_)
  | ((with_reducible refine' w_isi ?hy ?hk ?_); (case hy => walk_at "ty"); (case hk => walk_at "kit"))
  | ((with_reducible refine' w_int ?_))
  | ((with_reducible refine' w_intB ?_))
  | ((with_reducible refine' w_abs ?_))
  | ((with_reducible refine' w_lenL ?hh ?_); (case hh => walk_at "hp"))
  | ((with_reducible refine' w_lenT ?hh ?_); (case hh => walk_at "hp"))
  | ((with_reducible refine' w_tupL ?hh ?_); (case hh => walk_at "hp"))
  | ((with_reducible refine' w_tupT ?hh ?_); (case hh => walk_at "hp"))
  | ((with_reducible refine' w_catA ?hh ?hh2 ?hz ?_); (case hh => walk_at "hp"); (case hh2 => walk_at "hp"); (case hz => walk_at "len"))
  | ((with_reducible refine' w_repB ?hh ?hne ?h2 ?h3 ?hz ?_); (case hh => walk_at "hp"); (case hne => simp); (case h2 => omega); (case h3 => omega); (case hz => exact Nat.le_of_ble_eq_true rfl))
  | ((with_reducible refine' w_eqN ?hh ?hh2 ?n1 ?n2 ?_); (case hh => walk_at "hp"); (case hh2 => walk_at "hp"); (case n1 => walk_at "nd"); (case n2 => walk_at "nd"))
  | ((with_reducible refine' w_neN ?hh ?hh2 ?n1 ?n2 ?_); (case hh => walk_at "hp"); (case hh2 => walk_at "hp"); (case n1 => walk_at "nd"); (case n2 => walk_at "nd"))
  | ((with_reducible refine' w_eqL ?hh ?hh2 ?n1 ?n2 ?_); (case hh => walk_at "hp"); (case hh2 => walk_at "hp"); (case n1 => walk_at "nd"); (case n2 => walk_at "nd"))
  | ((with_reducible refine' w_neL ?hh ?hh2 ?n1 ?n2 ?_); (case hh => walk_at "hp"); (case hh2 => walk_at "hp"); (case n1 => walk_at "nd"); (case n2 => walk_at "nd"))
  | ((with_reducible refine' w_neNon ?hh2 ?n2 ?_); (case hh2 => walk_at "hp"); (case n2 => walk_at "nd"))
  | ((with_reducible refine' w_eqNon ?hh2 ?n2 ?_); (case hh2 => walk_at "hp"); (case n2 => walk_at "nd"))
  | ((with_reducible refine' w_slA ?hh ?_); (case hh => walk_at "hp"))
  | ((with_reducible refine' w_disp ?hz ?_); (case hz => exact sz_of (Nat.le_of_ble_eq_true rfl)))
  | ((with_reducible refine' w_tyL ?hh ?_); (case hh => walk_at "hp"))
  | (with_reducible refine' iteT ?_)
  | (with_reducible refine' iteF ?_)
  | (with_reducible refine' w_nT ?_)
  | (with_reducible refine' w_nn ?_)
  | (with_reducible refine' w_nnT ?_)
  | (with_reducible refine' w_nnR ?_)
  | (with_reducible refine' w_neG ?_)
  | (with_reducible refine' w_eqG ?_)
  | (with_reducible refine' w_neS ?_)
  | (with_reducible refine' w_eqS ?_)
  | (with_reducible refine' w_neSb ?_)
  | (with_reducible refine' w_eqSb ?_)
  | (with_reducible refine' w_deIS ?_)
  | (with_reducible refine' w_deSI ?_)
  | (with_reducible refine' w_deISn ?_)
  | ((with_reducible refine' w_deST ?he ?_); (case he => decide +kernel))
  | ((with_reducible refine' w_deSF ?he ?_); (case he => decide +kernel))
  | ((with_reducible refine' w_deSTn ?he ?_); (case he => decide +kernel))
  | ((with_reducible refine' w_deSFn ?he ?_); (case he => decide +kernel))
  | (with_reducible refine' w_nF ?_)
  | dsimp only [Bool.not_true, Bool.not_false])
local macro_rules | `(tactic| walk_at "ty") => `(tactic| first
  | exact .base (.int _) | exact .base (.str _) | exact .base (.bl _) | exact .base .non
  | ((refine' tyx_t ?hq); (case hq => walk_at "hp")) | ((refine' tyx_l ?hq); (case hq => walk_at "hp")) | ((refine' .base (.tup ?hq)); (case hq => walk_at "hp")) | assumption)
local macro_rules | `(tactic| walk_at "go") => `(tactic| repeat walk_at "go1")
local macro_rules | `(tactic| walk_at "st") => `(tactic| try dsimp only [cxOf, Cx.nox, Cx.wish])
local macro_rules | `(tactic| walk_at "kit") => `(tactic| with_reducible first | exact kit_int_int | exact kit_int_str | exact kit_int_bool | exact kit_int_tuple | exact kit_int_list | exact kit_str_int | exact kit_str_str | exact kit_str_bool | exact kit_str_tuple | exact kit_str_list | exact kit_bool_int | exact kit_bool_str | exact kit_bool_bool | exact kit_bool_tuple | exact kit_bool_list | exact kit_NoneType_int | exact kit_NoneType_str | exact kit_NoneType_bool | exact kit_NoneType_tuple | exact kit_NoneType_list | exact kit_list_int | exact kit_list_str | exact kit_list_bool | exact kit_list_tuple | exact kit_list_list | exact kit_tuple_int | exact kit_tuple_str | exact kit_tuple_bool | exact kit_tuple_tuple | exact kit_tuple_list)
local macro_rules | `(tactic| walk_at "nd") => `(tactic| first
  | assumption
  | exact Tm.nds _
  | exact Nds.nil
  | exact Nds.ofInts _
  | ((refine' Nds.cons ?na ?nb); (case na => first | exact Nds.I _ | exact Nds.L | exact Nds.A); (case nb => walk_at "nd"))
  | ((refine' Nds.app ?na ?nb); (case na => walk_at "nd"); (case nb => walk_at "nd"))
  | ((refine' Nds.rep ?na _); (case na => walk_at "nd")))
local macro_rules | `(tactic| walk_at "len") => `(tactic| first
  | exact ly_sz (by omega)
  | ((simp only [List.length_append, List.length_cons, List.length_nil, List.length_map, PyProof.Rows.lm_len_rep_flat]); exact ly_sz (by omega)))
local macro_rules | `(tactic| walk_at "go1") => `(tactic| first
  | (with_reducible refine' w_kget2 ?_)
  | (with_reducible refine' w_isRN ?_)
  | (with_reducible refine' w_isNN ?_)
  | (with_reducible refine' w_isIN ?_)
  | ((with_reducible refine' w_kg ?hd ?_); (case hd => assumption)))
local macro_rules | `(tactic| walk_at "go1") => `(tactic| first
  | ((with_reducible refine' w_extT ?hh ?hh2 ?hz ?_); (case hh => walk_at "hp"); (case hh2 => walk_at "hp"))
  | ((with_reducible refine' w_I ?hc ?_); (case hc => exact ⟨by decide, by decide, by decide⟩))
  | (with_reducible refine' w_sl ?_)
  | (with_reducible refine' w_noP ?_)
  | (with_reducible refine' w_part ?_)
  | (with_reducible refine' w_part1 ?_)
  | (with_reducible refine' w_it ?_)
  | (with_reducible refine' w_it1 ?_)
  | ((with_reducible refine' w_lenZ ?hz ?_); (case hz => omega))
  | ((with_reducible refine' w_addZb ?hz ?_); (case hz => omega))
  | ((with_reducible refine' w_addZf ?hz ?_); (case hz => omega))
  | ((with_reducible refine' w_addZa ?hz ?_); (case hz => omega))
  | ((with_reducible refine' w_inS ?hh ?_); (case hh => walk_at "hp"))
  | ((with_reducible refine' w_ixT ?hh ?ha ?_); (case hh => assumption); (case ha => exact atI_nat (by assumption))))
section
variable {P : Program} {w : World} {K : PySem.W.Frag} {mg : Str → Option Value} {base : Heap} {tk : Nat → Tok} {cl : Nat → Addr}
def spLawLift (K : PySem.W.Frag) : Sp := fun vs H Q _ => ∃ (a : Addr) (t : Tm) (c : Nat), vs = [.ref a, .int (c : Int)] ∧ SqT K H a t.enc ∧ t.enc.length ≤ 2000000 ∧
  ∀ H' p, Ex H H' → SqT K H' p (t.vmap (lif c) 0).enc → Q (.ref p) H'
theorem ok_slift {f : Addr} {fd : FuncData} (F : Fun K "_law_lift" "_law_lift" s_law_lift f fd) (T : Txt w K mg tk cl)
    (D1 : Def P w K mg base CX0 2 "_law_depths" ["term"] (spDepths K)) : FnOk P w K mg base CX0 3 f fd ["term", "count"] (spLawLift K) := by
  obtain ⟨f1, fd1, g_law_depths, kp_law_depths, b_law_depths, G_law_depths⟩ := D1
  refine F.ok sc_law_lift (fun vs H Q E h => ?_) (fun cdv A outer s H vs Q E hr h => ?_)
  · obtain ⟨a, t, c, rfl, _⟩ := h
    rfl
  · obtain ⟨a, t, c, rfl, hS, hlen, q⟩ := h
    refine ⟨_, (pss_cons (ps_set (i := 2) sc_law_lift.nd rfl (.inl rfl) (pe_call G_law_depths (hr.mono (by first | decide | omega)) (by rfl) g_law_depths kp_law_depths b_law_depths .nil pass0 (pa_cons (pv 0) pa_nil))) (pss_cons (ps_set (i := 3) sc_law_lift.nd rfl (.inl rfl) (pe_lst pa_nil)) (pss_cons (ps_for PassesOwn.never rfl (pi_range1 (by rfl) T.n_range (pa_cons (pe_callB call_len_seq (by rfl) T.n_len (by decide +kernel) (pa_cons (pv 0) pa_nil)) pa_nil)) (pg_name (i := 4) sc_law_lift.nd rfl (.inl rfl)) (pss_one (ps_if (PW.pt (pw_and (pt_val (pe_callB call_isi (by rfl) T.n_isinstance (by decide +kernel) (pa_cons (pe_ix ix_tup (pv 0) (pv 4) (fun _ _ => rfl)) (pa_cons (pe_bltn (v := .ty "int") (by rfl) T.n_int (by decide +kernel) rfl) pa_nil)))) (pw_and1 (pt_cmpR op_ge (pe_ix ix_tup (pv 0) (pv 4) (fun _ _ => rfl)) (pe_ix ix_list (pv 2) (pv 4) (fun _ _ => rfl)) (nomark _))))) (pss_one (ps_expr (pe_bm PySem.F.plainAttrs_list PySem.F.slot_list_append PySem.F.type_list_append mt_append (pv 3) (pa_cons (pe_op op_add (pe_ix ix_tup (pv 0) (pv 4) (fun _ _ => rfl)) (pv 1)) pa_nil)))) (pss_one (ps_expr (pe_bm PySem.F.plainAttrs_list PySem.F.slot_list_append PySem.F.type_list_append mt_append (pv 3) (pa_cons (pe_ix ix_tup (pv 0) (pv 4) (fun _ _ => rfl)) pa_nil))))))) (pss_one (ps_ret (pe_callTy call_tuple_of (by rfl) T.n_tuple (by decide +kernel) (pa_cons (pv 3) pa_nil))))))), ?_⟩
    refine sl_of (σ2 := [some _, some _, none, none, none]) rfl ?_
    walk_at "st"
    walk_at "go"
    refine ⟨a, t, rfl, hS, by omega, fun H0 dl e0 hdl hd0 => ?_⟩
    walk_at "go"
    intro nl hnl
    walk_at "go"
    have hdn0 : dl ≠ nl := ne_of_none hd0 hnl
    have hS1 : SqT K (upd H0 nl (.lst [])) a t.enc := ex_t (e0.trans (Ex.new hnl)) hS
    have hnl0 : H nl = none := fresh_back e0 hnl
    walk_at "go"
    refine for_range (lo := 0) (n := (t.enc.length : Int).toNat) (fun i σ H' => ∃ y, σ = [some (.ref a), some (.int (c : Int)), some (.ref dl), some (.ref nl), y] ∧ Ex H H' ∧ H' dl = some (.lst (nums (t.deps 0))) ∧
        H' nl = some (.lst ((List.zipWith (vm (lif c)) t.enc (t.deps 0)).take i))) ⟨none, rfl, by walk_at "ex", by walk_at "hp", upd_same⟩ ?_ ?_
    · rintro i σ H2 hi ⟨y, rfl, e2, hd2, hs2⟩
      have hil : i < t.enc.length := by omega
      obtain ⟨x, hx⟩ : ∃ x, t.enc[i]? = some x := ⟨_, List.getElem?_eq_getElem hil⟩
      obtain ⟨d, hd⟩ : ∃ d, (t.deps 0)[i]? = some d := ⟨_, List.getElem?_eq_getElem (by rw [t.deps_len]; exact hil)⟩
      have hdn2 : (nums (t.deps 0))[i]? = some (.int (d : Int)) := by rw [List.getElem?_map, hd]; rfl
      have hS2 := ex_t e2 hS
      have tk1 := zip_take (f := vm (lif c)) hx hd
      have ll : ((List.zipWith (vm (lif c)) t.enc (t.deps 0)).take i).length < 3000000 := by
        rw [List.length_take]
        omega
      walk_at "go"
      rcases Tm.int_nat (List.mem_of_getElem? hx) with ⟨m, rfl⟩ | rfl | rfl
      · walk_at "go"
        refine w_br (fun h3 => ?_) (fun h3 => ?_)
        · walk_at "go"
          refine ⟨_, rfl, by walk_at "ex", by walk_at "hp", ?_⟩
          have ev : vm (lif c) (.int m) d = .int ((m : Int) + c) := by
            simp only [vm, lif, Int.toNat_natCast]
            rw [if_pos (by omega), Int.natCast_add]
          rw [upd_same, tk1, ev]
        · walk_at "go"
          refine ⟨_, rfl, by walk_at "ex", by walk_at "hp", ?_⟩
          have ev : vm (lif c) (.int m) d = .int m := by
            simp only [vm, lif, Int.toNat_natCast]
            rw [if_neg (by omega)]
          rw [upd_same, tk1, ev]
      · walk_at "go"
        refine ⟨_, rfl, by walk_at "ex", by walk_at "hp", ?_⟩
        rw [upd_same, tk1]
        rfl
      · walk_at "go"
        refine ⟨_, rfl, by walk_at "ex", by walk_at "hp", ?_⟩
        rw [upd_same, tk1]
        rfl
    · rintro σ H2 ⟨y, rfl, e2, hd2, hs2⟩
      walk_at "go"
      intro p hp
      walk_at "go"
      have all : (List.zipWith (vm (lif c)) t.enc (t.deps 0)).take (t.enc.length : Int).toNat = (t.vmap (lif c) 0).enc := by
        rw [Tm.enc_vmap]
        exact List.take_of_length_le (by simp [Tm.deps_len])
      rw [all]
      exact q _ p (by walk_at "ex") (by walk_at "hp")
def spLawPut (K : PySem.W.Frag) : Sp := fun vs H Q _ => ∃ (a b : Addr) (t u : Tm), vs = [.ref a, .ref b] ∧ SqT K H a t.enc ∧ SqT K H b u.enc ∧ t.enc.length ≤ 2000000 ∧ u.enc.length ≤ 2000000 ∧ t.enc.length * u.enc.length ≤ 9000000 ∧
  ∀ H' p, Ex H H' → SqT K H' p (Tm.put u 0 t).enc → Q (.ref p) H'
theorem ok_sput {f : Addr} {fd : FuncData} (F : Fun K "_law_put" "_law_put" s_law_put f fd) (T : Txt w K mg tk cl)
    (D1 : Def P w K mg base CX0 2 "_law_depths" ["term"] (spDepths K)) (D2 : Def P w K mg base CX0 3 "_law_lift" ["term", "count"] (spLawLift K)) : FnOk P w K mg base CX0 4 f fd ["term", "value"] (spLawPut K) := by
  obtain ⟨f1, fd1, g_law_depths, kp_law_depths, b_law_depths, G_law_depths⟩ := D1
  obtain ⟨f2, fd2, g_law_lift, kp_law_lift, b_law_lift, G_law_lift⟩ := D2
  refine F.ok sc_law_put (fun vs H Q E h => ?_) (fun cdv A outer s H vs Q E hr h => ?_)
  · obtain ⟨a, b, t, u, rfl, _⟩ := h
    rfl
  · obtain ⟨a, b, t, u, rfl, hS, hU, hlen, hul, hprod, q⟩ := h
    refine ⟨_, (pss_cons (ps_set (i := 2) sc_law_put.nd rfl (.inl rfl) (pe_call G_law_depths (hr.mono (by first | decide | omega)) (by rfl) g_law_depths kp_law_depths b_law_depths .nil pass0 (pa_cons (pv 0) pa_nil))) (pss_cons (ps_set (i := 3) sc_law_put.nd rfl (.inl rfl) (pe_lst pa_nil)) (pss_cons (ps_for PassesOwn.never rfl (pi_range1 (by rfl) T.n_range (pa_cons (pe_callB call_len_seq (by rfl) T.n_len (by decide +kernel) (pa_cons (pv 0) pa_nil)) pa_nil)) (pg_name (i := 4) sc_law_put.nd rfl (.inl rfl)) (pss_one (ps_if (PW.pt (pw_and (pt_val (pe_callB call_isi (by rfl) T.n_isinstance (by decide +kernel) (pa_cons (pe_ix ix_tup (pv 0) (pv 4) (fun _ _ => rfl)) (pa_cons (pe_bltn (v := .ty "int") (by rfl) T.n_int (by decide +kernel) rfl) pa_nil)))) (pw_and1 (pt_cmpR op_eq (pe_ix ix_tup (pv 0) (pv 4) (fun _ _ => rfl)) (pe_ix ix_list (pv 2) (pv 4) (fun _ _ => rfl)) (nomark _))))) (pss_one (ps_expr (pe_bm PySem.F.plainAttrs_list PySem.F.slot_list_extend PySem.F.type_list_extend mt_extT (pv 3) (pa_cons (pe_call G_law_lift (hr.mono (by first | decide | omega)) (by rfl) g_law_lift kp_law_lift b_law_lift .nil pass0 (pa_cons (pv 1) (pa_cons (pe_ix ix_list (pv 2) (pv 4) (fun _ _ => rfl)) pa_nil))) pa_nil)))) (pss_one (ps_if (PW.pt (pw_and (pt_val (pe_callB call_isi (by rfl) T.n_isinstance (by decide +kernel) (pa_cons (pe_ix ix_tup (pv 0) (pv 4) (fun _ _ => rfl)) (pa_cons (pe_bltn (v := .ty "int") (by rfl) T.n_int (by decide +kernel) rfl) pa_nil)))) (pw_and1 (pt_cmpR op_gt (pe_ix ix_tup (pv 0) (pv 4) (fun _ _ => rfl)) (pe_ix ix_list (pv 2) (pv 4) (fun _ _ => rfl)) (nomark _))))) (pss_one (ps_expr (pe_bm PySem.F.plainAttrs_list PySem.F.slot_list_append PySem.F.type_list_append mt_append (pv 3) (pa_cons (pe_op op_sub (pe_ix ix_tup (pv 0) (pv 4) (fun _ _ => rfl)) pe_int) pa_nil)))) (pss_one (ps_expr (pe_bm PySem.F.plainAttrs_list PySem.F.slot_list_append PySem.F.type_list_append mt_append (pv 3) (pa_cons (pe_ix ix_tup (pv 0) (pv 4) (fun _ _ => rfl)) pa_nil))))))))) (pss_one (ps_ret (pe_callTy call_tuple_of (by rfl) T.n_tuple (by decide +kernel) (pa_cons (pv 3) pa_nil))))))), ?_⟩
    refine sl_of (σ2 := [some _, some _, none, none, none]) rfl ?_
    walk_at "st"
    walk_at "go"
    refine ⟨a, t, rfl, hS, by omega, fun H0 dl e0 hdl hd0 => ?_⟩
    walk_at "go"
    intro nl hnl
    walk_at "go"
    have hdn0 : dl ≠ nl := ne_of_none hd0 hnl
    have hS1 : SqT K (upd H0 nl (.lst [])) a t.enc := ex_t (e0.trans (Ex.new hnl)) hS
    have hnl0 : H nl = none := fresh_back e0 hnl
    have full := Tm.enc_put u t 0
    walk_at "go"
    refine for_range (lo := 0) (n := (t.enc.length : Int).toNat) (fun i σ H' => ∃ y, σ = [some (.ref a), some (.ref b), some (.ref dl), some (.ref nl), y] ∧ Ex H H' ∧ H' dl = some (.lst (nums (t.deps 0))) ∧
        H' nl = some (.lst ((List.zipWith (pvs u) t.enc (t.deps 0)).take i).flatten)) ⟨none, rfl, by walk_at "ex", by walk_at "hp", upd_same⟩ ?_ ?_
    · rintro i σ H2 hi ⟨y, rfl, e2, hd2, hs2⟩
      have hil : i < t.enc.length := by omega
      obtain ⟨x, hx⟩ : ∃ x, t.enc[i]? = some x := ⟨_, List.getElem?_eq_getElem hil⟩
      obtain ⟨d, hd⟩ : ∃ d, (t.deps 0)[i]? = some d := ⟨_, List.getElem?_eq_getElem (by rw [t.deps_len]; exact hil)⟩
      have hdn2 : (nums (t.deps 0))[i]? = some (.int (d : Int)) := by rw [List.getElem?_map, hd]; rfl
      have hS2 := ex_t e2 hS
      have hU2 := ex_t e2 hU
      have tk1 := zip_take (f := pvs u) hx hd
      have tk2 : ((List.zipWith (pvs u) t.enc (t.deps 0)).take (i + 1)).flatten = ((List.zipWith (pvs u) t.enc (t.deps 0)).take i).flatten ++ pvs u x d := by
        rw [tk1, List.flatten_append]
        simp
      have ll := pre_len (u := u) (xs := t.enc) (ds := t.deps 0) i
      have l3 : i * u.enc.length ≤ t.enc.length * u.enc.length := Nat.mul_le_mul_right _ (by omega)
      have sl := sizeLine_eq
      generalize ((List.zipWith (pvs u) t.enc (t.deps 0)).take i).flatten = done at *
      have lt1 : done.length < sizeLine := by omega
      have app : ∀ {v : V} {R : Prop}, R → done.length < sizeLine ∧ R := fun h => ⟨lt1, h⟩
      walk_at "go"
      rcases Tm.int_nat (List.mem_of_getElem? hx) with ⟨m, rfl⟩ | rfl | rfl
      · walk_at "go"
        refine w_brI (fun h4 => ?_) (fun h4 => ?_)
        · have e0 : m = d := by omega
          subst e0
          have vl := Tm.vmap_len (lif m) u 0
          walk_at "go"
          refine ⟨b, u, m, rfl, hU2, by omega, fun H3 pl e3 hpl => ?_⟩
          have hs3 := e3 _ _ hs2
          have hd3 := e3 _ _ hd2
          have ee := e2.trans e3
          walk_at "go"
          · omega
          walk_at "go"
          refine ⟨_, rfl, by walk_at "ex", by walk_at "hp", ?_⟩
          rw [upd_same, tk2, pvs_at]
        · walk_at "go"
          refine w_br (fun h3 => ?_) (fun h3 => ?_)
          · walk_at "go"
            walk_at "go"
            refine ⟨_, rfl, by walk_at "ex", by walk_at "hp", ?_⟩
            rw [upd_same, tk2, pvs_high (by omega)]
          · walk_at "go"
            walk_at "go"
            refine ⟨_, rfl, by walk_at "ex", by walk_at "hp", ?_⟩
            rw [upd_same, tk2, pvs_low (by omega)]
      · walk_at "go"
        walk_at "go"
        refine ⟨_, rfl, by walk_at "ex", by walk_at "hp", ?_⟩
        rw [upd_same, tk2]
        rfl
      · walk_at "go"
        walk_at "go"
        refine ⟨_, rfl, by walk_at "ex", by walk_at "hp", ?_⟩
        rw [upd_same, tk2]
        rfl
    · rintro σ H2 ⟨y, rfl, e2, hd2, hs2⟩
      have all : ((List.zipWith (pvs u) t.enc (t.deps 0)).take (t.enc.length : Int).toNat).flatten = (Tm.put u 0 t).enc := by
        rw [full, List.take_of_length_le (by simp [Tm.deps_len])]
      rw [all] at hs2
      walk_at "go"
      intro p hp
      walk_at "go"
      exact q _ p (by walk_at "ex") (by walk_at "hp")
end
end Ly
set_option Elab.async false
set_option linter.all false
set_option maxRecDepth 100000
set_option maxHeartbeats 8000000
namespace Ly
open PySem PySem.Spec PyProof.Rows L2 Evl
local macro_rules | `(tactic| walk_at "ne") => `(tactic| first
  | assumption
  | ((refine' Ne.symm ?hq); (case hq => assumption))
  | ((refine' ne_of_none ?nh1 ?nh2); (case nh2 => assumption); (case nh1 => walk_at "hp"))
  | ((refine' Ne.symm (ne_of_none ?nh1 ?nh2)); (case nh2 => assumption); (case nh1 => walk_at "hp")))
local macro_rules | `(tactic| walk_at "hp") => `(tactic| first
  | assumption
  | exact upd_same
  | ((refine' SqL.of ?hq); (case hq => walk_at "hp"))
  | ((refine' SqT.of ?hq); (case hq => walk_at "hp"))
  | ((refine' (upd_ne ?hne).trans ?hrest); (case hne => walk_at "ne"); (case hrest => walk_at "hp"))
  | ((refine' ly_at ?hex ?hh); (case hex => assumption); (case hh => walk_at "hp"))
  | ((refine' ly_atF ?hex ?hnn ?hh); (case hex => assumption); (case hh => walk_at "hp"); (case hnn => walk_at "ne"))
  | ((refine' ex_t ?hex ?hh); (case hh => assumption); (case hex => walk_at "ex"))
  | ((refine' ex_l ?hex ?hh); (case hh => assumption); (case hex => walk_at "ex")))
local macro_rules | `(tactic| walk_at "ex") => `(tactic| first
  | assumption
  | exact Ex.refl _
  | ((refine' ex_new ?xa ?xb); (case xb => assumption); (case xa => walk_at "ex"))
  | ((refine' ex_upd ?xa ?xb); (case xb => walk_at "free"); (case xa => walk_at "ex"))
  | ((refine' Ex.trans ?xa ?xb); (case xb => assumption); (case xa => walk_at "ex")))
local macro_rules | `(tactic| walk_at "free") => `(tactic| first
  | assumption
  | ((refine' fresh_back ?xa ?xb); (case xb => assumption); (case xa => walk_at "ex")))
local macro_rules | `(tactic| walk_at "fr") => `(tactic| first
  | assumption
  | exact Fr.refl _ _
  | ((refine' Fr.own ?hq); (case hq => walk_at "fr"))
  | ((refine' Fr.new ?xa ?xb); (case xb => assumption); (case xa => walk_at "fr"))
  | ((refine' Fr.mut ?xa ?xb); (case xb => assumption); (case xa => walk_at "fr"))
  | ((refine' Fr.trans ?xa ?xb); (case xb => assumption); (case xa => walk_at "fr"))
  | ((refine' Fr.trans ?xa (Fr.ex ?xb)); (case xb => assumption); (case xa => walk_at "fr")))
local macro_rules | `(tactic| walk_at "go1") => `(tactic| first
  | (with_reducible refine' w_seq ?_)
  | (with_reducible refine' w_asg ?_)
  | (with_reducible refine' w_ret ?_)
  | (with_reducible refine' w_drop ?_)
  | (with_reducible refine' w_if ?_)
  | (with_reducible refine' w_next ?_)
  | (with_reducible refine' w_name ?_)
  | (with_reducible refine' w_sub ?_)
  | ((with_reducible refine' w_var ?hv ?_); (case hv => exact rfl))
  | (with_reducible refine' w_c ?_)
  | (with_reducible refine' w_op ?_)
  | (with_reducible refine' w_un ?_)
  | (with_reducible refine' w_ch ?_)
  | (with_reducible refine' w_I0 ?_)
  | ((with_reducible refine' w_I ?hc ?_); (case hc => first | (exact ly_mulL (by decide) (by decide)) | (exact ly_mulR (by decide) (by decide)) | (exact ly_mulL (by omega) (by omega)) | (show (_ : Int) ≠ 0; decide) | (show (_ : Int) ≠ 0; omega) | (exact ⟨by decide, by decide⟩) | (exact ⟨by omega, by omega⟩)))
  | (with_reducible refine' w_U ?_)
  | ((with_reducible refine' w_eq ?hs ?_); (case hs => exact rfl))
  | ((with_reducible refine' w_ne ?hs ?_); (case hs => exact rfl))
  | (with_reducible refine' w_isB ?_)
  | (with_reducible refine' w_notB ?_)
  | (with_reducible refine' w_nil ?_)
  | (with_reducible refine' w_cons ?_)
  | (with_reducible refine' w_tup ?_)
  | (with_reducible refine' w_lst ?_)
  | (with_reducible refine' w_cb ?_)
  | (with_reducible refine' w_call ?_)
  | (with_reducible refine' w_bm ?_)
  | (with_reducible refine' w_bm0 ?_)
  | ((with_reducible refine' w_app ?hh ?hz ?_); (case hh => walk_at "hp"); (case hz => first | exact ly_lt (by omega) | exact ly_lt (by simp only [List.length_append, List.length_map, List.length_cons, List.length_nil]; omega)))
  | ((with_reducible refine' w_popA ?hh ?_); (case hh => walk_at "hp"))
  | ((with_reducible refine' w_ext ?hh ?hh2 ?hz ?_); (case hh => walk_at "hp"); (case hh2 => walk_at "hp"))
  | ((with_reducible refine' w_ixL ?hh ?ha ?_); (case hh => walk_at "hp"); (case ha => first | exact rfl | exact at_map (by omega) | exact atI_last _ _ | ((refine' at_of ?ae ?ah); (case ah => assumption); (case ae => omega))))
  | ((with_reducible refine' w_ixT ?hh ?ha ?_); (case hh => walk_at "hp"); (case ha => first | exact rfl | exact at_map (by omega) | exact atI_last _ _ | ((refine' at_of ?ae ?ah); (case ah => assumption); (case ae => omega))))
  | ((with_reducible refine' w_cat ?hh ?hh2 ?hz ?_); (case hh => walk_at "hp"); (case hh2 => walk_at "hp"))
  | ((with_reducible refine' w_setL ?hh ?ha ?_); (case hh => walk_at "hp"); (case ha => exact rfl))
  | (with_reducible refine' w_test ?_)
  | (with_reducible refine' w_tB ?_)
  | (with_reducible refine' w_bl ?_)
  | (with_reducible refine' w_and ?_)
  | (with_reducible refine' w_or ?_)
  | (with_reducible refine' w_not ?_)
  | (with_reducible refine' w_andV ?_)
  | (with_reducible refine' w_orV ?_)
  | (with_reducible refine' w_notV ?_)
  | (with_reducible refine' w_ifE ?_)
  | (with_reducible refine' w_for ?_)
  | ((with_reducible refine' w_nin ?hh ?_); (case hh => walk_at "hp"))
  | ((with_reducible refine' w_sorted ?hh ?_); (case hh => walk_at "hp"))
  | (with_reducible refine' w_tsadd ?_)
  | ((with_reducible refine' w_tsadd1 ?hh ?_); (case hh => walk_at "hp"))
  | ((with_reducible refine' w_sadd ?hh ?hr ?_); (case hh => walk_at "hp"); (case hr => omega))
  | (with_reducible refine' w_iZ ?_)
  | ((with_reducible refine' w_iZ1 ?hh ?hh2 ?_); (case hh => walk_at "hp"); (case hh2 => walk_at "hp"))
  | (with_reducible refine' w_iS ?_)
  | (with_reducible refine' w_iS1 ?_)
  | ((with_reducible refine' w_gtup ?hh ?hn ?_); (case hh => walk_at "hp"); (case hn => exact rfl))
  | (with_reducible refine' w_gcons ?_)
  | (with_reducible refine' w_gnil ?_)
  | (with_reducible refine' w_js ?_)
  | (with_reducible refine' w_jsn ?_)
  | ((with_reducible refine' w_js1 ?hl ?_); (case hl => decide +kernel))
  | (with_reducible refine' w_fmt ?_)
  | ((with_reducible refine' w_fmt1 ?hl ?_); (case hl => decide +kernel))
  | (with_reducible refine' w_callS ?_)
  | ((with_reducible refine' w_truL ?hh ?_); (case hh => walk_at "hp"))
  | (with_reducible refine' w_lc ?_)
  | (with_reducible refine' w_yes ?_)
  | ((with_reducible refine' w_wipe ?he ?_); (case he => exact rfl))
  | (with_reducible refine' w_iL ?_)
  | (with_reducible refine' w_iT ?_)
  | (with_reducible refine' w_iR ?_)
  | ((with_reducible refine' w_iL1 ?hh ?_); (case hh => walk_at "hp"))
  | ((with_reducible refine' w_iT1 ?hh ?_); (case hh => walk_at "hp"))
  | ((with_reducible refine' w_iR1 ?h1 ?h2 ?_); (case h1 => omega); (case h2 => omega))
  | ((with_reducible refine' w_aug ?hv ?_); (case hv => exact rfl))
  | (with_reducible refine' w_ipI ?_)
  | ((with_reducible refine' w_isi ?hy ?hk ?_); (case hy => walk_at "ty"); (case hk => walk_at "kit"))
  | ((with_reducible refine' w_int ?_))
  | ((with_reducible refine' w_intB ?_))
  | ((with_reducible refine' w_abs ?_))
  | ((with_reducible refine' w_lenL ?hh ?_); (case hh => walk_at "hp"))
  | ((with_reducible refine' w_lenT ?hh ?_); (case hh => walk_at "hp"))
  | ((with_reducible refine' w_tupL ?hh ?_); (case hh => walk_at "hp"))
  | ((with_reducible refine' w_tupT ?hh ?_); (case hh => walk_at "hp"))
  | ((with_reducible refine' w_catA ?hh ?hh2 ?hz ?_); (case hh => walk_at "hp"); (case hh2 => walk_at "hp"); (case hz => walk_at "len"))
  | ((with_reducible refine' w_repB ?hh ?hne ?h2 ?h3 ?hz ?_); (case hh => walk_at "hp"); (case hne => simp); (case h2 => omega); (case h3 => omega); (case hz => exact Nat.le_of_ble_eq_true rfl))
  | ((with_reducible refine' w_eqN ?hh ?hh2 ?n1 ?n2 ?_); (case hh => walk_at "hp"); (case hh2 => walk_at "hp"); (case n1 => walk_at "nd"); (case n2 => walk_at "nd"))
  | ((with_reducible refine' w_neN ?hh ?hh2 ?n1 ?n2 ?_); (case hh => walk_at "hp"); (case hh2 => walk_at "hp"); (case n1 => walk_at "nd"); (case n2 => walk_at "nd"))
  | ((with_reducible refine' w_eqL ?hh ?hh2 ?n1 ?n2 ?_); (case hh => walk_at "hp"); (case hh2 => walk_at "hp"); (case n1 => walk_at "nd"); (case n2 => walk_at "nd"))
  | ((with_reducible refine' w_neL ?hh ?hh2 ?n1 ?n2 ?_); (case hh => walk_at "hp"); (case hh2 => walk_at "hp"); (case n1 => walk_at "nd"); (case n2 => walk_at "nd"))
  | ((with_reducible refine' w_neNon ?hh2 ?n2 ?_); (case hh2 => walk_at "hp"); (case n2 => walk_at "nd"))
  | ((with_reducible refine' w_eqNon ?hh2 ?n2 ?_); (case hh2 => walk_at "hp"); (case n2 => walk_at "nd"))
  | ((with_reducible refine' w_slA ?hh ?_); (case hh => walk_at "hp"))
  | ((with_reducible refine' w_disp ?hz ?_); (case hz => exact sz_of (Nat.le_of_ble_eq_true rfl)))
  | ((with_reducible refine' w_tyL ?hh ?_); (case hh => walk_at "hp"))
  | (with_reducible refine' iteT ?_)
  | (with_reducible refine' iteF ?_)
  | (with_reducible refine' w_nT ?_)
  | (with_reducible refine' w_nn ?_)
  | (with_reducible refine' w_nnT ?_)
  | (with_reducible refine' w_nnR ?_)
  | (with_reducible refine' w_neG ?_)
  | (with_reducible refine' w_eqG ?_)
  | (with_reducible refine' w_neS ?_)
  | (with_reducible refine' w_eqS ?_)
  | (with_reducible refine' w_neSb ?_)
  | (with_reducible refine' w_eqSb ?_)
  | (with_reducible refine' w_deIS ?_)
  | (with_reducible refine' w_deSI ?_)
  | (with_reducible refine' w_deISn ?_)
  | ((with_reducible refine' w_deST ?he ?_); (case he => decide +kernel))
  | ((with_reducible refine' w_deSF ?he ?_); (case he => decide +kernel))
  | ((with_reducible refine' w_deSTn ?he ?_); (case he => decide +kernel))
  | ((with_reducible refine' w_deSFn ?he ?_); (case he => decide +kernel))
  | (with_reducible refine' w_nF ?_)
  | dsimp only [Bool.not_true, Bool.not_false])
local macro_rules | `(tactic| walk_at "ty") => `(tactic| first
  | exact .base (.int _) | exact .base (.str _) | exact .base (.bl _) | exact .base .non
  | ((refine' tyx_t ?hq); (case hq => walk_at "hp")) | ((refine' tyx_l ?hq); (case hq => walk_at "hp")) | ((refine' .base (.tup ?hq)); (case hq => walk_at "hp")) | assumption)
local macro_rules | `(tactic| walk_at "go") => `(tactic| repeat walk_at "go1")
local macro_rules | `(tactic| walk_at "st") => `(tactic| try dsimp only [cxOf, Cx.nox, Cx.wish])
local macro_rules | `(tactic| walk_at "kit") => `(tactic| with_reducible first | exact kit_int_int | exact kit_int_str | exact kit_int_bool | exact kit_int_tuple | exact kit_int_list | exact kit_str_int | exact kit_str_str | exact kit_str_bool | exact kit_str_tuple | exact kit_str_list | exact kit_bool_int | exact kit_bool_str | exact kit_bool_bool | exact kit_bool_tuple | exact kit_bool_list | exact kit_NoneType_int | exact kit_NoneType_str | exact kit_NoneType_bool | exact kit_NoneType_tuple | exact kit_NoneType_list | exact kit_list_int | exact kit_list_str | exact kit_list_bool | exact kit_list_tuple | exact kit_list_list | exact kit_tuple_int | exact kit_tuple_str | exact kit_tuple_bool | exact kit_tuple_tuple | exact kit_tuple_list)
local macro_rules | `(tactic| walk_at "nd") => `(tactic| first
  | assumption
  | exact Tm.nds _
  | exact Nds.nil
  | exact Nds.ofInts _
  | ((refine' Nds.cons ?na ?nb); (case na => first | exact Nds.I _ | exact Nds.L | exact Nds.A); (case nb => walk_at "nd"))
  | ((refine' Nds.app ?na ?nb); (case na => walk_at "nd"); (case nb => walk_at "nd"))
  | ((refine' Nds.rep ?na _); (case na => walk_at "nd")))
local macro_rules | `(tactic| walk_at "len") => `(tactic| first
  | exact ly_sz (by omega)
  | ((simp only [List.length_append, List.length_cons, List.length_nil, List.length_map, PyProof.Rows.lm_len_rep_flat]); exact ly_sz (by omega)))
local macro_rules | `(tactic| walk_at "go1") => `(tactic| first
  | (with_reducible refine' w_kget2 ?_)
  | (with_reducible refine' w_isRN ?_)
  | (with_reducible refine' w_isNN ?_)
  | (with_reducible refine' w_isIN ?_)
  | ((with_reducible refine' w_kg ?hd ?_); (case hd => assumption)))
local macro_rules | `(tactic| walk_at "go1") => `(tactic| first
  | ((with_reducible refine' w_extT ?hh ?hh2 ?hz ?_); (case hh => walk_at "hp"); (case hh2 => walk_at "hp"))
  | ((with_reducible refine' w_I ?hc ?_); (case hc => exact ⟨by decide, by decide, by decide⟩))
  | (with_reducible refine' w_sl ?_)
  | (with_reducible refine' w_noP ?_)
  | (with_reducible refine' w_part ?_)
  | (with_reducible refine' w_part1 ?_)
  | (with_reducible refine' w_it ?_)
  | (with_reducible refine' w_it1 ?_)
  | ((with_reducible refine' w_lenZ ?hz ?_); (case hz => omega))
  | ((with_reducible refine' w_addZb ?hz ?_); (case hz => omega))
  | ((with_reducible refine' w_addZf ?hz ?_); (case hz => omega))
  | ((with_reducible refine' w_addZa ?hz ?_); (case hz => omega))
  | ((with_reducible refine' w_inS ?hh ?_); (case hh => walk_at "hp"))
  | ((with_reducible refine' w_ixT ?hh ?ha ?_); (case hh => assumption); (case ha => exact atI_nat (by assumption))))
section
variable {P : Program} {w : World} {K : PySem.W.Frag} {mg : Str → Option Value} {base : Heap} {tk : Nat → Tok} {cl : Nat → Addr}
def spSTerm (K : PySem.W.Frag) (n : Nat) : Sp := fun vs H Q _ => ∃ (s : Addr) (m : Stm) (size depth : Nat), vs = [.ref s, .int size, .int depth] ∧ StAt H s m ∧ 1 ≤ size ∧ size < n ∧ size ≤ 1000 ∧ depth + size ≤ 2000 ∧
  ∀ H' p m' (t : Tm), Fr s H H' → StAt H' s m' → SqT K H' p t.enc → t.wf (depth + 2) → t.enc.length + 2 ≤ 3 * size → Q (.ref p) H'
theorem ok_sterm {f : Addr} {fd : FuncData} (F : Fun K "_law_term" "_law_term" s_law_term f fd) (T : Txt w K mg tk cl) (D1 : Def P w K mg base CX0 1 "_law_draw" ["stream", "many"] spDraw)
    (g_law_term : mg "_law_term" = some (.ref f)) (kp_law_term : PySem.W.keepIn K (.ref f) = true) (b_law_term : Binds K fd ["stream", "size", "depth"] []) : ∀ n, FnOk P w K mg base CX0 (n + 1) f fd ["stream", "size", "depth"] (spSTerm K n) := by
  obtain ⟨f1, fd1, g_law_draw, kp_law_draw, b_law_draw, G_law_draw⟩ := D1
  intro n
  induction n with
  | zero =>
    refine ⟨fun vs H Q E h => ?_, fun A outer s H args us vs Q E _ _ _ _ h => ?_⟩
    · obtain ⟨_, _, _, _, _, _, _, h, _⟩ := h
      exact absurd h (Nat.not_lt_zero _)
    · obtain ⟨_, _, _, _, _, _, _, h, _⟩ := h
      exact absurd h (Nat.not_lt_zero _)
  | succ n G_law_term =>
    refine F.ok sc_law_term (fun vs H Q E h => ?_) (fun cdv A outer s H vs Q E hr h => ?_)
    · obtain ⟨_, _, _, _, rfl, _⟩ := h
      rfl
    · obtain ⟨s1, m, size, depth, rfl, st, h1, hn, h2, h3, q⟩ := h
      refine ⟨_, (pss_cons (ps_if (pt_cmpR op_lt (pv 1) pe_int (nomark _)) (pss_one (ps_ret (pe_tup (pa_cons (pe_call G_law_draw (hr.mono (by first | decide | omega)) (by rfl) g_law_draw kp_law_draw b_law_draw .nil pass0 (pa_cons (pv 0) (pa_cons (pe_op op_add (pv 2) pe_int) pa_nil))) pa_nil)))) pss_nil) (pss_cons (ps_set (i := 3) sc_law_term.nd rfl (.inl rfl) (pe_call G_law_draw (hr.mono (by first | decide | omega)) (by rfl) g_law_draw kp_law_draw b_law_draw .nil pass0 (pa_cons (pv 0) (pa_cons pe_int pa_nil)))) (pss_cons (ps_if (pt_cmpR op_lt (pv 3) pe_int (nomark _)) (pss_one (ps_ret (pe_op op_catA (pe_tup (pa_cons pe_str pa_nil)) (pe_call G_law_term (hr.mono (by first | decide | omega)) (by rfl) g_law_term kp_law_term b_law_term .nil pass0 (pa_cons (pv 0) (pa_cons (pe_op op_sub (pv 1) pe_int) (pa_cons (pe_op op_add (pv 2) pe_int) pa_nil))))))) pss_nil) (pss_cons (ps_set (i := 4) sc_law_term.nd rfl (.inl rfl) (pe_op op_add pe_int (pe_call G_law_draw (hr.mono (by first | decide | omega)) (by rfl) g_law_draw kp_law_draw b_law_draw .nil pass0 (pa_cons (pv 0) (pa_cons (pe_op op_sub (pv 1) pe_int) pa_nil))))) (pss_cons (ps_if (pt_cmpR op_eq (pv 3) pe_int (nomark _)) (pss_one (ps_ret (pe_op op_catA (pe_op op_catA (pe_tup (pa_cons pe_str (pa_cons pe_str pa_nil))) (pe_call G_law_term (hr.mono (by first | decide | omega)) (by rfl) g_law_term kp_law_term b_law_term .nil pass0 (pa_cons (pv 0) (pa_cons (pv 4) (pa_cons (pe_op op_add (pv 2) pe_int) pa_nil))))) (pe_call G_law_term (hr.mono (by first | decide | omega)) (by rfl) g_law_term kp_law_term b_law_term .nil pass0 (pa_cons (pv 0) (pa_cons (pe_op op_sub (pv 1) (pv 4)) (pa_cons (pv 2) pa_nil))))))) pss_nil) (pss_one (ps_ret (pe_op op_catA (pe_op op_catA (pe_tup (pa_cons pe_str pa_nil)) (pe_call G_law_term (hr.mono (by first | decide | omega)) (by rfl) g_law_term kp_law_term b_law_term .nil pass0 (pa_cons (pv 0) (pa_cons (pv 4) (pa_cons (pv 2) pa_nil))))) (pe_call G_law_term (hr.mono (by first | decide | omega)) (by rfl) g_law_term kp_law_term b_law_term .nil pass0 (pa_cons (pv 0) (pa_cons (pe_op op_sub (pv 1) (pv 4)) (pa_cons (pv 2) pa_nil)))))))))))), ?_⟩
      refine sl_of (σ2 := [some _, some _, some _, none, none]) rfl ?_
      walk_at "st"
      walk_at "go"
      refine w_br (fun c1 => ?_) (fun c1 => ?_)
      · walk_at "go"
        refine ⟨s1, m, (depth : Int) + 2, rfl, st, by omega, by omega, fun H1 fr1 st1 => ?_⟩
        have v1 := m.val_lt (n := (depth : Int) + 2) (by omega)
        walk_at "go"
        intro p hp
        walk_at "go"
        refine q _ p _ (.var (m.val ((depth : Int) + 2)).toNat) (fr1.trans (Fr.ex (Ex.new hp))) (st1.new hp) (SqT.of ?_) ?_ (by simp [Tm.enc]; omega)
        · rw [upd_same]
          simp only [Tm.enc]
          rw [Int.toNat_of_nonneg v1.1]
        · show _ < _
          omega
      · walk_at "go"
        refine ⟨s1, m, 5, rfl, st, by decide, by decide, fun H1 fr1 st1 => ?_⟩
        have v1 := m.val_lt (n := 5) (by decide)
        generalize m.val 5 = pick at *
        generalize m.next 5 = m1 at *
        walk_at "go"
        refine w_br (fun c2 => ?_) (fun c2 => ?_)
        · walk_at "go"
          intro p1 hp1
          walk_at "go"
          refine ⟨s1, m1, size - 1, depth + 1, by rw [show ((size - 1 : Nat) : Int) = (size : Int) - 1 by omega]; rfl, st1.new hp1, by omega, by omega, by omega, by omega, fun H2 p2 m2 t fr2 st2 hp2 hw hl => ?_⟩
          have hp1b : SqT K H2 p1 [V.str "lam"] := fr_t fr2 (st1.new hp1).2.1 (SqT.of upd_same)
          walk_at "go"
          intro p3 H3 e3 hp3
          walk_at "go"
          exact q _ p3 m2 (.lam t) (fr1.trans ((Fr.ex (Ex.new hp1)).trans (fr2.trans (Fr.ex e3)))) (st2.ex e3) hp3 hw (by simp only [Tm.enc, List.length_cons]; omega)
        · walk_at "go"
          refine ⟨s1, m1, (size : Int) - 1, rfl, st1, by omega, by omega, fun H2 fr2 st2 => ?_⟩
          have v2 := m1.val_lt (n := (size : Int) - 1) (by omega)
          generalize m1.val ((size : Int) - 1) = hf at *
          generalize m1.next ((size : Int) - 1) = m2 at *
          have fr12 := fr1.trans fr2
          walk_at "go"
          refine w_brI (fun c3 => ?_) (fun c3 => ?_)
          · walk_at "go"
            intro p1 hp1
            walk_at "go"
            refine ⟨s1, m2, (1 + hf).toNat, depth + 1, by rw [Int.toNat_of_nonneg (by omega)]; rfl, st2.new hp1, by omega, by omega, by omega, by omega, fun H3 p2 m3 t fr3 st3 hp2 hw hl => ?_⟩
            have hp1b : SqT K H3 p1 [V.str "app", V.str "lam"] := fr_t fr3 (st2.new hp1).2.1 (SqT.of upd_same)
            walk_at "go"
            intro p3 H4 e4 hp3
            have st4 := st3.ex e4
            walk_at "go"
            refine ⟨s1, m3, size - (1 + hf).toNat, depth, by rw [show ((size - (1 + hf).toNat : Nat) : Int) = (size : Int) - (1 + hf) by omega]; rfl, st4, by omega, by omega, by omega, by omega, fun H5 p5 m5 u fr5 st5 hp5 hwu hlu => ?_⟩
            have hp3b := fr_t fr5 st4.2.1 hp3
            walk_at "go"
            intro p6 H6 e6 hp6
            walk_at "go"
            refine q _ p6 m5 (.app (.lam t) u) (fr12.trans ((Fr.ex (Ex.new hp1)).trans (fr3.trans ((Fr.ex e4).trans (fr5.trans (Fr.ex e6)))))) (st5.ex e6) ?_ ⟨hw, hwu⟩ (by simp only [Tm.enc, List.length_cons, List.length_append]; omega)
            simpa [Tm.enc] using hp6
          · walk_at "go"
            intro p1 hp1
            walk_at "go"
            refine ⟨s1, m2, (1 + hf).toNat, depth, by rw [Int.toNat_of_nonneg (by omega)]; rfl, st2.new hp1, by omega, by omega, by omega, by omega, fun H3 p2 m3 t fr3 st3 hp2 hw hl => ?_⟩
            have hp1b : SqT K H3 p1 [V.str "app"] := fr_t fr3 (st2.new hp1).2.1 (SqT.of upd_same)
            walk_at "go"
            intro p3 H4 e4 hp3
            have st4 := st3.ex e4
            walk_at "go"
            refine ⟨s1, m3, size - (1 + hf).toNat, depth, by rw [show ((size - (1 + hf).toNat : Nat) : Int) = (size : Int) - (1 + hf) by omega]; rfl, st4, by omega, by omega, by omega, by omega, fun H5 p5 m5 u fr5 st5 hp5 hwu hlu => ?_⟩
            have hp3b := fr_t fr5 st4.2.1 hp3
            walk_at "go"
            intro p6 H6 e6 hp6
            walk_at "go"
            refine q _ p6 m5 (.app t u) (fr12.trans ((Fr.ex (Ex.new hp1)).trans (fr3.trans ((Fr.ex e4).trans (fr5.trans (Fr.ex e6)))))) (st5.ex e6) ?_ ⟨hw, hwu⟩ (by simp only [Tm.enc, List.length_cons, List.length_append]; omega)
            simpa [Tm.enc] using hp6
theorem Tm.wf_mono : ∀ {t : Tm} {d e : Nat}, d ≤ e → t.wf d → t.wf e
  | .var n, d, e, h, w => Nat.lt_of_lt_of_le w h
  | .lam b, d, e, h, w => Tm.wf_mono (t := b) (Nat.succ_le_succ h) w
  | .app f a, d, e, h, w => ⟨Tm.wf_mono (t := f) h w.1, Tm.wf_mono (t := a) h w.2⟩
theorem Tm.wf_lamN {t : Tm} {d : Nat} : ∀ n, t.wf (d + n) → (Tm.lamN n t).wf d
  | 0, h => h
  | n + 1, h => by
    show (Tm.lamN n t).wf (d + 1)
    exact Tm.wf_lamN n (by rw [show d + 1 + n = d + (n + 1) by omega]; exact h)
def spClosed (K : PySem.W.Frag) : Sp := fun vs H Q _ => ∃ (s : Addr) (m : Stm), vs = [.ref s] ∧ StAt H s m ∧ ∀ H' p m' (t : Tm), Fr s H H' → StAt H' s m' → SqT K H' p t.enc → t.wf 8 → t.enc.length ≤ 10 → Q (.ref p) H'
theorem ok_closed {f : Addr} {fd : FuncData} (F : Fun K "_law_closed_term" "_law_closed_term" s_law_closed_term f fd) (T : Txt w K mg tk cl) (D1 : Def P w K mg base CX0 1 "_law_draw" ["stream", "many"] spDraw) : FnOk P w K mg base CX0 2 f fd ["stream"] (spClosed K) := by
  obtain ⟨f1, fd1, g_law_draw, kp_law_draw, b_law_draw, G_law_draw⟩ := D1
  refine F.ok sc_law_closed_term (fun vs H Q E h => ?_) (fun cdv A outer s H vs Q E hr h => ?_)
  · obtain ⟨_, _, rfl, _⟩ := h
    rfl
  · obtain ⟨s1, m, rfl, st, q⟩ := h
    refine ⟨_, (pss_cons (ps_if (pt_cmpR op_eq (pe_call G_law_draw (hr.mono (by first | decide | omega)) (by rfl) g_law_draw kp_law_draw b_law_draw .nil pass0 (pa_cons (pv 0) (pa_cons pe_int pa_nil))) pe_int (nomark _)) (pss_one (ps_ret (pe_tup (pa_cons (pe_call G_law_draw (hr.mono (by first | decide | omega)) (by rfl) g_law_draw kp_law_draw b_law_draw .nil pass0 (pa_cons (pv 0) (pa_cons pe_int pa_nil))) pa_nil)))) pss_nil) (pss_cons (ps_set (i := 1) sc_law_closed_term.nd rfl (.inl rfl) (pe_op op_add pe_int (pe_call G_law_draw (hr.mono (by first | decide | omega)) (by rfl) g_law_draw kp_law_draw b_law_draw .nil pass0 (pa_cons (pv 0) (pa_cons pe_int pa_nil))))) (pss_cons (ps_set (i := 2) sc_law_closed_term.nd rfl (.inl rfl) (pe_tup (pa_cons (pe_call G_law_draw (hr.mono (by first | decide | omega)) (by rfl) g_law_draw kp_law_draw b_law_draw .nil pass0 (pa_cons (pv 0) (pa_cons (pv 1) pa_nil))) pa_nil))) (pss_cons (ps_for PassesOwn.never rfl (pi_range1 (by rfl) T.n_range (pa_cons (pe_call G_law_draw (hr.mono (by first | decide | omega)) (by rfl) g_law_draw kp_law_draw b_law_draw .nil pass0 (pa_cons (pv 0) (pa_cons pe_int pa_nil))) pa_nil)) (pg_name (i := 3) sc_law_closed_term.nd rfl (.inl rfl)) (pss_cons (ps_set (i := 4) sc_law_closed_term.nd rfl (.inl rfl) (pe_tup (pa_cons (pe_call G_law_draw (hr.mono (by first | decide | omega)) (by rfl) g_law_draw kp_law_draw b_law_draw .nil pass0 (pa_cons (pv 0) (pa_cons (pv 1) pa_nil))) pa_nil))) (pss_one (ps_if (pt_cmpR op_eq (pe_call G_law_draw (hr.mono (by first | decide | omega)) (by rfl) g_law_draw kp_law_draw b_law_draw .nil pass0 (pa_cons (pv 0) (pa_cons pe_int pa_nil))) pe_int (nomark _)) (pss_one (ps_set (i := 2) sc_law_closed_term.nd rfl (.inl rfl) (pe_op op_catA (pe_op op_catA (pe_tup (pa_cons pe_str pa_nil)) (pv 2)) (pv 4)))) (pss_one (ps_set (i := 2) sc_law_closed_term.nd rfl (.inl rfl) (pe_op op_catA (pe_op op_catA (pe_tup (pa_cons pe_str pa_nil)) (pv 4)) (pv 2)))))))) (pss_one (ps_ret (pe_op op_catA (pe_op op_repB (pe_tup (pa_cons pe_str pa_nil)) (pv 1)) (pv 2)))))))), ?_⟩
    refine sl_of (σ2 := [some _, none, none, none, none]) rfl ?_
    walk_at "st"
    walk_at "go"
    refine ⟨s1, m, 8, rfl, st, by decide, by decide, fun H1 fr1 st1 => ?_⟩
    generalize m.next 8 = m1 at *
    walk_at "go"
    refine w_brI (fun c1 => ?_) (fun c1 => ?_)
    · walk_at "go"
      refine ⟨s1, m1, 8, rfl, st1, by decide, by decide, fun H2 fr2 st2 => ?_⟩
      have v2 := m1.val_lt (n := 8) (by decide)
      walk_at "go"
      intro p hp
      walk_at "go"
      refine q _ p _ (.var (m1.val 8).toNat) (fr1.trans (fr2.trans (Fr.ex (Ex.new hp)))) (st2.new hp) (SqT.of ?_) ?_ (by simp [Tm.enc])
      · rw [upd_same]
        simp only [Tm.enc]
        rw [Int.toNat_of_nonneg v2.1]
      · show _ < _
        omega
    · walk_at "go"
      refine ⟨s1, m1, 3, rfl, st1, by decide, by decide, fun H2 fr2 st2 => ?_⟩
      have v2 := m1.val_lt (n := 3) (by decide)
      generalize m1.val 3 = n2 at *
      generalize m1.next 3 = m2 at *
      obtain ⟨many, hm⟩ : ∃ k : Nat, 1 + n2 = k := ⟨(1 + n2).toNat, by rw [Int.toNat_of_nonneg (by omega)]⟩
      have hm1 : 1 ≤ many := by omega
      have hm3 : many ≤ 3 := by omega
      walk_at "go"
      rw [hm]
      refine ⟨s1, m2, many, rfl, st2, by omega, by omega, fun H3 fr3 st3 => ?_⟩
      have v3 := m2.val_lt (n := (many : Int)) (by omega)
      generalize m2.val (many : Int) = n3 at *
      generalize m2.next (many : Int) = m3 at *
      walk_at "go"
      intro p1 hp1
      have fr13 : Fr s1 H (upd H3 p1 (.tup [V.int n3])) := fr1.trans (fr2.trans (fr3.trans (Fr.ex (Ex.new hp1))))
      have st4 : StAt (upd H3 p1 (.tup [V.int n3])) s1 m3 := st3.new hp1
      have hT1 : SqT K (upd H3 p1 (.tup [V.int n3])) p1 (Tm.var n3.toNat).enc := SqT.of (by rw [upd_same]; simp only [Tm.enc]; rw [Int.toNat_of_nonneg v3.1])
      generalize upd H3 p1 (.tup [V.int n3]) = H4 at *
      walk_at "go"
      refine ⟨s1, m3, 4, rfl, st4, by decide, by decide, fun H5 fr5 st5 => ?_⟩
      have v5 := m3.val_lt (n := 4) (by decide)
      generalize m3.val 4 = n5 at *
      generalize m3.next 4 = m5 at *
      have hT5 := fr_t fr5 st4.2.1 hT1
      walk_at "go"
      refine for_range (lo := 0) (n := n5.toNat) (fun i σ H' => ∃ (p : Addr) (t : Tm) (m : Stm) (y1 y2 : Option V), σ = [some (.ref s1), some (.int (many : Int)), some (.ref p), y1, y2] ∧ Fr s1 H H' ∧ StAt H' s1 m ∧ SqT K H' p t.enc ∧ t.wf many ∧ t.enc.length ≤ 1 + 2 * i)
        ⟨p1, _, m5, none, none, rfl, fr13.trans fr5, st5, hT5, (by show _ < _; omega), by simp [Tm.enc]⟩ ?_ ?_
      · rintro i σ H6 hi ⟨p, t, m, y1, y2, rfl, fr6, st6, hp, hw, hl⟩
        walk_at "go"
        refine ⟨s1, m, many, rfl, st6, by omega, by omega, fun H7 fr7 st7 => ?_⟩
        have v7 := m.val_lt (n := (many : Int)) (by omega)
        have hp7 := fr_t fr7 st6.2.1 hp
        generalize m.val (many : Int) = n7 at *
        generalize m.next (many : Int) = m7 at *
        walk_at "go"
        intro x hx
        have st8 : StAt (upd H7 x (.tup [V.int n7])) s1 m7 := st7.new hx
        have hx8 : SqT K (upd H7 x (.tup [V.int n7])) x (Tm.var n7.toNat).enc := SqT.of (by rw [upd_same]; simp only [Tm.enc]; rw [Int.toNat_of_nonneg v7.1])
        have hp8 := ex_t (Ex.new hx (o := .tup [V.int n7])) hp7
        have fr8 : Fr s1 H (upd H7 x (.tup [V.int n7])) := fr6.trans (fr7.trans (Fr.ex (Ex.new hx)))
        generalize upd H7 x (.tup [V.int n7]) = H8 at *
        have hwx : (Tm.var n7.toNat).wf many := by show _ < _; omega
        walk_at "go"
        refine ⟨s1, m7, 2, rfl, st8, by decide, by decide, fun H9 fr9 st9 => ?_⟩
        have hp9 := fr_t fr9 st8.2.1 hp8
        have hx9 := fr_t fr9 st8.2.1 hx8
        have lx : (Tm.var n7.toNat).enc.length = 1 := rfl
        walk_at "go"
        refine w_brI (fun c2 => ?_) (fun c2 => ?_)
        · walk_at "go"
          intro y hy
          walk_at "go"
          intro z H10 e10 hz
          have hx10 := ex_t e10 (ex_t (Ex.new hy (o := .tup [V.str "app"])) hx9)
          walk_at "go"
          intro u H11 e11 hu
          walk_at "go"
          refine ⟨u, .app t (.var n7.toNat), _, _, _, rfl, fr8.trans (fr9.trans (Fr.ex ((Ex.new hy).trans (e10.trans e11)))), ((st9.new hy).ex e10).ex e11, ?_, ⟨hw, hwx⟩, by simp only [Tm.enc, List.length_cons, List.length_append, List.length_nil]; omega⟩
          simpa [Tm.enc] using hu
        · walk_at "go"
          intro y hy
          walk_at "go"
          intro z H10 e10 hz
          have hp10 := ex_t e10 (ex_t (Ex.new hy (o := .tup [V.str "app"])) hp9)
          walk_at "go"
          intro u H11 e11 hu
          walk_at "go"
          refine ⟨u, .app (.var n7.toNat) t, _, _, _, rfl, fr8.trans (fr9.trans (Fr.ex ((Ex.new hy).trans (e10.trans e11)))), ((st9.new hy).ex e10).ex e11, ?_, ⟨hwx, hw⟩, by simp only [Tm.enc, List.length_cons, List.length_append, List.length_nil]; omega⟩
          simpa [Tm.enc] using hu
      · rintro σ H6 ⟨p, t, m, y1, y2, rfl, fr6, st6, hp, hw, hl⟩
        walk_at "go"
        intro y hy
        walk_at "go"
        intro z H7 e7 hz
        have hp7 := ex_t e7 (ex_t (Ex.new hy (o := .tup [V.str "lam"])) hp)
        walk_at "go"
        intro u H8 e8 hu
        walk_at "go"
        have e9 := Tm.enc_lamN many t
        refine q _ u m (Tm.lamN many t) (fr6.trans (Fr.ex ((Ex.new hy).trans (e7.trans e8)))) (((st6.new hy).ex e7).ex e8) ?_ (Tm.wf_mono (Nat.zero_le 8) (Tm.wf_lamN many (by rw [Nat.zero_add]; exact hw))) ?_
        · rw [e9]
          exact hu
        · rw [e9, List.length_append, PyProof.Rows.lm_len_rep_flat, List.length_singleton]
          omega
end
end Ly
set_option Elab.async false
set_option linter.all false
set_option maxRecDepth 100000
set_option maxHeartbeats 8000000
namespace Ly
open PySem PySem.Spec PyProof.Rows L2 Evl
local macro_rules | `(tactic| walk_at "ne") => `(tactic| first
  | assumption
  | ((refine' Ne.symm ?hq); (case hq => assumption))
  | ((refine' ne_of_none ?nh1 ?nh2); (case nh2 => assumption); (case nh1 => walk_at "hp"))
  | ((refine' Ne.symm (ne_of_none ?nh1 ?nh2)); (case nh2 => assumption); (case nh1 => walk_at "hp")))
local macro_rules | `(tactic| walk_at "hp") => `(tactic| first
  | assumption
  | exact upd_same
  | ((refine' SqL.of ?hq); (case hq => walk_at "hp"))
  | ((refine' SqT.of ?hq); (case hq => walk_at "hp"))
  | ((refine' (upd_ne ?hne).trans ?hrest); (case hne => walk_at "ne"); (case hrest => walk_at "hp"))
  | ((refine' ly_at ?hex ?hh); (case hex => assumption); (case hh => walk_at "hp"))
  | ((refine' ly_atF ?hex ?hnn ?hh); (case hex => assumption); (case hh => walk_at "hp"); (case hnn => walk_at "ne"))
  | ((refine' ex_t ?hex ?hh); (case hh => assumption); (case hex => walk_at "ex"))
  | ((refine' ex_l ?hex ?hh); (case hh => assumption); (case hex => walk_at "ex")))
local macro_rules | `(tactic| walk_at "ex") => `(tactic| first
  | assumption
  | exact Ex.refl _
  | ((refine' ex_new ?xa ?xb); (case xb => assumption); (case xa => walk_at "ex"))
  | ((refine' ex_upd ?xa ?xb); (case xb => walk_at "free"); (case xa => walk_at "ex"))
  | ((refine' Ex.trans ?xa ?xb); (case xb => assumption); (case xa => walk_at "ex")))
local macro_rules | `(tactic| walk_at "free") => `(tactic| first
  | assumption
  | ((refine' fresh_back ?xa ?xb); (case xb => assumption); (case xa => walk_at "ex")))
local macro_rules | `(tactic| walk_at "fr") => `(tactic| first
  | assumption
  | exact Fr.refl _ _
  | ((refine' Fr.own ?hq); (case hq => walk_at "fr"))
  | ((refine' Fr.new ?xa ?xb); (case xb => assumption); (case xa => walk_at "fr"))
  | ((refine' Fr.mut ?xa ?xb); (case xb => assumption); (case xa => walk_at "fr"))
  | ((refine' Fr.trans ?xa ?xb); (case xb => assumption); (case xa => walk_at "fr"))
  | ((refine' Fr.trans ?xa (Fr.ex ?xb)); (case xb => assumption); (case xa => walk_at "fr")))
local macro_rules | `(tactic| walk_at "go1") => `(tactic| first
  | (with_reducible refine' w_seq ?_)
  | (with_reducible refine' w_asg ?_)
  | (with_reducible refine' w_ret ?_)
  | (with_reducible refine' w_drop ?_)
  | (with_reducible refine' w_if ?_)
  | (with_reducible refine' w_next ?_)
  | (with_reducible refine' w_name ?_)
  | (with_reducible refine' w_sub ?_)
  | ((with_reducible refine' w_var ?hv ?_); (case hv => exact rfl))
  | (with_reducible refine' w_c ?_)
  | (with_reducible refine' w_op ?_)
  | (with_reducible refine' w_un ?_)
  | (with_reducible refine' w_ch ?_)
  | (with_reducible refine' w_I0 ?_)
  | ((with_reducible refine' w_I ?hc ?_); (case hc => first | (exact ly_mulL (by decide) (by decide)) | (exact ly_mulR (by decide) (by decide)) | (exact ly_mulL (by omega) (by omega)) | (show (_ : Int) ≠ 0; decide) | (show (_ : Int) ≠ 0; omega) | (exact ⟨by decide, by decide⟩) | (exact ⟨by omega, by omega⟩)))
  | (with_reducible refine' w_U ?_)
  | ((with_reducible refine' w_eq ?hs ?_); (case hs => exact rfl))
  | ((with_reducible refine' w_ne ?hs ?_); (case hs => exact rfl))
  | (with_reducible refine' w_isB ?_)
  | (with_reducible refine' w_notB ?_)
  | (with_reducible refine' w_nil ?_)
  | (with_reducible refine' w_cons ?_)
  | (with_reducible refine' w_tup ?_)
  | (with_reducible refine' w_lst ?_)
  | (with_reducible refine' w_cb ?_)
  | (with_reducible refine' w_call ?_)
  | (with_reducible refine' w_bm ?_)
  | (with_reducible refine' w_bm0 ?_)
  | ((with_reducible refine' w_app ?hh ?hz ?_); (case hh => walk_at "hp"); (case hz => first | exact ly_lt (by omega) | exact ly_lt (by simp only [List.length_append, List.length_map, List.length_cons, List.length_nil]; omega)))
  | ((with_reducible refine' w_popA ?hh ?_); (case hh => walk_at "hp"))
  | ((with_reducible refine' w_ext ?hh ?hh2 ?hz ?_); (case hh => walk_at "hp"); (case hh2 => walk_at "hp"))
  | ((with_reducible refine' w_ixL ?hh ?ha ?_); (case hh => walk_at "hp"); (case ha => first | exact rfl | exact at_map (by omega) | exact atI_last _ _ | ((refine' at_of ?ae ?ah); (case ah => assumption); (case ae => omega))))
  | ((with_reducible refine' w_ixT ?hh ?ha ?_); (case hh => walk_at "hp"); (case ha => first | exact rfl | exact at_map (by omega) | exact atI_last _ _ | ((refine' at_of ?ae ?ah); (case ah => assumption); (case ae => omega))))
  | ((with_reducible refine' w_cat ?hh ?hh2 ?hz ?_); (case hh => walk_at "hp"); (case hh2 => walk_at "hp"))
  | ((with_reducible refine' w_setL ?hh ?ha ?_); (case hh => walk_at "hp"); (case ha => exact rfl))
  | (with_reducible refine' w_test ?_)
  | (with_reducible refine' w_tB ?_)
  | (with_reducible refine' w_bl ?_)
  | (with_reducible refine' w_and ?_)
  | (with_reducible refine' w_or ?_)
  | (with_reducible refine' w_not ?_)
  | (with_reducible refine' w_andV ?_)
  | (with_reducible refine' w_orV ?_)
  | (with_reducible refine' w_notV ?_)
  | (with_reducible refine' w_ifE ?_)
  | (with_reducible refine' w_for ?_)
  | ((with_reducible refine' w_nin ?hh ?_); (case hh => walk_at "hp"))
  | ((with_reducible refine' w_sorted ?hh ?_); (case hh => walk_at "hp"))
  | (with_reducible refine' w_tsadd ?_)
  | ((with_reducible refine' w_tsadd1 ?hh ?_); (case hh => walk_at "hp"))
  | ((with_reducible refine' w_sadd ?hh ?hr ?_); (case hh => walk_at "hp"); (case hr => omega))
  | (with_reducible refine' w_iZ ?_)
  | ((with_reducible refine' w_iZ1 ?hh ?hh2 ?_); (case hh => walk_at "hp"); (case hh2 => walk_at "hp"))
  | (with_reducible refine' w_iS ?_)
  | (with_reducible refine' w_iS1 ?_)
  | ((with_reducible refine' w_gtup ?hh ?hn ?_); (case hh => walk_at "hp"); (case hn => exact rfl))
  | (with_reducible refine' w_gcons ?_)
  | (with_reducible refine' w_gnil ?_)
  | (with_reducible refine' w_js ?_)
  | (with_reducible refine' w_jsn ?_)
  | ((with_reducible refine' w_js1 ?hl ?_); (case hl => decide +kernel))
  | (with_reducible refine' w_fmt ?_)
  | ((with_reducible refine' w_fmt1 ?hl ?_); (case hl => decide +kernel))
  | (with_reducible refine' w_callS ?_)
  | ((with_reducible refine' w_truL ?hh ?_); (case hh => walk_at "hp"))
  | (with_reducible refine' w_lc ?_)
  | (with_reducible refine' w_yes ?_)
  | ((with_reducible refine' w_wipe ?he ?_); (case he => exact rfl))
  | (with_reducible refine' w_iL ?_)
  | (with_reducible refine' w_iT ?_)
  | (with_reducible refine' w_iR ?_)
  | ((with_reducible refine' w_iL1 ?hh ?_); (case hh => walk_at "hp"))
  | ((with_reducible refine' w_iT1 ?hh ?_); (case hh => walk_at "hp"))
  | ((with_reducible refine' w_iR1 ?h1 ?h2 ?_); (case h1 => omega); (case h2 => omega))
  | ((with_reducible refine' w_aug ?hv ?_); (case hv => exact rfl))
  | (with_reducible refine' w_ipI ?_)
  | ((with_reducible refine' w_isi ?hy ?hk ?_); (case hy => walk_at "ty"); (case hk => walk_at "kit"))
  | ((with_reducible refine' w_int ?_))
  | ((with_reducible refine' w_intB ?_))
  | ((with_reducible refine' w_abs ?_))
  | ((with_reducible refine' w_lenL ?hh ?_); (case hh => walk_at "hp"))
  | ((with_reducible refine' w_lenT ?hh ?_); (case hh => walk_at "hp"))
  | ((with_reducible refine' w_tupL ?hh ?_); (case hh => walk_at "hp"))
  | ((with_reducible refine' w_tupT ?hh ?_); (case hh => walk_at "hp"))
  | ((with_reducible refine' w_catA ?hh ?hh2 ?hz ?_); (case hh => walk_at "hp"); (case hh2 => walk_at "hp"); (case hz => walk_at "len"))
  | ((with_reducible refine' w_repB ?hh ?hne ?h2 ?h3 ?hz ?_); (case hh => walk_at "hp"); (case hne => simp); (case h2 => omega); (case h3 => omega); (case hz => exact Nat.le_of_ble_eq_true rfl))
  | ((with_reducible refine' w_eqN ?hh ?hh2 ?n1 ?n2 ?_); (case hh => walk_at "hp"); (case hh2 => walk_at "hp"); (case n1 => walk_at "nd"); (case n2 => walk_at "nd"))
  | ((with_reducible refine' w_neN ?hh ?hh2 ?n1 ?n2 ?_); (case hh => walk_at "hp"); (case hh2 => walk_at "hp"); (case n1 => walk_at "nd"); (case n2 => walk_at "nd"))
  | ((with_reducible refine' w_eqL ?hh ?hh2 ?n1 ?n2 ?_); (case hh => walk_at "hp"); (case hh2 => walk_at "hp"); (case n1 => walk_at "nd"); (case n2 => walk_at "nd"))
  | ((with_reducible refine' w_neL ?hh ?hh2 ?n1 ?n2 ?_); (case hh => walk_at "hp"); (case hh2 => walk_at "hp"); (case n1 => walk_at "nd"); (case n2 => walk_at "nd"))
  | ((with_reducible refine' w_neNon ?hh2 ?n2 ?_); (case hh2 => walk_at "hp"); (case n2 => walk_at "nd"))
  | ((with_reducible refine' w_eqNon ?hh2 ?n2 ?_); (case hh2 => walk_at "hp"); (case n2 => walk_at "nd"))
  | ((with_reducible refine' w_slA ?hh ?_); (case hh => walk_at "hp"))
  | ((with_reducible refine' w_disp ?hz ?_); (case hz => exact sz_of (Nat.le_of_ble_eq_true rfl)))
  | ((with_reducible refine' w_tyL ?hh ?_); (case hh => walk_at "hp"))
  | (with_reducible refine' iteT ?_)
  | (with_reducible refine' iteF ?_)
  | (with_reducible refine' w_nT ?_)
  | (with_reducible refine' w_nn ?_)
  | (with_reducible refine' w_nnT ?_)
  | (with_reducible refine' w_nnR ?_)
  | (with_reducible refine' w_neG ?_)
  | (with_reducible refine' w_eqG ?_)
  | (with_reducible refine' w_neS ?_)
  | (with_reducible refine' w_eqS ?_)
  | (with_reducible refine' w_neSb ?_)
  | (with_reducible refine' w_eqSb ?_)
  | (with_reducible refine' w_deIS ?_)
  | (with_reducible refine' w_deSI ?_)
  | (with_reducible refine' w_deISn ?_)
  | ((with_reducible refine' w_deST ?he ?_); (case he => decide +kernel))
  | ((with_reducible refine' w_deSF ?he ?_); (case he => decide +kernel))
  | ((with_reducible refine' w_deSTn ?he ?_); (case he => decide +kernel))
  | ((with_reducible refine' w_deSFn ?he ?_); (case he => decide +kernel))
  | (with_reducible refine' w_nF ?_)
  | dsimp only [Bool.not_true, Bool.not_false])
local macro_rules | `(tactic| walk_at "ty") => `(tactic| first
  | exact .base (.int _) | exact .base (.str _) | exact .base (.bl _) | exact .base .non
  | ((refine' tyx_t ?hq); (case hq => walk_at "hp")) | ((refine' tyx_l ?hq); (case hq => walk_at "hp")) | ((refine' .base (.tup ?hq)); (case hq => walk_at "hp")) | assumption)
local macro_rules | `(tactic| walk_at "go") => `(tactic| repeat walk_at "go1")
local macro_rules | `(tactic| walk_at "st") => `(tactic| try dsimp only [cxOf, Cx.nox, Cx.wish])
local macro_rules | `(tactic| walk_at "kit") => `(tactic| with_reducible first | exact kit_int_int | exact kit_int_str | exact kit_int_bool | exact kit_int_tuple | exact kit_int_list | exact kit_str_int | exact kit_str_str | exact kit_str_bool | exact kit_str_tuple | exact kit_str_list | exact kit_bool_int | exact kit_bool_str | exact kit_bool_bool | exact kit_bool_tuple | exact kit_bool_list | exact kit_NoneType_int | exact kit_NoneType_str | exact kit_NoneType_bool | exact kit_NoneType_tuple | exact kit_NoneType_list | exact kit_list_int | exact kit_list_str | exact kit_list_bool | exact kit_list_tuple | exact kit_list_list | exact kit_tuple_int | exact kit_tuple_str | exact kit_tuple_bool | exact kit_tuple_tuple | exact kit_tuple_list)
local macro_rules | `(tactic| walk_at "nd") => `(tactic| first
  | assumption
  | exact Tm.nds _
  | exact Nds.nil
  | exact Nds.ofInts _
  | ((refine' Nds.cons ?na ?nb); (case na => first | exact Nds.I _ | exact Nds.L | exact Nds.A); (case nb => walk_at "nd"))
  | ((refine' Nds.app ?na ?nb); (case na => walk_at "nd"); (case nb => walk_at "nd"))
  | ((refine' Nds.rep ?na _); (case na => walk_at "nd")))
local macro_rules | `(tactic| walk_at "len") => `(tactic| first
  | exact ly_sz (by omega)
  | ((simp only [List.length_append, List.length_cons, List.length_nil, List.length_map, PyProof.Rows.lm_len_rep_flat]); exact ly_sz (by omega)))
local macro_rules | `(tactic| walk_at "go1") => `(tactic| first
  | (with_reducible refine' w_kget2 ?_)
  | (with_reducible refine' w_isRN ?_)
  | (with_reducible refine' w_isNN ?_)
  | (with_reducible refine' w_isIN ?_)
  | ((with_reducible refine' w_kg ?hd ?_); (case hd => assumption)))
local macro_rules | `(tactic| walk_at "go1") => `(tactic| first
  | ((with_reducible refine' w_extT ?hh ?hh2 ?hz ?_); (case hh => walk_at "hp"); (case hh2 => walk_at "hp"))
  | ((with_reducible refine' w_I ?hc ?_); (case hc => exact ⟨by decide, by decide, by decide⟩))
  | (with_reducible refine' w_sl ?_)
  | (with_reducible refine' w_noP ?_)
  | (with_reducible refine' w_part ?_)
  | (with_reducible refine' w_part1 ?_)
  | (with_reducible refine' w_it ?_)
  | (with_reducible refine' w_it1 ?_)
  | ((with_reducible refine' w_lenZ ?hz ?_); (case hz => omega))
  | ((with_reducible refine' w_addZb ?hz ?_); (case hz => omega))
  | ((with_reducible refine' w_addZf ?hz ?_); (case hz => omega))
  | ((with_reducible refine' w_addZa ?hz ?_); (case hz => omega))
  | ((with_reducible refine' w_inS ?hh ?_); (case hh => walk_at "hp"))
  | ((with_reducible refine' w_ixT ?hh ?ha ?_); (case hh => assumption); (case ha => exact atI_nat (by assumption))))
section
variable {P : Program} {w : World} {K : PySem.W.Frag} {mg : Str → Option Value} {base : Heap} {tk : Nat → Tok} {cl : Nat → Addr}
def spRich (K : PySem.W.Frag) (n : Nat) : Sp := fun vs H Q _ => ∃ (s : Addr) (m : Stm) (size : Nat), vs = [.ref s, .int size] ∧ StAt H s m ∧ 1 ≤ size ∧ size < n ∧ size ≤ 100 ∧ ∀ H' p m' (t : Tm), Fr s H H' → StAt H' s m' → SqT K H' p t.enc → t.wf 8 → t.enc.length + 1 ≤ 37 * size → Q (.ref p) H'
theorem ok_rich {f : Addr} {fd : FuncData} (F : Fun K "_law_rich" "_law_rich" s_law_rich f fd) (T : Txt w K mg tk cl) (D1 : Def P w K mg base CX0 1 "_law_draw" ["stream", "many"] spDraw) (D2 : Def P w K mg base CX0 2 "_law_closed_term" ["stream"] (spClosed K))
    (D3 : Def P w K mg base CX0 14 "_law_term" ["stream", "size", "depth"] (spSTerm K 13)) (g_law_rich : mg "_law_rich" = some (.ref f)) (kp_law_rich : PySem.W.keepIn K (.ref f) = true) (b_law_rich : Binds K fd ["stream", "size"] []) :
    ∀ n, FnOk P w K mg base CX0 (n + 15) f fd ["stream", "size"] (spRich K n) := by
  obtain ⟨f1, fd1, g_law_draw, kp_law_draw, b_law_draw, G_law_draw⟩ := D1
  obtain ⟨f2, fd2, g_law_closed_term, kp_law_closed_term, b_law_closed_term, G_law_closed_term⟩ := D2
  obtain ⟨f3, fd3, g_law_term, kp_law_term, b_law_term, G_law_term⟩ := D3
  intro n
  induction n with
  | zero =>
    refine ⟨fun vs H Q E h => ?_, fun A outer s H args us vs Q E _ _ _ _ h => ?_⟩
    · obtain ⟨_, _, _, _, _, _, h, _⟩ := h
      exact absurd h (Nat.not_lt_zero _)
    · obtain ⟨_, _, _, _, _, _, h, _⟩ := h
      exact absurd h (Nat.not_lt_zero _)
  | succ n G_law_rich =>
    have FO : FnOk P w K mg base CX0 (n + 15 + 1) f fd ["stream", "size"] (spRich K (n + 1)) := by
      refine F.ok sc_law_rich (fun vs H Q E h => ?_) (fun cdv A outer s H vs Q E hr h => ?_)
      · obtain ⟨_, _, _, rfl, _⟩ := h
        rfl
      · obtain ⟨s1, m, size, rfl, st, h1, hn, h2, q⟩ := h
        refine ⟨_, (pss_cons (ps_set (i := 2) sc_law_rich.nd rfl (.inl rfl) (pe_call G_law_draw (hr.mono (by first | decide | omega)) (by rfl) g_law_draw kp_law_draw b_law_draw .nil pass0 (pa_cons (pv 0) (pa_cons pe_int pa_nil)))) (pss_cons (ps_if (PW.pt (pw_or (pt_cmpR op_lt (pv 1) pe_int (nomark _)) (pw_or1 (pt_cmpR op_eq (pv 2) pe_int (nomark _))))) (pss_one (ps_ret (pe_call G_law_closed_term (hr.mono (by first | decide | omega)) (by rfl) g_law_closed_term kp_law_closed_term b_law_closed_term .nil pass0 (pa_cons (pv 0) pa_nil)))) pss_nil) (pss_cons (ps_if (pt_cmpR op_eq (pv 2) pe_int (nomark _)) (pss_one (ps_ret (pe_call G_law_term (hr.mono (by first | decide | omega)) (by rfl) g_law_term kp_law_term b_law_term .nil pass0 (pa_cons (pv 0) (pa_cons (pe_op op_add pe_int (pe_call G_law_draw (hr.mono (by first | decide | omega)) (by rfl) g_law_draw kp_law_draw b_law_draw .nil pass0 (pa_cons (pv 0) (pa_cons pe_int pa_nil)))) (pa_cons pe_int pa_nil)))))) pss_nil) (pss_cons (ps_if (PW.pt (pw_and (pt_cmpR op_eq (pv 2) pe_int (nomark _)) (pw_and1 (pt_cmpR op_gt (pv 1) pe_int (nomark _))))) (pss_one (ps_ret (pe_op op_catA (pe_tup (pa_cons pe_str pa_nil)) (pe_call G_law_rich (hr.mono (by first | decide | omega)) (by rfl) g_law_rich kp_law_rich b_law_rich .nil pass0 (pa_cons (pv 0) (pa_cons (pe_op op_sub (pv 1) pe_int) pa_nil)))))) pss_nil) (pss_cons (ps_set (i := 3) sc_law_rich.nd rfl (.inl rfl) (pe_op op_add pe_int (pe_call G_law_draw (hr.mono (by first | decide | omega)) (by rfl) g_law_draw kp_law_draw b_law_draw .nil pass0 (pa_cons (pv 0) (pa_cons (pe_op op_sub (pv 1) pe_int) pa_nil))))) (pss_one (ps_ret (pe_op op_catA (pe_op op_catA (pe_tup (pa_cons pe_str pa_nil)) (pe_call G_law_rich (hr.mono (by first | decide | omega)) (by rfl) g_law_rich kp_law_rich b_law_rich .nil pass0 (pa_cons (pv 0) (pa_cons (pv 3) pa_nil)))) (pe_call G_law_rich (hr.mono (by first | decide | omega)) (by rfl) g_law_rich kp_law_rich b_law_rich .nil pass0 (pa_cons (pv 0) (pa_cons (pe_op op_sub (pv 1) (pv 3)) pa_nil))))))))))), ?_⟩
        refine sl_of (σ2 := [some _, some _, none, none]) rfl ?_
        walk_at "st"
        walk_at "go"
        refine ⟨s1, m, 4, rfl, st, by decide, by decide, fun H1 fr1 st1 => ?_⟩
        have v1 := m.val_lt (n := 4) (by decide)
        generalize m.val 4 = pick at *
        generalize m.next 4 = m1 at *
        have closed : spClosed K ([V.ref s1] ++ []) H1 Q E0 := by
          refine ⟨s1, m1, rfl, st1, fun H2 p m2 t fr2 st2 hp hw hl => ?_⟩
          exact q H2 p m2 t (fr1.trans fr2) st2 hp hw (by omega)
        walk_at "go"
        refine w_br (fun c1 => ?_) (fun c1 => ?_)
        · walk_at "go"
          exact closed
        · walk_at "go"
          refine w_brI (fun c2 => ?_) (fun c2 => ?_)
          · walk_at "go"
            exact closed
          · walk_at "go"
            refine w_brI (fun c3 => ?_) (fun c3 => ?_)
            · walk_at "go"
              refine ⟨s1, m1, 12, rfl, st1, by decide, by decide, fun H2 fr2 st2 => ?_⟩
              have v2 := m1.val_lt (n := 12) (by decide)
              generalize m1.val 12 = n2 at *
              generalize m1.next 12 = m2 at *
              walk_at "go"
              refine ⟨s1, m2, (1 + n2).toNat, 0, by rw [Int.toNat_of_nonneg (by omega)]; rfl, st2, by omega, by omega, by omega, by omega, fun H3 p m3 t fr3 st3 hp hw hl => ?_⟩
              exact q H3 p m3 t (fr1.trans (fr2.trans fr3)) st3 hp (Tm.wf_mono (by decide) hw) (by omega)
            · walk_at "go"
              refine w_brI (fun c4 => ?_) (fun c4 => ?_)
              · walk_at "go"
                refine w_br (fun c5 => ?_) (fun c5 => ?_)
                · walk_at "go"
                  intro p1 hp1
                  walk_at "go"
                  refine ⟨s1, m1, size - 1, by rw [show ((size - 1 : Nat) : Int) = (size : Int) - 1 by omega]; rfl, st1.new hp1, by omega, by omega, by omega, fun H2 p2 m2 t fr2 st2 hp2 hw hl => ?_⟩
                  have hp1b : SqT K H2 p1 [V.str "lam"] := fr_t fr2 (st1.new hp1).2.1 (SqT.of upd_same)
                  walk_at "go"
                  intro p3 H3 e3 hp3
                  walk_at "go"
                  exact q _ p3 m2 (.lam t) (fr1.trans ((Fr.ex (Ex.new hp1)).trans (fr2.trans (Fr.ex e3)))) (st2.ex e3) hp3 (Tm.wf_mono (t := t) (by decide) hw) (by simp only [Tm.enc, List.length_cons]; omega)
                · walk_at "go"
                  refine ⟨s1, m1, (size : Int) - 1, rfl, st1, by omega, by omega, fun H2 fr2 st2 => ?_⟩
                  have v2 := m1.val_lt (n := (size : Int) - 1) (by omega)
                  generalize m1.val ((size : Int) - 1) = hf at *
                  generalize m1.next ((size : Int) - 1) = m2 at *
                  have fr12 := fr1.trans fr2
                  walk_at "go"
                  intro p1 hp1
                  walk_at "go"
                  refine ⟨s1, m2, (1 + hf).toNat, by rw [Int.toNat_of_nonneg (by omega)]; rfl, st2.new hp1, by omega, by omega, by omega, fun H3 p2 m3 t fr3 st3 hp2 hw hl => ?_⟩
                  have hp1b : SqT K H3 p1 [V.str "app"] := fr_t fr3 (st2.new hp1).2.1 (SqT.of upd_same)
                  walk_at "go"
                  intro p3 H4 e4 hp3
                  have st4 := st3.ex e4
                  walk_at "go"
                  refine ⟨s1, m3, size - (1 + hf).toNat, by rw [show ((size - (1 + hf).toNat : Nat) : Int) = (size : Int) - (1 + hf) by omega]; rfl, st4, by omega, by omega, by omega, fun H5 p5 m5 u fr5 st5 hp5 hwu hlu => ?_⟩
                  have hp3b := fr_t fr5 st4.2.1 hp3
                  walk_at "go"
                  intro p6 H6 e6 hp6
                  walk_at "go"
                  refine q _ p6 m5 (.app t u) (fr12.trans ((Fr.ex (Ex.new hp1)).trans (fr3.trans ((Fr.ex e4).trans (fr5.trans (Fr.ex e6)))))) (st5.ex e6) ?_ ⟨hw, hwu⟩ (by simp only [Tm.enc, List.length_cons, List.length_append]; omega)
                  simpa [Tm.enc] using hp6
              · walk_at "go"
                refine ⟨s1, m1, (size : Int) - 1, rfl, st1, by omega, by omega, fun H2 fr2 st2 => ?_⟩
                have v2 := m1.val_lt (n := (size : Int) - 1) (by omega)
                generalize m1.val ((size : Int) - 1) = hf at *
                generalize m1.next ((size : Int) - 1) = m2 at *
                have fr12 := fr1.trans fr2
                walk_at "go"
                intro p1 hp1
                walk_at "go"
                refine ⟨s1, m2, (1 + hf).toNat, by rw [Int.toNat_of_nonneg (by omega)]; rfl, st2.new hp1, by omega, by omega, by omega, fun H3 p2 m3 t fr3 st3 hp2 hw hl => ?_⟩
                have hp1b : SqT K H3 p1 [V.str "app"] := fr_t fr3 (st2.new hp1).2.1 (SqT.of upd_same)
                walk_at "go"
                intro p3 H4 e4 hp3
                have st4 := st3.ex e4
                walk_at "go"
                refine ⟨s1, m3, size - (1 + hf).toNat, by rw [show ((size - (1 + hf).toNat : Nat) : Int) = (size : Int) - (1 + hf) by omega]; rfl, st4, by omega, by omega, by omega, fun H5 p5 m5 u fr5 st5 hp5 hwu hlu => ?_⟩
                have hp3b := fr_t fr5 st4.2.1 hp3
                walk_at "go"
                intro p6 H6 e6 hp6
                walk_at "go"
                refine q _ p6 m5 (.app t u) (fr12.trans ((Fr.ex (Ex.new hp1)).trans (fr3.trans ((Fr.ex e4).trans (fr5.trans (Fr.ex e6)))))) (st5.ex e6) ?_ ⟨hw, hwu⟩ (by simp only [Tm.enc, List.length_cons, List.length_append]; omega)
                simpa [Tm.enc] using hp6
    exact FO
end
end Ly
set_option Elab.async false
set_option linter.all false
set_option maxRecDepth 100000
set_option maxHeartbeats 8000000
namespace Ly
open PySem PySem.Spec PyProof.Rows L2 Evl
local macro_rules | `(tactic| walk_at "ne") => `(tactic| first
  | assumption
  | ((refine' Ne.symm ?hq); (case hq => assumption))
  | ((refine' ne_of_none ?nh1 ?nh2); (case nh2 => assumption); (case nh1 => walk_at "hp"))
  | ((refine' Ne.symm (ne_of_none ?nh1 ?nh2)); (case nh2 => assumption); (case nh1 => walk_at "hp")))
local macro_rules | `(tactic| walk_at "hp") => `(tactic| first
  | assumption
  | exact upd_same
  | ((refine' SqL.of ?hq); (case hq => walk_at "hp"))
  | ((refine' SqT.of ?hq); (case hq => walk_at "hp"))
  | ((refine' (upd_ne ?hne).trans ?hrest); (case hne => walk_at "ne"); (case hrest => walk_at "hp"))
  | ((refine' ly_at ?hex ?hh); (case hex => assumption); (case hh => walk_at "hp"))
  | ((refine' ly_atF ?hex ?hnn ?hh); (case hex => assumption); (case hh => walk_at "hp"); (case hnn => walk_at "ne"))
  | ((refine' ex_t ?hex ?hh); (case hh => assumption); (case hex => walk_at "ex"))
  | ((refine' ex_l ?hex ?hh); (case hh => assumption); (case hex => walk_at "ex")))
local macro_rules | `(tactic| walk_at "ex") => `(tactic| first
  | assumption
  | exact Ex.refl _
  | ((refine' ex_new ?xa ?xb); (case xb => assumption); (case xa => walk_at "ex"))
  | ((refine' ex_upd ?xa ?xb); (case xb => walk_at "free"); (case xa => walk_at "ex"))
  | ((refine' Ex.trans ?xa ?xb); (case xb => assumption); (case xa => walk_at "ex")))
local macro_rules | `(tactic| walk_at "free") => `(tactic| first
  | assumption
  | ((refine' fresh_back ?xa ?xb); (case xb => assumption); (case xa => walk_at "ex")))
local macro_rules | `(tactic| walk_at "fr") => `(tactic| first
  | assumption
  | exact Fr.refl _ _
  | ((refine' Fr.own ?hq); (case hq => walk_at "fr"))
  | ((refine' Fr.new ?xa ?xb); (case xb => assumption); (case xa => walk_at "fr"))
  | ((refine' Fr.mut ?xa ?xb); (case xb => assumption); (case xa => walk_at "fr"))
  | ((refine' Fr.trans ?xa ?xb); (case xb => assumption); (case xa => walk_at "fr"))
  | ((refine' Fr.trans ?xa (Fr.ex ?xb)); (case xb => assumption); (case xa => walk_at "fr")))
local macro_rules | `(tactic| walk_at "go1") => `(tactic| first
  | (with_reducible refine' w_seq ?_)
  | (with_reducible refine' w_asg ?_)
  | (with_reducible refine' w_ret ?_)
  | (with_reducible refine' w_drop ?_)
  | (with_reducible refine' w_if ?_)
  | (with_reducible refine' w_next ?_)
  | (with_reducible refine' w_name ?_)
  | (with_reducible refine' w_sub ?_)
  | ((with_reducible refine' w_var ?hv ?_); (case hv => exact rfl))
  | (with_reducible refine' w_c ?_)
  | (with_reducible refine' w_op ?_)
  | (with_reducible refine' w_un ?_)
  | (with_reducible refine' w_ch ?_)
  | (with_reducible refine' w_I0 ?_)
  | ((with_reducible refine' w_I ?hc ?_); (case hc => first | (exact ly_mulL (by decide) (by decide)) | (exact ly_mulR (by decide) (by decide)) | (exact ly_mulL (by omega) (by omega)) | (show (_ : Int) ≠ 0; decide) | (show (_ : Int) ≠ 0; omega) | (exact ⟨by decide, by decide⟩) | (exact ⟨by omega, by omega⟩)))
  | (with_reducible refine' w_U ?_)
  | ((with_reducible refine' w_eq ?hs ?_); (case hs => exact rfl))
  | ((with_reducible refine' w_ne ?hs ?_); (case hs => exact rfl))
  | (with_reducible refine' w_isB ?_)
  | (with_reducible refine' w_notB ?_)
  | (with_reducible refine' w_nil ?_)
  | (with_reducible refine' w_cons ?_)
  | (with_reducible refine' w_tup ?_)
  | (with_reducible refine' w_lst ?_)
  | (with_reducible refine' w_cb ?_)
  | (with_reducible refine' w_call ?_)
  | (with_reducible refine' w_bm ?_)
  | (with_reducible refine' w_bm0 ?_)
  | ((with_reducible refine' w_app ?hh ?hz ?_); (case hh => walk_at "hp"); (case hz => first | exact ly_lt (by omega) | exact ly_lt (by simp only [List.length_append, List.length_map, List.length_cons, List.length_nil]; omega)))
  | ((with_reducible refine' w_popA ?hh ?_); (case hh => walk_at "hp"))
  | ((with_reducible refine' w_ext ?hh ?hh2 ?hz ?_); (case hh => walk_at "hp"); (case hh2 => walk_at "hp"))
  | ((with_reducible refine' w_ixL ?hh ?ha ?_); (case hh => walk_at "hp"); (case ha => first | exact rfl | exact at_map (by omega) | exact atI_last _ _ | ((refine' at_of ?ae ?ah); (case ah => assumption); (case ae => omega))))
  | ((with_reducible refine' w_ixT ?hh ?ha ?_); (case hh => walk_at "hp"); (case ha => first | exact rfl | exact at_map (by omega) | exact atI_last _ _ | ((refine' at_of ?ae ?ah); (case ah => assumption); (case ae => omega))))
  | ((with_reducible refine' w_cat ?hh ?hh2 ?hz ?_); (case hh => walk_at "hp"); (case hh2 => walk_at "hp"))
  | ((with_reducible refine' w_setL ?hh ?ha ?_); (case hh => walk_at "hp"); (case ha => exact rfl))
  | (with_reducible refine' w_test ?_)
  | (with_reducible refine' w_tB ?_)
  | (with_reducible refine' w_bl ?_)
  | (with_reducible refine' w_and ?_)
  | (with_reducible refine' w_or ?_)
  | (with_reducible refine' w_not ?_)
  | (with_reducible refine' w_andV ?_)
  | (with_reducible refine' w_orV ?_)
  | (with_reducible refine' w_notV ?_)
  | (with_reducible refine' w_ifE ?_)
  | (with_reducible refine' w_for ?_)
  | ((with_reducible refine' w_nin ?hh ?_); (case hh => walk_at "hp"))
  | ((with_reducible refine' w_sorted ?hh ?_); (case hh => walk_at "hp"))
  | (with_reducible refine' w_tsadd ?_)
  | ((with_reducible refine' w_tsadd1 ?hh ?_); (case hh => walk_at "hp"))
  | ((with_reducible refine' w_sadd ?hh ?hr ?_); (case hh => walk_at "hp"); (case hr => omega))
  | (with_reducible refine' w_iZ ?_)
  | ((with_reducible refine' w_iZ1 ?hh ?hh2 ?_); (case hh => walk_at "hp"); (case hh2 => walk_at "hp"))
  | (with_reducible refine' w_iS ?_)
  | (with_reducible refine' w_iS1 ?_)
  | ((with_reducible refine' w_gtup ?hh ?hn ?_); (case hh => walk_at "hp"); (case hn => exact rfl))
  | (with_reducible refine' w_gcons ?_)
  | (with_reducible refine' w_gnil ?_)
  | (with_reducible refine' w_js ?_)
  | (with_reducible refine' w_jsn ?_)
  | ((with_reducible refine' w_js1 ?hl ?_); (case hl => decide +kernel))
  | (with_reducible refine' w_fmt ?_)
  | ((with_reducible refine' w_fmt1 ?hl ?_); (case hl => decide +kernel))
  | (with_reducible refine' w_callS ?_)
  | ((with_reducible refine' w_truL ?hh ?_); (case hh => walk_at "hp"))
  | (with_reducible refine' w_lc ?_)
  | (with_reducible refine' w_yes ?_)
  | ((with_reducible refine' w_wipe ?he ?_); (case he => exact rfl))
  | (with_reducible refine' w_iL ?_)
  | (with_reducible refine' w_iT ?_)
  | (with_reducible refine' w_iR ?_)
  | ((with_reducible refine' w_iL1 ?hh ?_); (case hh => walk_at "hp"))
  | ((with_reducible refine' w_iT1 ?hh ?_); (case hh => walk_at "hp"))
  | ((with_reducible refine' w_iR1 ?h1 ?h2 ?_); (case h1 => omega); (case h2 => omega))
  | ((with_reducible refine' w_aug ?hv ?_); (case hv => exact rfl))
  | (with_reducible refine' w_ipI ?_)
  | ((with_reducible refine' w_isi ?hy ?hk ?_); (case hy => walk_at "ty"); (case hk => walk_at "kit"))
  | ((with_reducible refine' w_int ?_))
  | ((with_reducible refine' w_intB ?_))
  | ((with_reducible refine' w_abs ?_))
  | ((with_reducible refine' w_lenL ?hh ?_); (case hh => walk_at "hp"))
  | ((with_reducible refine' w_lenT ?hh ?_); (case hh => walk_at "hp"))
  | ((with_reducible refine' w_tupL ?hh ?_); (case hh => walk_at "hp"))
  | ((with_reducible refine' w_tupT ?hh ?_); (case hh => walk_at "hp"))
  | ((with_reducible refine' w_catA ?hh ?hh2 ?hz ?_); (case hh => walk_at "hp"); (case hh2 => walk_at "hp"); (case hz => walk_at "len"))
  | ((with_reducible refine' w_repB ?hh ?hne ?h2 ?h3 ?hz ?_); (case hh => walk_at "hp"); (case hne => simp); (case h2 => omega); (case h3 => omega); (case hz => exact Nat.le_of_ble_eq_true rfl))
  | ((with_reducible refine' w_eqN ?hh ?hh2 ?n1 ?n2 ?_); (case hh => walk_at "hp"); (case hh2 => walk_at "hp"); (case n1 => walk_at "nd"); (case n2 => walk_at "nd"))
  | ((with_reducible refine' w_neN ?hh ?hh2 ?n1 ?n2 ?_); (case hh => walk_at "hp"); (case hh2 => walk_at "hp"); (case n1 => walk_at "nd"); (case n2 => walk_at "nd"))
  | ((with_reducible refine' w_eqL ?hh ?hh2 ?n1 ?n2 ?_); (case hh => walk_at "hp"); (case hh2 => walk_at "hp"); (case n1 => walk_at "nd"); (case n2 => walk_at "nd"))
  | ((with_reducible refine' w_neL ?hh ?hh2 ?n1 ?n2 ?_); (case hh => walk_at "hp"); (case hh2 => walk_at "hp"); (case n1 => walk_at "nd"); (case n2 => walk_at "nd"))
  | ((with_reducible refine' w_neNon ?hh2 ?n2 ?_); (case hh2 => walk_at "hp"); (case n2 => walk_at "nd"))
  | ((with_reducible refine' w_eqNon ?hh2 ?n2 ?_); (case hh2 => walk_at "hp"); (case n2 => walk_at "nd"))
  | ((with_reducible refine' w_slA ?hh ?_); (case hh => walk_at "hp"))
  | ((with_reducible refine' w_disp ?hz ?_); (case hz => exact sz_of (Nat.le_of_ble_eq_true rfl)))
  | ((with_reducible refine' w_tyL ?hh ?_); (case hh => walk_at "hp"))
  | (with_reducible refine' iteT ?_)
  | (with_reducible refine' iteF ?_)
  | (with_reducible refine' w_nT ?_)
  | (with_reducible refine' w_nn ?_)
  | (with_reducible refine' w_nnT ?_)
  | (with_reducible refine' w_nnR ?_)
  | (with_reducible refine' w_neG ?_)
  | (with_reducible refine' w_eqG ?_)
  | (with_reducible refine' w_neS ?_)
  | (with_reducible refine' w_eqS ?_)
  | (with_reducible refine' w_neSb ?_)
  | (with_reducible refine' w_eqSb ?_)
  | (with_reducible refine' w_deIS ?_)
  | (with_reducible refine' w_deSI ?_)
  | (with_reducible refine' w_deISn ?_)
  | ((with_reducible refine' w_deST ?he ?_); (case he => decide +kernel))
  | ((with_reducible refine' w_deSF ?he ?_); (case he => decide +kernel))
  | ((with_reducible refine' w_deSTn ?he ?_); (case he => decide +kernel))
  | ((with_reducible refine' w_deSFn ?he ?_); (case he => decide +kernel))
  | (with_reducible refine' w_nF ?_)
  | dsimp only [Bool.not_true, Bool.not_false])
local macro_rules | `(tactic| walk_at "ty") => `(tactic| first
  | exact .base (.int _) | exact .base (.str _) | exact .base (.bl _) | exact .base .non
  | ((refine' tyx_t ?hq); (case hq => walk_at "hp")) | ((refine' tyx_l ?hq); (case hq => walk_at "hp")) | ((refine' .base (.tup ?hq)); (case hq => walk_at "hp")) | assumption)
local macro_rules | `(tactic| walk_at "go") => `(tactic| repeat walk_at "go1")
local macro_rules | `(tactic| walk_at "st") => `(tactic| try dsimp only [cxOf, Cx.nox, Cx.wish])
local macro_rules | `(tactic| walk_at "kit") => `(tactic| with_reducible first | exact kit_int_int | exact kit_int_str | exact kit_int_bool | exact kit_int_tuple | exact kit_int_list | exact kit_str_int | exact kit_str_str | exact kit_str_bool | exact kit_str_tuple | exact kit_str_list | exact kit_bool_int | exact kit_bool_str | exact kit_bool_bool | exact kit_bool_tuple | exact kit_bool_list | exact kit_NoneType_int | exact kit_NoneType_str | exact kit_NoneType_bool | exact kit_NoneType_tuple | exact kit_NoneType_list | exact kit_list_int | exact kit_list_str | exact kit_list_bool | exact kit_list_tuple | exact kit_list_list | exact kit_tuple_int | exact kit_tuple_str | exact kit_tuple_bool | exact kit_tuple_tuple | exact kit_tuple_list)
local macro_rules | `(tactic| walk_at "nd") => `(tactic| first
  | assumption
  | exact Tm.nds _
  | exact Nds.nil
  | exact Nds.ofInts _
  | ((refine' Nds.cons ?na ?nb); (case na => first | exact Nds.I _ | exact Nds.L | exact Nds.A); (case nb => walk_at "nd"))
  | ((refine' Nds.app ?na ?nb); (case na => walk_at "nd"); (case nb => walk_at "nd"))
  | ((refine' Nds.rep ?na _); (case na => walk_at "nd")))
local macro_rules | `(tactic| walk_at "len") => `(tactic| first
  | exact ly_sz (by omega)
  | ((simp only [List.length_append, List.length_cons, List.length_nil, List.length_map, PyProof.Rows.lm_len_rep_flat]); exact ly_sz (by omega)))
local macro_rules | `(tactic| walk_at "go1") => `(tactic| first
  | (with_reducible refine' w_kget2 ?_)
  | (with_reducible refine' w_isRN ?_)
  | (with_reducible refine' w_isNN ?_)
  | (with_reducible refine' w_isIN ?_)
  | ((with_reducible refine' w_kg ?hd ?_); (case hd => assumption)))
local macro_rules | `(tactic| walk_at "go1") => `(tactic| first
  | ((with_reducible refine' w_extT ?hh ?hh2 ?hz ?_); (case hh => walk_at "hp"); (case hh2 => walk_at "hp"))
  | ((with_reducible refine' w_I ?hc ?_); (case hc => exact ⟨by decide, by decide, by decide⟩))
  | (with_reducible refine' w_sl ?_)
  | (with_reducible refine' w_noP ?_)
  | (with_reducible refine' w_part ?_)
  | (with_reducible refine' w_part1 ?_)
  | (with_reducible refine' w_it ?_)
  | (with_reducible refine' w_it1 ?_)
  | ((with_reducible refine' w_lenZ ?hz ?_); (case hz => omega))
  | ((with_reducible refine' w_addZb ?hz ?_); (case hz => omega))
  | ((with_reducible refine' w_addZf ?hz ?_); (case hz => omega))
  | ((with_reducible refine' w_addZa ?hz ?_); (case hz => omega))
  | ((with_reducible refine' w_inS ?hh ?_); (case hh => walk_at "hp"))
  | ((with_reducible refine' w_ixT ?hh ?ha ?_); (case hh => assumption); (case ha => exact atI_nat (by assumption))))
section
variable {P : Program} {w : World} {K : PySem.W.Frag} {mg : Str → Option Value} {base : Heap} {tk : Nat → Tok} {cl : Nat → Addr}
def spLarge (K : PySem.W.Frag) : Sp := fun vs H Q _ => ∃ (a : Addr) (t : Tm), vs = [.ref a] ∧ SqT K H a t.enc ∧ t.enc.length ≤ 10000000 ∧ ∀ H', Ex H H' → Q (.bl (!fitsV t.enc)) H'
theorem ok_large {f : Addr} {fd : FuncData} {k : Nat} (F : Fun K "_law_is_large" "_law_is_large" s_law_is_large f fd) (T : Txt w K mg tk cl) : FnOk P w K mg base CX0 (k + 1) f fd ["term"] (spLarge K) := by
  refine F.ok sc_law_is_large (fun vs H Q E h => ?_) (fun cdv A outer s H vs Q E hr h => ?_)
  · obtain ⟨a, t, rfl, _⟩ := h
    rfl
  · obtain ⟨a, t, rfl, hS, hlen, q⟩ := h
    refine ⟨_, (pss_one (ps_ret (pe_or (pe_cmpR op_gt (pe_callB call_len_seq (by rfl) T.n_len (by decide +kernel) (pa_cons (pv 0) pa_nil)) pe_int (nomark _)) (pe_one (pe_cmpR op_gt (pe_callB call_len_seq (by rfl) T.n_len (by decide +kernel) (pa_cons (pe_lc (own := [("node", 1)]) (g := gName 1) rfl sc_law_is_large.nd (pi_tup (pv 0)) (blkOk_by (N := N_law_is_large) (sc := defScope s_law_is_large) (by decide +kernel)) (fun _ _ _ _ _ => pg_name (i := 1) sc_law_is_large.nd rfl (Or.inl rfl)) (fun _ _ _ _ _ => (pts_one (PW.pt (pw_and (pt_val (pe_callB (id := "isinstance") (r := rIsi K) call_isi (by rfl) T.n_isinstance (by decide +kernel) (pa_cons (pv 1) (pa_cons (pe_bltn (v := .ty "int") (by rfl) T.n_int (by decide +kernel) rfl) pa_nil)))) (pw_and1 (pt_cmpR op_gt (pv 1) (pe_op op_pow pe_int pe_int) (nomark _))))))) (fun _ _ _ _ _ => (pv 1))) pa_nil)) pe_int (nomark _)))))), ?_⟩
    refine sl_of (σ2 := [some _, none]) rfl ?_
    walk_at "st"
    walk_at "go"
    have p6 : (10 : Int) ^ (6 : Int).toNat = 1000000 := by decide
    have sl := sizeLine_eq
    by_cases h1 : (1000 : Int) < t.enc.length
    · rw [decide_eq_true h1]
      walk_at "go"
      have bad : fitsV t.enc = false := by
        have : ¬ t.enc.length ≤ 1000 := by omega
        simp [fitsV, this]
      rw [bad] at q
      exact q H (Ex.refl H)
    · rw [decide_eq_false h1]
      have fi := fits_iff (xs := t.enc) (by omega)
      walk_at "go"
      intro d2 hd2
      refine lc_tup (K := K) (a := a) (xs := t.enc) (fun i H' => Ex H H' ∧ H' d2 = some (.lst ((t.enc.take i).filter fun v => !okV v))) ⟨Ex.new hd2, upd_same⟩ (fun i H' _ e => ex_t e.1 hS) ?_ ?_
      · rintro i v H2 hi ⟨e2, hd3⟩
        have tk1 := filter_take hi
        have ll : ((t.enc.take i).filter fun v => !okV v).length ≤ 10000000 := by
          refine Nat.le_trans (List.length_filter_le _ _) ?_
          rw [List.length_take]
          omega
        walk_at "go"
        rcases Tm.int_nat (List.mem_of_getElem? hi) with ⟨j, rfl⟩ | rfl | rfl
        · walk_at "go"
          rw [p6]
          refine w_br (fun c2 => ?_) (fun c2 => ?_)
          · walk_at "go"
            refine ⟨_, hd3, by omega, by walk_at "ex", ?_⟩
            have ok : okV (.int (j : Int)) = false := decide_eq_false (by omega)
            rw [upd_same, tk1, ok]
            rfl
          · walk_at "go"
            have ok : okV (.int (j : Int)) = true := decide_eq_true (by omega)
            rw [tk1, ok]
            simpa using ⟨e2, hd3⟩
        · walk_at "go"
          rw [tk1]
          simpa [okV] using ⟨e2, hd3⟩
        · walk_at "go"
          rw [tk1]
          simpa [okV] using ⟨e2, hd3⟩
      · rintro H2 ⟨e2, hd3⟩
        rw [List.take_length] at hd3
        walk_at "go"
        have ev : decide ((0 : Int) < ((t.enc.filter fun v => !okV v).length : Int)) = !fitsV t.enc := by
          rw [fi]
          by_cases h : (t.enc.filter fun v => !okV v).length = 0
          · rw [decide_eq_true h, decide_eq_false (by omega)]
            rfl
          · rw [decide_eq_false h, decide_eq_true (by omega)]
            rfl
        rw [ev]
        exact q H2 e2
def spFar (K : PySem.W.Frag) : Sp := fun vs H Q _ => ∃ (s a : Addr) (m : Stm) (t : Tm), vs = [.ref s, .ref a] ∧ StAt H s m ∧ SqT K H a t.enc ∧ t.enc.length ≤ 3000 ∧ ∀ H' p m' (u : Tm), Fr s H H' → StAt H' s m' → SqT K H' p u.enc → u.enc.length = t.enc.length → (fitsV t.enc = true → fitsV u.enc = true) → Q (.ref p) H'
theorem nums_off {H : Hp} {s d : Addr} {m : Stm} {ks : List Nat} (st : StAt H s m) (h : H d = some (.lst (nums ks))) : d ≠ s := fun z => by
  rw [z, st.2.1] at h
  have e := (HO.lst.inj (Option.some.inj h)).symm
  cases ks <;> simp at e
theorem ok_far {f : Addr} {fd : FuncData} (F : Fun K "_law_far" "_law_far" s_law_far f fd) (T : Txt w K mg tk cl) (D1 : Def P w K mg base CX0 1 "_law_draw" ["stream", "many"] spDraw) (D2 : Def P w K mg base CX0 2 "_law_depths" ["term"] (spDepths K)) : FnOk P w K mg base CX0 3 f fd ["stream", "term"] (spFar K) := by
  obtain ⟨f1, fd1, g_law_draw, kp_law_draw, b_law_draw, G_law_draw⟩ := D1
  obtain ⟨f2, fd2, g_law_depths, kp_law_depths, b_law_depths, G_law_depths⟩ := D2
  refine F.ok sc_law_far (fun vs H Q E h => ?_) (fun cdv A outer s H vs Q E hr h => ?_)
  · obtain ⟨_, _, _, _, rfl, _⟩ := h
    rfl
  · obtain ⟨s1, a, m, t, rfl, st, hS, hlen, q⟩ := h
    refine ⟨_, (pss_cons (ps_set (i := 2) sc_law_far.nd rfl (.inr rfl) (pe_call G_law_depths (hr.mono (by first | decide | omega)) (by rfl) g_law_depths kp_law_depths b_law_depths .nil pass0 (pa_cons (pv 1) pa_nil))) (pss_cons (ps_setLc (i := 3) (own := [("k", 4)]) (g := gName 4) rfl sc_law_far.nd rfl rfl (sw_true rfl rfl rfl (by decide +kernel)) (pi_range1 (by rfl) T.n_range (pa_cons (pe_callB call_len_seq (by rfl) T.n_len (by decide +kernel) (pa_cons (pv 1) pa_nil)) pa_nil)) (blkOk_by (N := N_law_far) (sc := defScope s_law_far) (by decide +kernel)) (fun _ _ _ _ _ => pg_name (i := 4) sc_law_far.nd rfl (Or.inl rfl)) (fun _ _ _ _ _ => (pts_one (PW.pt (pw_and (pt_val (pe_callB (id := "isinstance") (r := rIsi K) call_isi (by rfl) T.n_isinstance (by decide +kernel) (pa_cons (pe_ix (ix_tupK (K := K) (by rfl)) (pv 1) (pv 4) (fun _ _ => rfl)) (pa_cons (pe_bltn (v := .ty "int") (by rfl) T.n_int (by decide +kernel) rfl) pa_nil)))) (pw_and1 (pt_cmpR op_ge (pe_ix (ix_tupK (K := K) (by rfl)) (pv 1) (pv 4) (fun _ _ => rfl)) (pe_ix (ix_listK (K := K) (by rfl)) (pv 2) (pv 4) (fun _ _ => rfl)) (nomark _))))))) (fun _ _ _ _ _ => (pv 4))) (pss_cons (ps_if (PW.pt (pw_or (pt_cmpR op_eq (pe_callB call_len_seq (by rfl) T.n_len (by decide +kernel) (pa_cons (pv 3) pa_nil)) pe_int (nomark _)) (pw_or1 (pt_cmpR op_gt (pe_call G_law_draw (hr.mono (by first | decide | omega)) (by rfl) g_law_draw kp_law_draw b_law_draw .nil pass0 (pa_cons (pv 0) (pa_cons pe_int pa_nil))) pe_int (nomark _))))) (pss_one (ps_ret (pv 1))) pss_nil) (pss_cons (ps_set (i := 5) sc_law_far.nd rfl (.inl rfl) (pe_ix ix_list (pv 3) (pe_call G_law_draw (hr.mono (by first | decide | omega)) (by rfl) g_law_draw kp_law_draw b_law_draw .nil pass0 (pa_cons (pv 0) (pa_cons (pe_callB call_len_seq (by rfl) T.n_len (by decide +kernel) (pa_cons (pv 3) pa_nil)) pa_nil))) (fun _ _ => rfl))) (pss_one (ps_ret (pe_op op_catA (pe_op op_catA (pe_slice sl_tupA (pv 1) po_none (po_some (pv 5))) (pe_tup (pa_cons (pe_op op_sub (pe_op op_pow pe_int pe_int) (pe_call G_law_draw (hr.mono (by first | decide | omega)) (by rfl) g_law_draw kp_law_draw b_law_draw .nil pass0 (pa_cons (pv 0) (pa_cons pe_int pa_nil)))) pa_nil))) (pe_slice sl_tupA (pv 1) (po_some (pe_op op_add (pv 5) pe_int)) po_none)))))))), ?_⟩
    refine sl_of (σ2 := [some _, some _, none, none, none, none]) rfl ?_
    walk_at "st"
    walk_at "go"
    have p6 : (10 : Int) ^ (6 : Int).toNat = 1000000 := by decide
    refine ⟨a, t, rfl, hS, by omega, fun H1 dl e1 hdl hd1 => ?_⟩
    have hS1 := ex_t e1 hS
    have st1 := st.ex e1
    walk_at "go"
    intro nl hnl
    have st2 := st1.new hnl (o := .lst [])
    have hdn : dl ≠ nl := ne_of_none hd1 hnl
    refine lc_range (lo := 0) (n := (t.enc.length : Int).toNat) (fun i H' => ∃ ks : List Nat, Ex H1 H' ∧ H' nl = some (.lst (nums ks)) ∧ ks.length ≤ i ∧ ∀ k ∈ ks, ∃ n : Int, t.enc[k]? = some (.int n)) ⟨[], Ex.new hnl, upd_same, Nat.le_refl _, by simp⟩ ?_ ?_
    · rintro i H2 hi ⟨ks, e2, hn2, hkl, hk⟩
      have hil : i < t.enc.length := by omega
      obtain ⟨x, hx⟩ : ∃ x, t.enc[i]? = some x := ⟨_, List.getElem?_eq_getElem hil⟩
      obtain ⟨d, hd⟩ : ∃ d, (t.deps 0)[i]? = some d := ⟨_, List.getElem?_eq_getElem (by rw [t.deps_len]; exact hil)⟩
      have hdn2 : (nums (t.deps 0))[i]? = some (.int (d : Int)) := by rw [List.getElem?_map, hd]; rfl
      have hS2 := ex_t e2 hS1
      have hd2 := e2 _ _ hd1
      have nll : (nums ks).length = ks.length := List.length_map _
      walk_at "go"
      rcases Tm.int_nat (List.mem_of_getElem? hx) with ⟨j, rfl⟩ | rfl | rfl
      · walk_at "go"
        refine w_br (fun c1 => ?_) (fun c1 => ?_)
        · walk_at "go"
          refine ⟨_, hn2, ly_lt (by omega), ks ++ [i], ex_upd e2 hnl, ?_, by simp; omega, ?_⟩
          · rw [upd_same]
            simp [nums]
          · intro k hk2
            rcases List.mem_append.mp hk2 with h | h
            · exact hk k h
            · rw [List.mem_singleton.mp h]
              exact ⟨_, hx⟩
        · walk_at "go"
          exact ⟨ks, e2, hn2, by omega, hk⟩
      · walk_at "go"
        exact ⟨ks, e2, hn2, by omega, hk⟩
      · walk_at "go"
        exact ⟨ks, e2, hn2, by omega, hk⟩
    · rintro H2 ⟨ks, e2, hn2, hkl, hk⟩
      have hS2 := ex_t e2 hS1
      have st3 := st1.ex e2
      have nll : (nums ks).length = ks.length := List.length_map _
      have nn : nl ≠ s1 := nums_off st3 hn2
      have fr3 : Fr s1 H H2 := Fr.ex (e1.trans e2)
      walk_at "go"
      refine w_brI (fun c1 => ?_) (fun c1 => ?_)
      · walk_at "go"
        exact q H2 a m t fr3 st3 hS2 rfl id
      · walk_at "go"
        refine ⟨s1, m, 8, rfl, st3, by decide, by decide, fun H3 fr4 st4 => ?_⟩
        have hS3 := fr_t fr4 st3.2.1 hS2
        have hn3 := fr4 _ _ nn hn2
        have fr4 := fr3.trans fr4
        generalize m.next 8 = m4 at *
        walk_at "go"
        refine w_br (fun c2 => ?_) (fun c2 => ?_)
        · walk_at "go"
          exact q H3 a m4 t fr4 st4 hS3 rfl id
        · walk_at "go"
          refine ⟨s1, m4, (nums ks).length, rfl, st4, by omega, by omega, fun H4 fr5 st5 => ?_⟩
          have v5 := m4.val_lt (n := ((nums ks).length : Int)) (by omega)
          have hS4 := fr_t fr5 st4.2.1 hS3
          have hn4 := fr5 _ _ nn hn3
          have fr5 := fr4.trans fr5
          generalize m4.val ((nums ks).length : Int) = n5 at *
          generalize m4.next ((nums ks).length : Int) = m5 at *
          obtain ⟨j, hj⟩ : ∃ j, ks[n5.toNat]? = some j := ⟨_, List.getElem?_eq_getElem (by omega)⟩
          obtain ⟨n, hjn⟩ := hk j (List.mem_of_getElem? hj)
          have hjl : j < t.enc.length := (List.getElem?_eq_some_iff.mp hjn).1
          have hj2 : (nums ks)[n5.toNat]? = some (.int (j : Int)) := by rw [List.getElem?_map, hj]; rfl
          refine w_ixL (SqL.of hn4) (at_of (j := n5.toNat) (by omega) hj2) ?_
          walk_at "go"
          intro x1 H5 e5 hx1
          rw [cut_lo] at hx1
          have hS5 := ex_t e5 hS4
          have st6 := st5.ex e5
          have fr6 := fr5.trans (Fr.ex e5)
          walk_at "go"
          refine ⟨s1, m5, 3, rfl, st6, by decide, by decide, fun H6 fr7 st7 => ?_⟩
          have v7 := m5.val_lt (n := 3) (by decide)
          have hS6 := fr_t fr7 st6.2.1 hS5
          have hx1 := fr_t fr7 st6.2.1 hx1
          have fr7 := fr6.trans fr7
          generalize m5.val 3 = n7 at *
          generalize m5.next 3 = m7 at *
          walk_at "go"
          intro x2 hx2
          have hS7 := ex_t (Ex.new hx2 (o := .tup [V.int ((10 : Int) ^ (6 : Int).toNat - n7)])) hS6
          have hx1 := ex_t (Ex.new hx2 (o := .tup [V.int ((10 : Int) ^ (6 : Int).toNat - n7)])) hx1
          have st8 := st7.new hx2 (o := .tup [V.int ((10 : Int) ^ (6 : Int).toNat - n7)])
          have hx2b : SqT K (upd H6 x2 (.tup [V.int ((10 : Int) ^ (6 : Int).toNat - n7)])) x2 [V.int (1000000 - n7)] := SqT.of (by rw [upd_same, p6])
          have fr8 := fr7.trans (Fr.ex (Ex.new hx2 (o := .tup [V.int ((10 : Int) ^ (6 : Int).toNat - n7)])))
          generalize upd H6 x2 (.tup [V.int ((10 : Int) ^ (6 : Int).toNat - n7)]) = H7 at *
          have lt1 : (t.enc.take j).length = j := by rw [List.length_take]; omega
          refine w_catA hx1 hx2b (ly_sz (by rw [lt1]; simp; omega)) fun x3 H8 e8 hx3 => ?_
          have hS8 := ex_t e8 hS7
          walk_at "go"
          intro x4 H9 e9 hx4
          have hx3 := ex_t e9 hx3
          have c4 : cutV t.enc (some ((j : Int) + 1)) none = t.enc.drop (j + 1) := cut_hi t.enc (j + 1)
          rw [c4] at hx4
          walk_at "go"
          refine w_catA hx3 hx4 (ly_sz (by rw [List.length_append, lt1, List.length_drop]; simp; omega)) fun x5 H10 e10 hx5 => ?_
          obtain ⟨u, hu⟩ := t.var_set (1000000 - n7).toNat hjn
          have hc : (((1000000 - n7).toNat : Nat) : Int) = 1000000 - n7 := Int.toNat_of_nonneg (by omega)
          rw [hc] at hu
          rw [← hu] at hx5
          walk_at "go"
          refine q H10 x5 m7 u (fr8.trans (Fr.ex (e8.trans (e9.trans e10)))) (st8.ex (e8.trans (e9.trans e10))) hx5 ?_ fun hf => ?_
          · rw [hu]
            simp only [List.length_append, lt1, List.length_drop, List.length_cons, List.length_nil]
            omega
          · unfold fitsV at hf ⊢
            rw [Bool.and_eq_true] at hf
            have h1 := of_decide_eq_true hf.1
            have ht := List.all_eq_true.mp hf.2
            rw [hu, List.all_append, List.all_append, List.all_eq_true.mpr (fun x hx => ht x (List.mem_of_mem_take hx)), List.all_eq_true.mpr (fun x hx => ht x (List.mem_of_mem_drop hx))]
            have ok1 : okV (.int (1000000 - n7)) = true := decide_eq_true (by omega)
            simp only [List.length_append, lt1, List.length_drop, List.length_cons, List.length_nil, List.all_cons, List.all_nil, ok1, Bool.and_true]
            exact decide_eq_true (by omega)
end
end Ly
set_option Elab.async false
set_option linter.all false
set_option maxRecDepth 100000
set_option maxHeartbeats 8000000
namespace Ly
open PySem PySem.Spec PyProof.Rows L2 Evl
local macro_rules | `(tactic| walk_at "ne") => `(tactic| first
  | assumption
  | ((refine' Ne.symm ?hq); (case hq => assumption))
  | ((refine' ne_of_none ?nh1 ?nh2); (case nh2 => assumption); (case nh1 => walk_at "hp"))
  | ((refine' Ne.symm (ne_of_none ?nh1 ?nh2)); (case nh2 => assumption); (case nh1 => walk_at "hp")))
local macro_rules | `(tactic| walk_at "hp") => `(tactic| first
  | assumption
  | exact upd_same
  | ((refine' SqL.of ?hq); (case hq => walk_at "hp"))
  | ((refine' SqT.of ?hq); (case hq => walk_at "hp"))
  | ((refine' (upd_ne ?hne).trans ?hrest); (case hne => walk_at "ne"); (case hrest => walk_at "hp"))
  | ((refine' ly_at ?hex ?hh); (case hex => assumption); (case hh => walk_at "hp"))
  | ((refine' ly_atF ?hex ?hnn ?hh); (case hex => assumption); (case hh => walk_at "hp"); (case hnn => walk_at "ne"))
  | ((refine' ex_t ?hex ?hh); (case hh => assumption); (case hex => walk_at "ex"))
  | ((refine' ex_l ?hex ?hh); (case hh => assumption); (case hex => walk_at "ex")))
local macro_rules | `(tactic| walk_at "ex") => `(tactic| first
  | assumption
  | exact Ex.refl _
  | ((refine' ex_new ?xa ?xb); (case xb => assumption); (case xa => walk_at "ex"))
  | ((refine' ex_upd ?xa ?xb); (case xb => walk_at "free"); (case xa => walk_at "ex"))
  | ((refine' Ex.trans ?xa ?xb); (case xb => assumption); (case xa => walk_at "ex")))
local macro_rules | `(tactic| walk_at "free") => `(tactic| first
  | assumption
  | ((refine' fresh_back ?xa ?xb); (case xb => assumption); (case xa => walk_at "ex")))
local macro_rules | `(tactic| walk_at "fr") => `(tactic| first
  | assumption
  | exact Fr.refl _ _
  | ((refine' Fr.own ?hq); (case hq => walk_at "fr"))
  | ((refine' Fr.new ?xa ?xb); (case xb => assumption); (case xa => walk_at "fr"))
  | ((refine' Fr.mut ?xa ?xb); (case xb => assumption); (case xa => walk_at "fr"))
  | ((refine' Fr.trans ?xa ?xb); (case xb => assumption); (case xa => walk_at "fr"))
  | ((refine' Fr.trans ?xa (Fr.ex ?xb)); (case xb => assumption); (case xa => walk_at "fr")))
local macro_rules | `(tactic| walk_at "go1") => `(tactic| first
  | (with_reducible refine' w_seq ?_)
  | (with_reducible refine' w_asg ?_)
  | (with_reducible refine' w_ret ?_)
  | (with_reducible refine' w_drop ?_)
  | (with_reducible refine' w_if ?_)
  | (with_reducible refine' w_next ?_)
  | (with_reducible refine' w_name ?_)
  | (with_reducible refine' w_sub ?_)
  | ((with_reducible refine' w_var ?hv ?_); (case hv => exact rfl))
  | (with_reducible refine' w_c ?_)
  | (with_reducible refine' w_op ?_)
  | (with_reducible refine' w_un ?_)
  | (with_reducible refine' w_ch ?_)
  | (with_reducible refine' w_I0 ?_)
  | ((with_reducible refine' w_I ?hc ?_); (case hc => first | (exact ly_mulL (by decide) (by decide)) | (exact ly_mulR (by decide) (by decide)) | (exact ly_mulL (by omega) (by omega)) | (show (_ : Int) ≠ 0; decide) | (show (_ : Int) ≠ 0; omega) | (exact ⟨by decide, by decide⟩) | (exact ⟨by omega, by omega⟩)))
  | (with_reducible refine' w_U ?_)
  | ((with_reducible refine' w_eq ?hs ?_); (case hs => exact rfl))
  | ((with_reducible refine' w_ne ?hs ?_); (case hs => exact rfl))
  | (with_reducible refine' w_isB ?_)
  | (with_reducible refine' w_notB ?_)
  | (with_reducible refine' w_nil ?_)
  | (with_reducible refine' w_cons ?_)
  | (with_reducible refine' w_tup ?_)
  | (with_reducible refine' w_lst ?_)
  | (with_reducible refine' w_cb ?_)
  | (with_reducible refine' w_call ?_)
  | (with_reducible refine' w_bm ?_)
  | (with_reducible refine' w_bm0 ?_)
  | ((with_reducible refine' w_app ?hh ?hz ?_); (case hh => walk_at "hp"); (case hz => first | exact ly_lt (by omega) | exact ly_lt (by simp only [List.length_append, List.length_map, List.length_cons, List.length_nil]; omega)))
  | ((with_reducible refine' w_popA ?hh ?_); (case hh => walk_at "hp"))
  | ((with_reducible refine' w_ext ?hh ?hh2 ?hz ?_); (case hh => walk_at "hp"); (case hh2 => walk_at "hp"))
  | ((with_reducible refine' w_ixL ?hh ?ha ?_); (case hh => walk_at "hp"); (case ha => first | exact rfl | exact at_map (by omega) | exact atI_last _ _ | ((refine' at_of ?ae ?ah); (case ah => assumption); (case ae => omega))))
  | ((with_reducible refine' w_ixT ?hh ?ha ?_); (case hh => walk_at "hp"); (case ha => first | exact rfl | exact at_map (by omega) | exact atI_last _ _ | ((refine' at_of ?ae ?ah); (case ah => assumption); (case ae => omega))))
  | ((with_reducible refine' w_cat ?hh ?hh2 ?hz ?_); (case hh => walk_at "hp"); (case hh2 => walk_at "hp"))
  | ((with_reducible refine' w_setL ?hh ?ha ?_); (case hh => walk_at "hp"); (case ha => exact rfl))
  | (with_reducible refine' w_test ?_)
  | (with_reducible refine' w_tB ?_)
  | (with_reducible refine' w_bl ?_)
  | (with_reducible refine' w_and ?_)
  | (with_reducible refine' w_or ?_)
  | (with_reducible refine' w_not ?_)
  | (with_reducible refine' w_andV ?_)
  | (with_reducible refine' w_orV ?_)
  | (with_reducible refine' w_notV ?_)
  | (with_reducible refine' w_ifE ?_)
  | (with_reducible refine' w_for ?_)
  | ((with_reducible refine' w_nin ?hh ?_); (case hh => walk_at "hp"))
  | ((with_reducible refine' w_sorted ?hh ?_); (case hh => walk_at "hp"))
  | (with_reducible refine' w_tsadd ?_)
  | ((with_reducible refine' w_tsadd1 ?hh ?_); (case hh => walk_at "hp"))
  | ((with_reducible refine' w_sadd ?hh ?hr ?_); (case hh => walk_at "hp"); (case hr => omega))
  | (with_reducible refine' w_iZ ?_)
  | ((with_reducible refine' w_iZ1 ?hh ?hh2 ?_); (case hh => walk_at "hp"); (case hh2 => walk_at "hp"))
  | (with_reducible refine' w_iS ?_)
  | (with_reducible refine' w_iS1 ?_)
  | ((with_reducible refine' w_gtup ?hh ?hn ?_); (case hh => walk_at "hp"); (case hn => exact rfl))
  | (with_reducible refine' w_gcons ?_)
  | (with_reducible refine' w_gnil ?_)
  | (with_reducible refine' w_js ?_)
  | (with_reducible refine' w_jsn ?_)
  | ((with_reducible refine' w_js1 ?hl ?_); (case hl => decide +kernel))
  | (with_reducible refine' w_fmt ?_)
  | ((with_reducible refine' w_fmt1 ?hl ?_); (case hl => decide +kernel))
  | (with_reducible refine' w_callS ?_)
  | ((with_reducible refine' w_truL ?hh ?_); (case hh => walk_at "hp"))
  | (with_reducible refine' w_lc ?_)
  | (with_reducible refine' w_yes ?_)
  | ((with_reducible refine' w_wipe ?he ?_); (case he => exact rfl))
  | (with_reducible refine' w_iL ?_)
  | (with_reducible refine' w_iT ?_)
  | (with_reducible refine' w_iR ?_)
  | ((with_reducible refine' w_iL1 ?hh ?_); (case hh => walk_at "hp"))
  | ((with_reducible refine' w_iT1 ?hh ?_); (case hh => walk_at "hp"))
  | ((with_reducible refine' w_iR1 ?h1 ?h2 ?_); (case h1 => omega); (case h2 => omega))
  | ((with_reducible refine' w_aug ?hv ?_); (case hv => exact rfl))
  | (with_reducible refine' w_ipI ?_)
  | ((with_reducible refine' w_isi ?hy ?hk ?_); (case hy => walk_at "ty"); (case hk => walk_at "kit"))
  | ((with_reducible refine' w_int ?_))
  | ((with_reducible refine' w_intB ?_))
  | ((with_reducible refine' w_abs ?_))
  | ((with_reducible refine' w_lenL ?hh ?_); (case hh => walk_at "hp"))
  | ((with_reducible refine' w_lenT ?hh ?_); (case hh => walk_at "hp"))
  | ((with_reducible refine' w_tupL ?hh ?_); (case hh => walk_at "hp"))
  | ((with_reducible refine' w_tupT ?hh ?_); (case hh => walk_at "hp"))
  | ((with_reducible refine' w_catA ?hh ?hh2 ?hz ?_); (case hh => walk_at "hp"); (case hh2 => walk_at "hp"); (case hz => walk_at "len"))
  | ((with_reducible refine' w_repB ?hh ?hne ?h2 ?h3 ?hz ?_); (case hh => walk_at "hp"); (case hne => simp); (case h2 => omega); (case h3 => omega); (case hz => exact Nat.le_of_ble_eq_true rfl))
  | ((with_reducible refine' w_eqN ?hh ?hh2 ?n1 ?n2 ?_); (case hh => walk_at "hp"); (case hh2 => walk_at "hp"); (case n1 => walk_at "nd"); (case n2 => walk_at "nd"))
  | ((with_reducible refine' w_neN ?hh ?hh2 ?n1 ?n2 ?_); (case hh => walk_at "hp"); (case hh2 => walk_at "hp"); (case n1 => walk_at "nd"); (case n2 => walk_at "nd"))
  | ((with_reducible refine' w_eqL ?hh ?hh2 ?n1 ?n2 ?_); (case hh => walk_at "hp"); (case hh2 => walk_at "hp"); (case n1 => walk_at "nd"); (case n2 => walk_at "nd"))
  | ((with_reducible refine' w_neL ?hh ?hh2 ?n1 ?n2 ?_); (case hh => walk_at "hp"); (case hh2 => walk_at "hp"); (case n1 => walk_at "nd"); (case n2 => walk_at "nd"))
  | ((with_reducible refine' w_neNon ?hh2 ?n2 ?_); (case hh2 => walk_at "hp"); (case n2 => walk_at "nd"))
  | ((with_reducible refine' w_eqNon ?hh2 ?n2 ?_); (case hh2 => walk_at "hp"); (case n2 => walk_at "nd"))
  | ((with_reducible refine' w_slA ?hh ?_); (case hh => walk_at "hp"))
  | ((with_reducible refine' w_disp ?hz ?_); (case hz => exact sz_of (Nat.le_of_ble_eq_true rfl)))
  | ((with_reducible refine' w_tyL ?hh ?_); (case hh => walk_at "hp"))
  | (with_reducible refine' iteT ?_)
  | (with_reducible refine' iteF ?_)
  | (with_reducible refine' w_nT ?_)
  | (with_reducible refine' w_nn ?_)
  | (with_reducible refine' w_nnT ?_)
  | (with_reducible refine' w_nnR ?_)
  | (with_reducible refine' w_neG ?_)
  | (with_reducible refine' w_eqG ?_)
  | (with_reducible refine' w_neS ?_)
  | (with_reducible refine' w_eqS ?_)
  | (with_reducible refine' w_neSb ?_)
  | (with_reducible refine' w_eqSb ?_)
  | (with_reducible refine' w_deIS ?_)
  | (with_reducible refine' w_deSI ?_)
  | (with_reducible refine' w_deISn ?_)
  | ((with_reducible refine' w_deST ?he ?_); (case he => decide +kernel))
  | ((with_reducible refine' w_deSF ?he ?_); (case he => decide +kernel))
  | ((with_reducible refine' w_deSTn ?he ?_); (case he => decide +kernel))
  | ((with_reducible refine' w_deSFn ?he ?_); (case he => decide +kernel))
  | (with_reducible refine' w_nF ?_)
  | dsimp only [Bool.not_true, Bool.not_false])
local macro_rules | `(tactic| walk_at "ty") => `(tactic| first
  | exact .base (.int _) | exact .base (.str _) | exact .base (.bl _) | exact .base .non
  | ((refine' tyx_t ?hq); (case hq => walk_at "hp")) | ((refine' tyx_l ?hq); (case hq => walk_at "hp")) | ((refine' .base (.tup ?hq)); (case hq => walk_at "hp")) | assumption)
local macro_rules | `(tactic| walk_at "go") => `(tactic| repeat walk_at "go1")
local macro_rules | `(tactic| walk_at "st") => `(tactic| try dsimp only [cxOf, Cx.nox, Cx.wish])
local macro_rules | `(tactic| walk_at "kit") => `(tactic| with_reducible first | exact kit_int_int | exact kit_int_str | exact kit_int_bool | exact kit_int_tuple | exact kit_int_list | exact kit_str_int | exact kit_str_str | exact kit_str_bool | exact kit_str_tuple | exact kit_str_list | exact kit_bool_int | exact kit_bool_str | exact kit_bool_bool | exact kit_bool_tuple | exact kit_bool_list | exact kit_NoneType_int | exact kit_NoneType_str | exact kit_NoneType_bool | exact kit_NoneType_tuple | exact kit_NoneType_list | exact kit_list_int | exact kit_list_str | exact kit_list_bool | exact kit_list_tuple | exact kit_list_list | exact kit_tuple_int | exact kit_tuple_str | exact kit_tuple_bool | exact kit_tuple_tuple | exact kit_tuple_list)
local macro_rules | `(tactic| walk_at "nd") => `(tactic| first
  | assumption
  | exact Tm.nds _
  | exact Nds.nil
  | exact Nds.ofInts _
  | ((refine' Nds.cons ?na ?nb); (case na => first | exact Nds.I _ | exact Nds.L | exact Nds.A); (case nb => walk_at "nd"))
  | ((refine' Nds.app ?na ?nb); (case na => walk_at "nd"); (case nb => walk_at "nd"))
  | ((refine' Nds.rep ?na _); (case na => walk_at "nd")))
local macro_rules | `(tactic| walk_at "len") => `(tactic| first
  | exact ly_sz (by omega)
  | ((simp only [List.length_append, List.length_cons, List.length_nil, List.length_map, PyProof.Rows.lm_len_rep_flat]); exact ly_sz (by omega)))
local macro_rules | `(tactic| walk_at "go1") => `(tactic| first
  | (with_reducible refine' w_kget2 ?_)
  | (with_reducible refine' w_isRN ?_)
  | (with_reducible refine' w_isNN ?_)
  | (with_reducible refine' w_isIN ?_)
  | ((with_reducible refine' w_kg ?hd ?_); (case hd => assumption)))

section
variable {P : Program} {w : World} {K : PySem.W.Frag} {mg : Str → Option Value} {base : Heap} {tk : Nat → Tok} {cl : Nat → Addr}
def spSize (C : Addr) : Sp := fun vs H Q E => ∃ n : Int, vs = [.int n] ∧ (n ≤ 1000 → Q .non H) ∧ (¬ n ≤ 1000 → E (.ref C) none H)
theorem ok_check_size {f : Addr} {fd : FuncData} {k : Nat} (F : Fun K "check_size" "check_size" s_check_size f fd) (T : Txt w K mg tk cl) : FnOk P w K mg base (L2.CX P w) (k + 1) f fd ["size"] (spSize (cl 1)) := by
  refine F.okX sc_check_size (fun vs H Q E h => ?_) (fun cdv A outer s H vs Q E hr h => ?_)
  · obtain ⟨n, rfl, _⟩ := h
    rfl
  · obtain ⟨n, rfl, q, x⟩ := h
    refine ⟨_, (pss_one (ps_if (pt_cmpR op_gt (pv 0) (pe_glob (v := .int 1000) rfl T.g_MOST_NODES ⟨_, rfl⟩) (nomark _)) (pss_one (ps_raise rfl (takes_of rfl rfl rfl rfl) (SkE.pmk_own1 PySem.F.excBase_ValueError T.x_TooLarge T.g_TooLarge T.k_TooLarge (raises_own T.b_TooLarge T.t_TooLarge) rfl (pe_joined (.cons pe_str (.cons (pe_fmt (pe_glob (v := .int 1000) rfl T.g_MOST_NODES ⟨_, rfl⟩)) (.cons pe_str .nil))))))) pss_nil)), ?_⟩
    refine sl_of (σ2 := [some _]) rfl ?_
    walk_at "st"
    walk_at "go"
    refine w_br (fun h1 => ?_) (fun h1 => ?_)
    · walk_at "go"
      exact x (by omega)
    · walk_at "go"
      exact q (by omega)
def spChecked (K : PySem.W.Frag) (C : Addr) : Sp := fun vs H Q E => ∃ a xs, vs = [.ref a] ∧ SqT K H a xs ∧ Flat xs ∧ (fitsV xs = true → Q (.ref a) H) ∧ (fitsV xs = false → E (.ref C) none H)
theorem ok_checked {f : Addr} {fd : FuncData} (F : Fun K "checked" "checked" s_checked f fd) (T : Txt w K mg tk cl)
    (D1 : Def P w K mg base (L2.CX P w) 1 "check_size" ["size"] (spSize (cl 1))) : FnOk P w K mg base (L2.CX P w) 2 f fd ["term"] (spChecked K (cl 1)) := by
  obtain ⟨f1, fd1, g_check_size, kp_check_size, b_check_size, G_check_size⟩ := D1
  refine F.okX sc_checked (fun vs H Q E h => ?_) (fun cdv A outer s H vs Q E hr h => ?_)
  · obtain ⟨a, xs, rfl, _⟩ := h
    rfl
  · obtain ⟨a, xs, rfl, hS, hf, q, x⟩ := h
    refine ⟨_, (pss_cons (ps_expr (pe_call G_check_size (hr.mono (by first | decide | omega)) (by rfl) g_check_size kp_check_size b_check_size .nil (passes_call (takes_of rfl rfl rfl rfl) (fun _ _ _ _ h => h)) (pa_cons (pe_callB call_len_seq (by rfl) T.n_len (by decide +kernel) (pa_cons (pv 0) pa_nil)) pa_nil))) (pss_cons (ps_for (passes_of rfl) rfl (pi_tup (pv 0)) (pg_name (i := 1) sc_checked.nd rfl (.inl rfl)) (pss_one (ps_if (PW.pt (pw_and (pt_val (pe_callB call_isi (by rfl) T.n_isinstance (by decide +kernel) (pa_cons (pv 1) (pa_cons (pe_bltn (v := .ty "int") (by rfl) T.n_int (by decide +kernel) rfl) pa_nil)))) (pw_and1 (pt_cmpR op_gt (pv 1) (pe_glob (v := .int 1000000) rfl T.g_MOST_VARIABLE ⟨_, rfl⟩) (nomark _))))) (pss_one (ps_raise rfl (takes_of rfl rfl rfl rfl) (SkE.pmk_own1 PySem.F.excBase_ValueError T.x_TooLarge T.g_TooLarge T.k_TooLarge (raises_own T.b_TooLarge T.t_TooLarge) rfl (pe_joined (.cons pe_str (.cons (pe_fmt (pe_glob (v := .int 1000000) rfl T.g_MOST_VARIABLE ⟨_, rfl⟩)) .nil)))))) pss_nil))) (pss_one (ps_ret (pv 0))))), ?_⟩
    refine sl_of (σ2 := [some _, none]) rfl ?_
    walk_at "st"
    walk_at "go"
    refine ⟨_, rfl, fun h1 => ?_, fun h1 => x (by simp [fitsV]; omega)⟩
    have h2 : xs.length ≤ 1000 := by omega
    walk_at "go"
    refine for_tup (K := K) (a := a) (xs := xs) (fun i σ H' => H' = H ∧ ∃ y, σ = [some (.ref a), y] ∧ (xs.take i).all okV = true) ⟨rfl, none, rfl, rfl⟩ (fun i σ H' _ e => by rw [e.1]; exact hS) ?_ ?_
    · rintro i v σ H' hi ⟨rfl, y, rfl, hall⟩
      have hv : v ∈ xs := List.mem_of_getElem? hi
      have bad : okV v = false → fitsV xs = false := fun e => by
        have : xs.all okV = false := List.all_eq_false.mpr ⟨v, hv, by simp [e]⟩
        simp [fitsV, this]
      have good : okV v = true → (xs.take (i + 1)).all okV = true := fun e => by
        rw [List.take_add_one, hi, List.all_append, hall]
        simp [e]
      rcases hf v hv with ⟨j, rfl⟩ | ⟨z, rfl⟩
      · walk_at "go"
        refine w_br (fun h3 => ?_) (fun h3 => ?_)
        · walk_at "go"
          exact x (bad (by simp [okV]; omega))
        · walk_at "go"
          exact ⟨rfl, _, rfl, good (by simp [okV]; omega)⟩
      · walk_at "go"
        exact ⟨rfl, _, rfl, good rfl⟩
    · rintro σ H' ⟨rfl, y, rfl, hall⟩
      walk_at "go"
      rw [List.take_length] at hall
      exact q (by simp [fitsV, h2]; simpa using hall)
theorem ok_depths {f : Addr} {fd : FuncData} {k : Nat} (F : Fun K "depths" "depths" s_depths f fd) (T : Txt w K mg tk cl) : FnOk P w K mg base CX0 (k + 1) f fd ["term"] (spDepths K) := by
  refine F.ok sc_depths (fun vs H Q E h => ?_) (fun cdv A outer s H vs Q E hr h => ?_)
  · obtain ⟨a, t, rfl, _⟩ := h
    rfl
  · obtain ⟨a, t, rfl, hS, hlen, q⟩ := h
    refine ⟨_, (pss_cons (ps_set (i := 1) sc_depths.nd rfl (.inl rfl) (pe_lst pa_nil)) (pss_cons (ps_set (i := 2) sc_depths.nd rfl (.inl rfl) (pe_lst (pa_cons pe_int pa_nil))) (pss_cons (ps_for PassesOwn.never rfl (pi_tup (pv 0)) (pg_name (i := 3) sc_depths.nd rfl (.inl rfl)) (pss_cons (ps_set (i := 4) sc_depths.nd rfl (.inl rfl) (pe_bm0 PySem.F.plainAttrs_list PySem.F.slot_list_pop PySem.F.type_list_pop mt_pop (pv 2))) (pss_cons (ps_expr (pe_bm PySem.F.plainAttrs_list PySem.F.slot_list_append PySem.F.type_list_append mt_append (pv 1) (pa_cons (pv 4) pa_nil))) (pss_one (ps_if (pt_cmpR op_eq (pv 3) pe_str (nomark _)) (pss_one (ps_expr (pe_bm PySem.F.plainAttrs_list PySem.F.slot_list_append PySem.F.type_list_append mt_append (pv 2) (pa_cons (pe_op op_add (pv 4) pe_int) pa_nil)))) (pss_one (ps_if (pt_cmpR op_eq (pv 3) pe_str (nomark _)) (pss_cons (ps_expr (pe_bm PySem.F.plainAttrs_list PySem.F.slot_list_append PySem.F.type_list_append mt_append (pv 2) (pa_cons (pv 4) pa_nil))) (pss_one (ps_expr (pe_bm PySem.F.plainAttrs_list PySem.F.slot_list_append PySem.F.type_list_append mt_append (pv 2) (pa_cons (pv 4) pa_nil))))) pss_nil))))))) (pss_one (ps_ret (pv 1)))))), ?_⟩
    refine sl_of (σ2 := [some _, none, none, none, none]) rfl ?_
    walk_at "st"
    walk_at "go"
    intro fl hfl
    walk_at "go"
    intro wl hwl
    have hwf : wl ≠ fl := (ne_of_none upd_same hwl).symm
    have hwl0 : H wl = none := by
      rw [upd_ne hwf] at hwl
      exact hwl
    walk_at "go"
    refine for_tup (K := K) (a := a) (xs := t.enc) (fun i σ H' => ∃ found ds y1 y2, σ = [some (.ref a), some (.ref fl), some (.ref wl), y1, y2] ∧ Ex H H' ∧ H' fl = some (.lst (nums found)) ∧ H' wl = some (.lst (nums ds)) ∧ DInv t i found ds ∧ found.length = i ∧ ds.length ≤ i + 1)
      ⟨[], [0], none, none, rfl, by walk_at "ex", by walk_at "hp", upd_same, DInv.start t, rfl, by simp⟩ (fun i σ H' _ h => by obtain ⟨_, _, _, _, _, e, _⟩ := h; exact ex_t e hS) ?_ ?_
    · rintro i v σ H1 hi ⟨found, ds, y1, y2, rfl, e1, hf1, hw1, hinv, hfl1, hds1⟩
      have hlt : i < t.enc.length := (List.getElem?_eq_some_iff.mp hi).1
      obtain ⟨r, d, rfl, hstep⟩ := hinv.step hi
      have hw1b : H1 wl = some (.lst (nums r ++ [V.int d])) := by rw [hw1]; simp [nums]
      have el : (nums found).length = found.length := List.length_map _
      have el2 : (nums r).length = r.length := List.length_map _
      have hrl : r.length ≤ i := by simpa using hds1
      have ef : nums found ++ [V.int d] = nums (found ++ [d]) := by simp [nums]
      rcases hstep with ⟨n, rfl, hn⟩ | ⟨rfl, hn⟩ | ⟨rfl, hn⟩
      · walk_at "go"
        refine ⟨found ++ [d], r, _, _, rfl, by walk_at "ex", ?_, by walk_at "hp", hn, by simp [hfl1], by omega⟩
        rw [← ef]
        walk_at "hp"
      · walk_at "go"
        refine ⟨found ++ [d], r ++ [d + 1], _, _, rfl, by walk_at "ex", ?_, ?_, hn, by simp [hfl1], by simp; omega⟩
        · rw [← ef]
          walk_at "hp"
        · rw [upd_same]
          simp [nums]
      · walk_at "go"
        refine ⟨found ++ [d], r ++ [d] ++ [d], _, _, rfl, by walk_at "ex", ?_, ?_, hn, by simp [hfl1], by simp; omega⟩
        · rw [← ef]
          walk_at "hp"
        · rw [upd_same]
          simp [nums]
    · rintro σ H1 ⟨found, ds, y1, y2, rfl, e1, hf1, hw1, hinv, hfl1, hds1⟩
      walk_at "go"
      rw [hinv.done] at hf1
      exact q H1 fl e1 hfl hf1
def freeV : V → Int → Bool
  | .int i, d => decide (d ≤ i)
  | _, _ => false
def spFree1 : Sp := fun vs H Q _ => ∃ (v : V) (d : Int), vs = [v, .int d] ∧ ((∃ i, v = .int i) ∨ ∃ z, v = .str z) ∧ Q (.bl (freeV v d)) H
theorem ok_stands_free {f : Addr} {fd : FuncData} {k : Nat} (F : Fun K "stands_free" "stands_free" s_stands_free f fd) (T : Txt w K mg tk cl) : FnOk P w K mg base CX0 (k + 1) f fd ["node", "depth"] spFree1 := by
  refine F.ok sc_stands_free (fun vs H Q E h => ?_) (fun cdv A outer s H vs Q E hr h => ?_)
  · obtain ⟨v, d, rfl, _⟩ := h
    rfl
  · obtain ⟨v, d, rfl, hv, q⟩ := h
    refine ⟨_, (pss_one (ps_ret (pe_and (pe_callB call_isi (by rfl) T.n_isinstance (by decide +kernel) (pa_cons (pv 0) (pa_cons (pe_bltn (v := .ty "int") (by rfl) T.n_int (by decide +kernel) rfl) pa_nil))) (pe_one (pe_cmpR op_ge (pv 0) (pv 1) (nomark _)))))), ?_⟩
    refine sl_of (σ2 := [some _, some _]) rfl ?_
    walk_at "st"
    rcases hv with ⟨i, rfl⟩ | ⟨z, rfl⟩
    · walk_at "go"
      exact q
    · walk_at "go"
      exact q
def spLifted (K : PySem.W.Frag) : Sp := fun vs H Q _ => ∃ (a : Addr) (t : Tm) (c : Nat), vs = [.ref a, .int (c : Int)] ∧ SqT K H a t.enc ∧ t.enc.length ≤ 2000000 ∧
  ∀ H' p, Ex H H' → H p = none → H' p = some (.lst (t.vmap (lif c) 0).enc) → Q (.ref p) H'
theorem ok_lifted {f : Addr} {fd : FuncData} (F : Fun K "lifted_nodes" "lifted_nodes" s_lifted_nodes f fd) (T : Txt w K mg tk cl)
    (D1 : Def P w K mg base CX0 1 "depths" ["term"] (spDepths K)) (D2 : Def P w K mg base CX0 1 "stands_free" ["node", "depth"] spFree1) : FnOk P w K mg base CX0 2 f fd ["term", "count"] (spLifted K) := by
  obtain ⟨f1, fd1, g_depths, kp_depths, b_depths, G_depths⟩ := D1
  obtain ⟨f2, fd2, g_stands_free, kp_stands_free, b_stands_free, G_stands_free⟩ := D2
  refine F.ok sc_lifted_nodes (fun vs H Q E h => ?_) (fun cdv A outer s H vs Q E hr h => ?_)
  · obtain ⟨a, t, c, rfl, _⟩ := h
    rfl
  · obtain ⟨a, t, c, rfl, hS, hlen, q⟩ := h
    refine ⟨_, (pss_cons (ps_set (i := 2) sc_lifted_nodes.nd rfl (.inl rfl) (pe_lst pa_nil)) (pss_cons (ps_for PassesOwn.never rfl (pi_zipM (by rfl) T.n_zip (pa_cons (pv 0) (pa_cons (pe_call G_depths (hr.mono (by first | decide | omega)) (by rfl) g_depths kp_depths b_depths .nil pass0 (pa_cons (pv 0) pa_nil)) pa_nil))) (pg_tup (by rfl) (pgs_cons (pg_name (i := 3) sc_lifted_nodes.nd rfl (.inl rfl)) (pgs_cons (pg_name (i := 4) sc_lifted_nodes.nd rfl (.inl rfl)) pgs_nil))) (pss_one (ps_if (pt_val (pe_call G_stands_free (hr.mono (by first | decide | omega)) (by rfl) g_stands_free kp_stands_free b_stands_free .nil pass0 (pa_cons (pv 3) (pa_cons (pv 4) pa_nil)))) (pss_one (ps_expr (pe_bm PySem.F.plainAttrs_list PySem.F.slot_list_append PySem.F.type_list_append mt_append (pv 2) (pa_cons (pe_op op_add (pv 3) (pv 1)) pa_nil)))) (pss_one (ps_expr (pe_bm PySem.F.plainAttrs_list PySem.F.slot_list_append PySem.F.type_list_append mt_append (pv 2) (pa_cons (pv 3) pa_nil))))))) (pss_one (ps_ret (pv 2))))), ?_⟩
    refine sl_of (σ2 := [some _, some _, none, none, none]) rfl ?_
    walk_at "st"
    walk_at "go"
    intro nl hnl
    walk_at "go"
    refine ⟨a, t, rfl, by walk_at "hp", by omega, fun H1 dl e1 hdl hdn => ?_⟩
    walk_at "go"
    have hdn0 : dl ≠ nl := (ne_of_none upd_same hdl).symm
    have hn1 : H1 nl = some (.lst []) := by walk_at "hp"
    have eH1 : Ex H H1 := by walk_at "ex"
    refine for_zipC (xs := t.enc) (ys := nums (t.deps 0)) (n := t.enc.length) (by simp [Tm.deps_len]) (fun i σ H' => ∃ y1 y2, σ = [some (.ref a), some (.int (c : Int)), some (.ref nl), y1, y2] ∧ Ex H H' ∧ H' dl = some (.lst (nums (t.deps 0))) ∧
        H' nl = some (.lst ((List.zipWith (vm (lif c)) t.enc (t.deps 0)).take i)))
      ⟨none, none, rfl, eH1, hdn, hn1⟩ (fun i σ H' ⟨y1, y2, _, e, hd, _⟩ => ⟨ex_t e hS, SqL.of hd⟩) ?_ ?_
    · rintro i x y T1 σ H2 hx hy ⟨y1, y2, rfl, e2, hd2, hs2⟩ hT1
      obtain ⟨d, hd, rfl⟩ := nums_at hy
      have hil : i < t.enc.length := (List.getElem?_eq_some_iff.mp hx).1
      have hT1s : T1 ≠ nl := (ne_of_none hs2 hT1).symm
      have hT1d : T1 ≠ dl := (ne_of_none hd2 hT1).symm
      have tk1 := zip_take (f := vm (lif c)) hx hd
      have ll : ((List.zipWith (vm (lif c)) t.enc (t.deps 0)).take i).length < 3000000 := by
        rw [List.length_take]
        omega
      have xn := Tm.int_nat (List.mem_of_getElem? hx)
      walk_at "go"
      refine ⟨x, d, rfl, (by rcases xn with ⟨m, e⟩ | e | e; exact .inl ⟨_, e⟩; exact .inr ⟨_, e⟩; exact .inr ⟨_, e⟩), ?_⟩
      cases hf : freeV x d with
      | false =>
        walk_at "go"
        refine ⟨_, _, rfl, by walk_at "ex", by walk_at "hp", ?_⟩
        have ev : vm (lif c) x d = x := by
          rcases xn with ⟨m, rfl⟩ | rfl | rfl
          · have hf : ¬ (d : Int) ≤ m := by simpa [freeV] using hf
            simp only [vm, lif, Int.toNat_natCast]
            rw [if_neg (by omega)]
          · rfl
          · rfl
        rw [upd_same, tk1, ev]
      | true =>
        obtain ⟨m, rfl⟩ : ∃ m : Nat, x = .int m := by
          rcases xn with h | rfl | rfl
          · exact h
          · cases hf
          · cases hf
        have hle : (d : Int) ≤ m := by simpa [freeV] using hf
        walk_at "go"
        refine ⟨_, _, rfl, by walk_at "ex", by walk_at "hp", ?_⟩
        have ev : vm (lif c) (.int m) d = .int ((m : Int) + c) := by
          simp only [vm, lif, Int.toNat_natCast]
          rw [if_pos (by omega), Int.natCast_add]
        rw [upd_same, tk1, ev]
    · rintro σ H2 ⟨y1, y2, rfl, e2, hd2, hs2⟩
      walk_at "go"
      have all : (List.zipWith (vm (lif c)) t.enc (t.deps 0)).take t.enc.length = (t.vmap (lif c) 0).enc := by
        rw [Tm.enc_vmap]
        exact List.take_of_length_le (by simp [Tm.deps_len])
      rw [all] at hs2
      exact q _ nl e2 hnl hs2
def spPut (K : PySem.W.Frag) (C : Addr) : Sp := fun vs H Q E => ∃ (a b : Addr) (t u : Tm), vs = [.ref a, .ref b] ∧ SqT K H a t.enc ∧ SqT K H b u.enc ∧ t.enc.length ≤ 20000 ∧ u.enc.length ≤ 20000 ∧
  (fitsV (Tm.put u 0 t).enc = true → ∀ p H', Ex H H' → SqT K H' p (Tm.put u 0 t).enc → Q (.ref p) H') ∧ (fitsV (Tm.put u 0 t).enc = false → ∀ H', Ex H H' → E (.ref C) none H')
theorem ok_put {f : Addr} {fd : FuncData} (F : Fun K "put" "put" s_put f fd) (T : Txt w K mg tk cl)
    (D1 : Def P w K mg base CX0 1 "depths" ["term"] (spDepths K)) (D2 : Def P w K mg base CX0 1 "stands_free" ["node", "depth"] spFree1)
    (D3 : Def P w K mg base CX0 2 "lifted_nodes" ["term", "count"] (spLifted K)) (D4 : Def P w K mg base (L2.CX P w) 1 "check_size" ["size"] (spSize (cl 1)))
    (D5 : Def P w K mg base (L2.CX P w) 2 "checked" ["term"] (spChecked K (cl 1))) : FnOk P w K mg base (L2.CX P w) 3 f fd ["term", "value"] (spPut K (cl 1)) := by
  obtain ⟨f1, fd1, g_depths, kp_depths, b_depths, G_depths⟩ := D1
  obtain ⟨f2, fd2, g_stands_free, kp_stands_free, b_stands_free, G_stands_free⟩ := D2
  obtain ⟨f3, fd3, g_lifted_nodes, kp_lifted_nodes, b_lifted_nodes, G_lifted_nodes⟩ := D3
  obtain ⟨f4, fd4, g_check_size, kp_check_size, b_check_size, G_check_size⟩ := D4
  obtain ⟨f5, fd5, g_checked, kp_checked, b_checked, G_checked⟩ := D5
  refine F.okX sc_put (fun vs H Q E h => ?_) (fun cdv A outer s H vs Q E hr h => ?_)
  · obtain ⟨a, b, t, u, rfl, _⟩ := h
    rfl
  · obtain ⟨a, b, t, u, rfl, hS, hU, hlen, hul, q, x⟩ := h
    refine ⟨_, (pss_cons (ps_set (i := 2) sc_put.nd rfl (.inl rfl) (pe_lst pa_nil)) (pss_cons (ps_for (passes_of rfl) rfl (pi_zipM (by rfl) T.n_zip (pa_cons (pv 0) (pa_cons (pe_call G_depths (hr.mono (by first | decide | omega)) (by rfl) g_depths kp_depths b_depths .nil pass0 (pa_cons (pv 0) pa_nil)) pa_nil))) (pg_tup (by rfl) (pgs_cons (pg_name (i := 3) sc_put.nd rfl (.inl rfl)) (pgs_cons (pg_name (i := 4) sc_put.nd rfl (.inl rfl)) pgs_nil))) (pss_one (ps_if (pt_not (pt_val (pe_call G_stands_free (hr.mono (by first | decide | omega)) (by rfl) g_stands_free kp_stands_free b_stands_free .nil pass0 (pa_cons (pv 3) (pa_cons (pv 4) pa_nil))))) (pss_one (ps_expr (pe_bm PySem.F.plainAttrs_list PySem.F.slot_list_append PySem.F.type_list_append mt_append (pv 2) (pa_cons (pv 3) pa_nil)))) (pss_one (ps_if (pt_cmpR op_gt (pv 3) (pv 4) (nomark _)) (pss_one (ps_expr (pe_bm PySem.F.plainAttrs_list PySem.F.slot_list_append PySem.F.type_list_append mt_append (pv 2) (pa_cons (pe_op op_sub (pv 3) pe_int) pa_nil)))) (pss_cons (ps_expr (pe_bm PySem.F.plainAttrs_list PySem.F.slot_list_extend PySem.F.type_list_extend mt_extend (pv 2) (pa_cons (pe_call G_lifted_nodes (hr.mono (by first | decide | omega)) (by rfl) g_lifted_nodes kp_lifted_nodes b_lifted_nodes .nil pass0 (pa_cons (pv 1) (pa_cons (pv 4) pa_nil))) pa_nil))) (pss_one (ps_expr (pe_call G_check_size (hr.mono (by first | decide | omega)) (by rfl) g_check_size kp_check_size b_check_size .nil (passes_call (takes_of rfl rfl rfl rfl) (fun _ _ _ _ h => h)) (pa_cons (pe_callB call_len_seq (by rfl) T.n_len (by decide +kernel) (pa_cons (pv 2) pa_nil)) pa_nil)))))))))) (pss_one (ps_ret (pe_call G_checked (hr.mono (by first | decide | omega)) (by rfl) g_checked kp_checked b_checked .nil (passes_call (takes_of rfl rfl rfl rfl) (fun _ _ _ _ h => h)) (pa_cons (pe_callTy call_tuple_of (by rfl) T.n_tuple (by decide +kernel) (pa_cons (pv 2) pa_nil)) pa_nil)))))), ?_⟩
    refine sl_of (σ2 := [some _, some _, none, none, none]) rfl ?_
    walk_at "st"
    walk_at "go"
    intro nl hnl
    walk_at "go"
    refine ⟨a, t, rfl, by walk_at "hp", by omega, fun H1 dl e1 hdl hdn => ?_⟩
    walk_at "go"
    have hdn0 : dl ≠ nl := (ne_of_none upd_same hdl).symm
    have hn1 : H1 nl = some (.lst []) := by walk_at "hp"
    have eH1 : Ex H H1 := by walk_at "ex"
    have full := Tm.enc_put u t 0
    refine for_zipC (xs := t.enc) (ys := nums (t.deps 0)) (n := t.enc.length) (by simp [Tm.deps_len]) (fun i σ H' => ∃ y1 y2, σ = [some (.ref a), some (.ref b), some (.ref nl), y1, y2] ∧ Ex H H' ∧ H' dl = some (.lst (nums (t.deps 0))) ∧
        H' nl = some (.lst ((List.zipWith (pvs u) t.enc (t.deps 0)).take i).flatten) ∧ ((List.zipWith (pvs u) t.enc (t.deps 0)).take i).flatten.length ≤ 1000 + i)
      ⟨none, none, rfl, eH1, hdn, hn1, by simp⟩ (fun i σ H' ⟨y1, y2, _, e, hd, _⟩ => ⟨ex_t e hS, SqL.of hd⟩) ?_ ?_
    · rintro i x1 y T1 σ H2 hx hy ⟨y1, y2, rfl, e2, hd2, hs2, hl2⟩ hT1
      obtain ⟨d, hd, rfl⟩ := nums_at hy
      have hil : i < t.enc.length := (List.getElem?_eq_some_iff.mp hx).1
      have hT1s : T1 ≠ nl := (ne_of_none hs2 hT1).symm
      have hT1d : T1 ≠ dl := (ne_of_none hd2 hT1).symm
      have tk1 := zip_take (f := pvs u) hx hd
      have tk2 : ((List.zipWith (pvs u) t.enc (t.deps 0)).take (i + 1)).flatten = ((List.zipWith (pvs u) t.enc (t.deps 0)).take i).flatten ++ pvs u x1 d := by
        rw [tk1, List.flatten_append]
        simp
      have over := flat_take_le (List.zipWith (pvs u) t.enc (t.deps 0)) (i + 1)
      rw [← full] at over
      generalize ((List.zipWith (pvs u) t.enc (t.deps 0)).take i).flatten = done at *
      rw [tk2] at over
      have hU2 : SqT K H2 b u.enc := ex_t e2 hU
      have xn := Tm.int_nat (List.mem_of_getElem? hx)
      walk_at "go"
      refine ⟨x1, d, rfl, (by rcases xn with ⟨m, e⟩ | e | e; exact .inl ⟨_, e⟩; exact .inr ⟨_, e⟩; exact .inr ⟨_, e⟩), ?_⟩
      cases hf : freeV x1 d with
      | false =>
        walk_at "go"
        have ev : pvs u x1 d = [x1] := by
          rcases xn with ⟨m, rfl⟩ | rfl | rfl
          · have hf : ¬ (d : Int) ≤ m := by simpa [freeV] using hf
            exact pvs_low (by omega)
          · rfl
          · rfl
        rw [ev] at tk2
        refine ⟨_, _, rfl, by walk_at "ex", by walk_at "hp", ?_, by rw [tk2]; simp; omega⟩
        rw [upd_same, tk2]
      | true =>
        obtain ⟨m, rfl⟩ : ∃ m : Nat, x1 = .int m := by
          rcases xn with h | rfl | rfl
          · exact h
          · cases hf
          · cases hf
        have hle : (d : Int) ≤ m := by simpa [freeV] using hf
        walk_at "go"
        refine w_br (fun h3 => ?_) (fun h3 => ?_)
        · walk_at "go"
          rw [pvs_high (by omega)] at tk2
          refine ⟨_, _, rfl, by walk_at "ex", by walk_at "hp", ?_, by rw [tk2]; simp; omega⟩
          rw [upd_same, tk2]
        · have e0 : m = d := by omega
          subst e0
          rw [pvs_at] at tk2 over
          have hT1b : SqT K (upd H2 T1 (.tup [V.int (m : Int), V.int (m : Int)])) b u.enc := ex_t (Ex.new hT1) hU2
          walk_at "go"
          refine ⟨b, u, m, rfl, hT1b, by omega, fun H3 ll e3 hll hl3 => ?_⟩
          have hlne : ll ≠ nl := by
            have g1 : upd H2 T1 (.tup [V.int (m : Int), V.int (m : Int)]) nl = some (.lst done) := (upd_ne hT1s.symm).trans hs2
            exact (ne_of_none g1 hll).symm
          have hs3 : H3 nl = some (.lst done) := e3 _ _ ((upd_ne hT1s.symm).trans hs2)
          have hd3 : H3 dl = some (.lst (nums (t.deps 0))) := e3 _ _ ((upd_ne hT1d.symm).trans hd2)
          have ee : Ex H H3 := (e2.trans (Ex.new hT1)).trans e3
          have vl := Tm.vmap_len (lif m) u 0
          walk_at "go"
          · exact ly_sz (by omega)
          walk_at "go"
          refine ⟨_, rfl, fun hle2 => ?_, fun hgt => x ?_ _ (by walk_at "ex")⟩
          · walk_at "go"
            refine ⟨_, _, rfl, by walk_at "ex", by walk_at "hp", ?_, by rw [tk2]; omega⟩
            rw [upd_same, tk2]
          · have : ¬ (Tm.put u 0 t).enc.length ≤ 1000 := by omega
            simp [fitsV, this]
    · rintro σ H2 ⟨y1, y2, rfl, e2, hd2, hs2, hl2⟩
      have all : ((List.zipWith (pvs u) t.enc (t.deps 0)).take t.enc.length).flatten = (Tm.put u 0 t).enc := by
        rw [full, List.take_of_length_le (by simp [Tm.deps_len])]
      rw [all] at hs2
      walk_at "go"
      intro p hp
      walk_at "go"
      exact ⟨p, _, rfl, by walk_at "hp", Tm.flat _, fun h => q h p _ (by walk_at "ex") (by walk_at "hp"), fun h => x h _ (by walk_at "ex")⟩
end
end Ly
set_option Elab.async false
set_option linter.all false
set_option maxRecDepth 100000
set_option maxHeartbeats 8000000
namespace Ly
open PySem PySem.Spec PyProof.Rows L2 Evl
local macro_rules | `(tactic| walk_at "ne") => `(tactic| first
  | assumption
  | ((refine' Ne.symm ?hq); (case hq => assumption))
  | ((refine' ne_of_none ?nh1 ?nh2); (case nh2 => assumption); (case nh1 => walk_at "hp"))
  | ((refine' Ne.symm (ne_of_none ?nh1 ?nh2)); (case nh2 => assumption); (case nh1 => walk_at "hp")))
local macro_rules | `(tactic| walk_at "hp") => `(tactic| first
  | assumption
  | exact upd_same
  | ((refine' SqL.of ?hq); (case hq => walk_at "hp"))
  | ((refine' SqT.of ?hq); (case hq => walk_at "hp"))
  | ((refine' (upd_ne ?hne).trans ?hrest); (case hne => walk_at "ne"); (case hrest => walk_at "hp"))
  | ((refine' ly_at ?hex ?hh); (case hex => assumption); (case hh => walk_at "hp"))
  | ((refine' ly_atF ?hex ?hnn ?hh); (case hex => assumption); (case hh => walk_at "hp"); (case hnn => walk_at "ne"))
  | ((refine' ex_t ?hex ?hh); (case hh => assumption); (case hex => walk_at "ex"))
  | ((refine' ex_l ?hex ?hh); (case hh => assumption); (case hex => walk_at "ex")))
local macro_rules | `(tactic| walk_at "ex") => `(tactic| first
  | assumption
  | exact Ex.refl _
  | ((refine' ex_new ?xa ?xb); (case xb => assumption); (case xa => walk_at "ex"))
  | ((refine' ex_upd ?xa ?xb); (case xb => walk_at "free"); (case xa => walk_at "ex"))
  | ((refine' Ex.trans ?xa ?xb); (case xb => assumption); (case xa => walk_at "ex")))
local macro_rules | `(tactic| walk_at "free") => `(tactic| first
  | assumption
  | ((refine' fresh_back ?xa ?xb); (case xb => assumption); (case xa => walk_at "ex")))
local macro_rules | `(tactic| walk_at "fr") => `(tactic| first
  | assumption
  | exact Fr.refl _ _
  | ((refine' Fr.own ?hq); (case hq => walk_at "fr"))
  | ((refine' Fr.new ?xa ?xb); (case xb => assumption); (case xa => walk_at "fr"))
  | ((refine' Fr.mut ?xa ?xb); (case xb => assumption); (case xa => walk_at "fr"))
  | ((refine' Fr.trans ?xa ?xb); (case xb => assumption); (case xa => walk_at "fr"))
  | ((refine' Fr.trans ?xa (Fr.ex ?xb)); (case xb => assumption); (case xa => walk_at "fr")))
local macro_rules | `(tactic| walk_at "go1") => `(tactic| first
  | (with_reducible refine' w_seq ?_)
  | (with_reducible refine' w_asg ?_)
  | (with_reducible refine' w_ret ?_)
  | (with_reducible refine' w_drop ?_)
  | (with_reducible refine' w_if ?_)
  | (with_reducible refine' w_next ?_)
  | (with_reducible refine' w_name ?_)
  | (with_reducible refine' w_sub ?_)
  | ((with_reducible refine' w_var ?hv ?_); (case hv => exact rfl))
  | (with_reducible refine' w_c ?_)
  | (with_reducible refine' w_op ?_)
  | (with_reducible refine' w_un ?_)
  | (with_reducible refine' w_ch ?_)
  | (with_reducible refine' w_I0 ?_)
  | ((with_reducible refine' w_I ?hc ?_); (case hc => first | (exact ly_mulL (by decide) (by decide)) | (exact ly_mulR (by decide) (by decide)) | (exact ly_mulL (by omega) (by omega)) | (show (_ : Int) ≠ 0; decide) | (show (_ : Int) ≠ 0; omega) | (exact ⟨by decide, by decide⟩) | (exact ⟨by omega, by omega⟩)))
  | (with_reducible refine' w_U ?_)
  | ((with_reducible refine' w_eq ?hs ?_); (case hs => exact rfl))
  | ((with_reducible refine' w_ne ?hs ?_); (case hs => exact rfl))
  | (with_reducible refine' w_isB ?_)
  | (with_reducible refine' w_notB ?_)
  | (with_reducible refine' w_nil ?_)
  | (with_reducible refine' w_cons ?_)
  | (with_reducible refine' w_tup ?_)
  | (with_reducible refine' w_lst ?_)
  | (with_reducible refine' w_cb ?_)
  | (with_reducible refine' w_call ?_)
  | (with_reducible refine' w_bm ?_)
  | (with_reducible refine' w_bm0 ?_)
  | ((with_reducible refine' w_app ?hh ?hz ?_); (case hh => walk_at "hp"); (case hz => first | exact ly_lt (by omega) | exact ly_lt (by simp only [List.length_append, List.length_map, List.length_cons, List.length_nil]; omega)))
  | ((with_reducible refine' w_popA ?hh ?_); (case hh => walk_at "hp"))
  | ((with_reducible refine' w_ext ?hh ?hh2 ?hz ?_); (case hh => walk_at "hp"); (case hh2 => walk_at "hp"))
  | ((with_reducible refine' w_ixL ?hh ?ha ?_); (case hh => walk_at "hp"); (case ha => first | exact rfl | exact at_map (by omega) | exact atI_last _ _ | ((refine' at_of ?ae ?ah); (case ah => assumption); (case ae => omega))))
  | ((with_reducible refine' w_ixT ?hh ?ha ?_); (case hh => walk_at "hp"); (case ha => first | exact rfl | exact at_map (by omega) | exact atI_last _ _ | ((refine' at_of ?ae ?ah); (case ah => assumption); (case ae => omega))))
  | ((with_reducible refine' w_cat ?hh ?hh2 ?hz ?_); (case hh => walk_at "hp"); (case hh2 => walk_at "hp"))
  | ((with_reducible refine' w_setL ?hh ?ha ?_); (case hh => walk_at "hp"); (case ha => exact rfl))
  | (with_reducible refine' w_test ?_)
  | (with_reducible refine' w_tB ?_)
  | (with_reducible refine' w_bl ?_)
  | (with_reducible refine' w_and ?_)
  | (with_reducible refine' w_or ?_)
  | (with_reducible refine' w_not ?_)
  | (with_reducible refine' w_andV ?_)
  | (with_reducible refine' w_orV ?_)
  | (with_reducible refine' w_notV ?_)
  | (with_reducible refine' w_ifE ?_)
  | (with_reducible refine' w_for ?_)
  | ((with_reducible refine' w_nin ?hh ?_); (case hh => walk_at "hp"))
  | ((with_reducible refine' w_sorted ?hh ?_); (case hh => walk_at "hp"))
  | (with_reducible refine' w_tsadd ?_)
  | ((with_reducible refine' w_tsadd1 ?hh ?_); (case hh => walk_at "hp"))
  | ((with_reducible refine' w_sadd ?hh ?hr ?_); (case hh => walk_at "hp"); (case hr => omega))
  | (with_reducible refine' w_iZ ?_)
  | ((with_reducible refine' w_iZ1 ?hh ?hh2 ?_); (case hh => walk_at "hp"); (case hh2 => walk_at "hp"))
  | (with_reducible refine' w_iS ?_)
  | (with_reducible refine' w_iS1 ?_)
  | ((with_reducible refine' w_gtup ?hh ?hn ?_); (case hh => walk_at "hp"); (case hn => exact rfl))
  | (with_reducible refine' w_gcons ?_)
  | (with_reducible refine' w_gnil ?_)
  | (with_reducible refine' w_js ?_)
  | (with_reducible refine' w_jsn ?_)
  | ((with_reducible refine' w_js1 ?hl ?_); (case hl => decide +kernel))
  | (with_reducible refine' w_fmt ?_)
  | ((with_reducible refine' w_fmt1 ?hl ?_); (case hl => decide +kernel))
  | (with_reducible refine' w_callS ?_)
  | ((with_reducible refine' w_truL ?hh ?_); (case hh => walk_at "hp"))
  | (with_reducible refine' w_lc ?_)
  | (with_reducible refine' w_yes ?_)
  | ((with_reducible refine' w_wipe ?he ?_); (case he => exact rfl))
  | (with_reducible refine' w_iL ?_)
  | (with_reducible refine' w_iT ?_)
  | (with_reducible refine' w_iR ?_)
  | ((with_reducible refine' w_iL1 ?hh ?_); (case hh => walk_at "hp"))
  | ((with_reducible refine' w_iT1 ?hh ?_); (case hh => walk_at "hp"))
  | ((with_reducible refine' w_iR1 ?h1 ?h2 ?_); (case h1 => omega); (case h2 => omega))
  | ((with_reducible refine' w_aug ?hv ?_); (case hv => exact rfl))
  | (with_reducible refine' w_ipI ?_)
  | ((with_reducible refine' w_isi ?hy ?hk ?_); (case hy => walk_at "ty"); (case hk => walk_at "kit"))
  | ((with_reducible refine' w_int ?_))
  | ((with_reducible refine' w_intB ?_))
  | ((with_reducible refine' w_abs ?_))
  | ((with_reducible refine' w_lenL ?hh ?_); (case hh => walk_at "hp"))
  | ((with_reducible refine' w_lenT ?hh ?_); (case hh => walk_at "hp"))
  | ((with_reducible refine' w_tupL ?hh ?_); (case hh => walk_at "hp"))
  | ((with_reducible refine' w_tupT ?hh ?_); (case hh => walk_at "hp"))
  | ((with_reducible refine' w_catA ?hh ?hh2 ?hz ?_); (case hh => walk_at "hp"); (case hh2 => walk_at "hp"); (case hz => walk_at "len"))
  | ((with_reducible refine' w_repB ?hh ?hne ?h2 ?h3 ?hz ?_); (case hh => walk_at "hp"); (case hne => simp); (case h2 => omega); (case h3 => omega); (case hz => exact Nat.le_of_ble_eq_true rfl))
  | ((with_reducible refine' w_eqN ?hh ?hh2 ?n1 ?n2 ?_); (case hh => walk_at "hp"); (case hh2 => walk_at "hp"); (case n1 => walk_at "nd"); (case n2 => walk_at "nd"))
  | ((with_reducible refine' w_neN ?hh ?hh2 ?n1 ?n2 ?_); (case hh => walk_at "hp"); (case hh2 => walk_at "hp"); (case n1 => walk_at "nd"); (case n2 => walk_at "nd"))
  | ((with_reducible refine' w_eqL ?hh ?hh2 ?n1 ?n2 ?_); (case hh => walk_at "hp"); (case hh2 => walk_at "hp"); (case n1 => walk_at "nd"); (case n2 => walk_at "nd"))
  | ((with_reducible refine' w_neL ?hh ?hh2 ?n1 ?n2 ?_); (case hh => walk_at "hp"); (case hh2 => walk_at "hp"); (case n1 => walk_at "nd"); (case n2 => walk_at "nd"))
  | ((with_reducible refine' w_neNon ?hh2 ?n2 ?_); (case hh2 => walk_at "hp"); (case n2 => walk_at "nd"))
  | ((with_reducible refine' w_eqNon ?hh2 ?n2 ?_); (case hh2 => walk_at "hp"); (case n2 => walk_at "nd"))
  | ((with_reducible refine' w_slA ?hh ?_); (case hh => walk_at "hp"))
  | ((with_reducible refine' w_disp ?hz ?_); (case hz => exact sz_of (Nat.le_of_ble_eq_true rfl)))
  | ((with_reducible refine' w_tyL ?hh ?_); (case hh => walk_at "hp"))
  | (with_reducible refine' iteT ?_)
  | (with_reducible refine' iteF ?_)
  | (with_reducible refine' w_nT ?_)
  | (with_reducible refine' w_nn ?_)
  | (with_reducible refine' w_nnT ?_)
  | (with_reducible refine' w_nnR ?_)
  | (with_reducible refine' w_neG ?_)
  | (with_reducible refine' w_eqG ?_)
  | (with_reducible refine' w_neS ?_)
  | (with_reducible refine' w_eqS ?_)
  | (with_reducible refine' w_neSb ?_)
  | (with_reducible refine' w_eqSb ?_)
  | (with_reducible refine' w_deIS ?_)
  | (with_reducible refine' w_deSI ?_)
  | (with_reducible refine' w_deISn ?_)
  | ((with_reducible refine' w_deST ?he ?_); (case he => decide +kernel))
  | ((with_reducible refine' w_deSF ?he ?_); (case he => decide +kernel))
  | ((with_reducible refine' w_deSTn ?he ?_); (case he => decide +kernel))
  | ((with_reducible refine' w_deSFn ?he ?_); (case he => decide +kernel))
  | (with_reducible refine' w_nF ?_)
  | dsimp only [Bool.not_true, Bool.not_false])
local macro_rules | `(tactic| walk_at "ty") => `(tactic| first
  | exact .base (.int _) | exact .base (.str _) | exact .base (.bl _) | exact .base .non
  | ((refine' tyx_t ?hq); (case hq => walk_at "hp")) | ((refine' tyx_l ?hq); (case hq => walk_at "hp")) | ((refine' .base (.tup ?hq)); (case hq => walk_at "hp")) | assumption)
local macro_rules | `(tactic| walk_at "go") => `(tactic| repeat walk_at "go1")
local macro_rules | `(tactic| walk_at "st") => `(tactic| try dsimp only [cxOf, Cx.nox, Cx.wish])
local macro_rules | `(tactic| walk_at "kit") => `(tactic| with_reducible first | exact kit_int_int | exact kit_int_str | exact kit_int_bool | exact kit_int_tuple | exact kit_int_list | exact kit_str_int | exact kit_str_str | exact kit_str_bool | exact kit_str_tuple | exact kit_str_list | exact kit_bool_int | exact kit_bool_str | exact kit_bool_bool | exact kit_bool_tuple | exact kit_bool_list | exact kit_NoneType_int | exact kit_NoneType_str | exact kit_NoneType_bool | exact kit_NoneType_tuple | exact kit_NoneType_list | exact kit_list_int | exact kit_list_str | exact kit_list_bool | exact kit_list_tuple | exact kit_list_list | exact kit_tuple_int | exact kit_tuple_str | exact kit_tuple_bool | exact kit_tuple_tuple | exact kit_tuple_list)
local macro_rules | `(tactic| walk_at "nd") => `(tactic| first
  | assumption
  | exact Tm.nds _
  | exact Nds.nil
  | exact Nds.ofInts _
  | ((refine' Nds.cons ?na ?nb); (case na => first | exact Nds.I _ | exact Nds.L | exact Nds.A); (case nb => walk_at "nd"))
  | ((refine' Nds.app ?na ?nb); (case na => walk_at "nd"); (case nb => walk_at "nd"))
  | ((refine' Nds.rep ?na _); (case na => walk_at "nd")))
local macro_rules | `(tactic| walk_at "len") => `(tactic| first
  | exact ly_sz (by omega)
  | ((simp only [List.length_append, List.length_cons, List.length_nil, List.length_map, PyProof.Rows.lm_len_rep_flat]); exact ly_sz (by omega)))
local macro_rules | `(tactic| walk_at "go1") => `(tactic| first
  | (with_reducible refine' w_kget2 ?_)
  | (with_reducible refine' w_isRN ?_)
  | (with_reducible refine' w_isNN ?_)
  | (with_reducible refine' w_isIN ?_)
  | ((with_reducible refine' w_kg ?hd ?_); (case hd => assumption)))
local macro_rules | `(tactic| walk_at "go1") => `(tactic| first
  | ((with_reducible refine' w_extT ?hh ?hh2 ?hz ?_); (case hh => walk_at "hp"); (case hh2 => walk_at "hp"))
  | ((with_reducible refine' w_I ?hc ?_); (case hc => exact ⟨by decide, by decide, by decide⟩))
  | (with_reducible refine' w_sl ?_)
  | (with_reducible refine' w_noP ?_)
  | (with_reducible refine' w_part ?_)
  | (with_reducible refine' w_part1 ?_)
  | (with_reducible refine' w_it ?_)
  | (with_reducible refine' w_it1 ?_)
  | ((with_reducible refine' w_lenZ ?hz ?_); (case hz => omega))
  | ((with_reducible refine' w_addZb ?hz ?_); (case hz => omega))
  | ((with_reducible refine' w_addZf ?hz ?_); (case hz => omega))
  | ((with_reducible refine' w_addZa ?hz ?_); (case hz => omega))
  | ((with_reducible refine' w_inS ?hh ?_); (case hh => walk_at "hp"))
  | ((with_reducible refine' w_ixT ?hh ?ha ?_); (case hh => assumption); (case ha => exact atI_nat (by assumption))))
section
variable {P : Program} {w : World} {K : PySem.W.Frag} {mg : Str → Option Value} {base : Heap} {tk : Nat → Tok} {cl : Nat → Addr}
theorem w_rv {te : TE} {σ : L2.St} {H : Hp} {R : It → Hp → Prop} (h : te σ H fun v H1 => ∃ z, v = .str z ∧ z.length ≤ sizeLine ∧ R (ItvS z) H1) : iRevS te σ H R := h
local macro_rules | `(tactic| walk_at "go1") => `(tactic| first
  | (with_reducible refine' w_rv ?_)
  | ((with_reducible refine' w_addZ ?hz ?_); (case hz => simp; omega)))
/-- in the midst of the walk: the part that is reached -/
def WInv (t : Tm) (p : List Nat) (i s : Nat) (u : Tm) : Prop := (∃ post, t.enc.drop s = u.enc ++ post) ∧ t.sub p = (u.sub (p.drop i)).map (fun r => (r.1 + s, r.2))
theorem WInv.start (t : Tm) (p : List Nat) : WInv t p 0 0 t := ⟨⟨[], by simp⟩, by
  have : (fun r : Nat × Tm => (r.1 + 0, r.2)) = id := by funext r; rfl
  rw [this]
  simp⟩
theorem WInv.step {t : Tm} {p : List Nat} {i s c : Nat} {u : Tm} (h : WInv t p i s u) (hc : p[i]? = some c) : ∃ v, t.enc[s]? = some v ∧
    (((∃ n : Nat, v = .int n) ∧ t.sub p = none) ∨
     (v = .str "lam" ∧ ((c = 98 ∧ ∃ b : Tm, WInv t p (i + 1) (s + 1) b) ∨ (c ≠ 98 ∧ t.sub p = none))) ∨
     (v = .str "app" ∧ ((c = 102 ∧ ∃ g : Tm, WInv t p (i + 1) (s + 1) g) ∨ (c = 97 ∧ ∃ (g a : Tm) (post : List V), t.enc.drop (s + 1) = g.enc ++ post ∧ WInv t p (i + 1) (s + 1 + g.enc.length) a) ∨ (c ≠ 102 ∧ c ≠ 97 ∧ t.sub p = none)))) := by
  obtain ⟨⟨post, h1⟩, h2⟩ := h
  rw [drop_at hc] at h2
  cases u with
  | var n =>
    have g := drop_get (i := s) (v := .int n) (r := post) (by rw [h1]; rfl)
    exact ⟨_, g.1, .inl ⟨⟨n, rfl⟩, by rw [h2]; rfl⟩⟩
  | lam b =>
    have g := drop_get (i := s) (v := .str "lam") (r := b.enc ++ post) (by rw [h1]; simp [Tm.enc])
    refine ⟨_, g.1, .inr (.inl ⟨rfl, ?_⟩)⟩
    by_cases e : c = 98
    · refine .inl ⟨e, b, ⟨post, g.2⟩, ?_⟩
      rw [h2]
      simp only [Tm.sub, if_pos e, Option.map_map]
      congr 1
      funext r
      simp
      omega
    · exact .inr ⟨e, by rw [h2]; simp [Tm.sub, e]⟩
  | app f a =>
    have g := drop_get (i := s) (v := .str "app") (r := f.enc ++ (a.enc ++ post)) (by rw [h1]; simp [Tm.enc])
    refine ⟨_, g.1, .inr (.inr ⟨rfl, ?_⟩)⟩
    by_cases e : c = 102
    · refine .inl ⟨e, f, ⟨_, g.2⟩, ?_⟩
      rw [h2]
      simp only [Tm.sub, if_pos e, Option.map_map]
      congr 1
      funext r
      simp
      omega
    · by_cases e2 : c = 97
      · refine .inr (.inl ⟨e2, f, a, _, g.2, ⟨post, ?_⟩, ?_⟩)
        · rw [← List.drop_drop, g.2]
          simp
        · rw [h2]
          simp only [Tm.sub, if_neg e, if_pos e2, Option.map_map]
          congr 1
          funext r
          simp
          omega
      · exact .inr (.inr ⟨e, e2, by rw [h2]; simp [Tm.sub, e, e2]⟩)

end
end Ly
set_option Elab.async false
set_option linter.all false
set_option maxRecDepth 100000
set_option maxHeartbeats 8000000
namespace Ly
open PySem PySem.Spec PyProof.Rows L2 Evl
local macro_rules | `(tactic| walk_at "ne") => `(tactic| first
  | assumption
  | ((refine' Ne.symm ?hq); (case hq => assumption))
  | ((refine' ne_of_none ?nh1 ?nh2); (case nh2 => assumption); (case nh1 => walk_at "hp"))
  | ((refine' Ne.symm (ne_of_none ?nh1 ?nh2)); (case nh2 => assumption); (case nh1 => walk_at "hp")))
local macro_rules | `(tactic| walk_at "hp") => `(tactic| first
  | assumption
  | exact upd_same
  | ((refine' SqL.of ?hq); (case hq => walk_at "hp"))
  | ((refine' SqT.of ?hq); (case hq => walk_at "hp"))
  | ((refine' (upd_ne ?hne).trans ?hrest); (case hne => walk_at "ne"); (case hrest => walk_at "hp"))
  | ((refine' ly_at ?hex ?hh); (case hex => assumption); (case hh => walk_at "hp"))
  | ((refine' ly_atF ?hex ?hnn ?hh); (case hex => assumption); (case hh => walk_at "hp"); (case hnn => walk_at "ne"))
  | ((refine' ex_t ?hex ?hh); (case hh => assumption); (case hex => walk_at "ex"))
  | ((refine' ex_l ?hex ?hh); (case hh => assumption); (case hex => walk_at "ex")))
local macro_rules | `(tactic| walk_at "ex") => `(tactic| first
  | assumption
  | exact Ex.refl _
  | ((refine' ex_new ?xa ?xb); (case xb => assumption); (case xa => walk_at "ex"))
  | ((refine' ex_upd ?xa ?xb); (case xb => walk_at "free"); (case xa => walk_at "ex"))
  | ((refine' Ex.trans ?xa ?xb); (case xb => assumption); (case xa => walk_at "ex")))
local macro_rules | `(tactic| walk_at "free") => `(tactic| first
  | assumption
  | ((refine' fresh_back ?xa ?xb); (case xb => assumption); (case xa => walk_at "ex")))
local macro_rules | `(tactic| walk_at "fr") => `(tactic| first
  | assumption
  | exact Fr.refl _ _
  | ((refine' Fr.own ?hq); (case hq => walk_at "fr"))
  | ((refine' Fr.new ?xa ?xb); (case xb => assumption); (case xa => walk_at "fr"))
  | ((refine' Fr.mut ?xa ?xb); (case xb => assumption); (case xa => walk_at "fr"))
  | ((refine' Fr.trans ?xa ?xb); (case xb => assumption); (case xa => walk_at "fr"))
  | ((refine' Fr.trans ?xa (Fr.ex ?xb)); (case xb => assumption); (case xa => walk_at "fr")))
local macro_rules | `(tactic| walk_at "go1") => `(tactic| first
  | (with_reducible refine' w_seq ?_)
  | (with_reducible refine' w_asg ?_)
  | (with_reducible refine' w_ret ?_)
  | (with_reducible refine' w_drop ?_)
  | (with_reducible refine' w_if ?_)
  | (with_reducible refine' w_next ?_)
  | (with_reducible refine' w_name ?_)
  | (with_reducible refine' w_sub ?_)
  | ((with_reducible refine' w_var ?hv ?_); (case hv => exact rfl))
  | (with_reducible refine' w_c ?_)
  | (with_reducible refine' w_op ?_)
  | (with_reducible refine' w_un ?_)
  | (with_reducible refine' w_ch ?_)
  | (with_reducible refine' w_I0 ?_)
  | ((with_reducible refine' w_I ?hc ?_); (case hc => first | (exact ly_mulL (by decide) (by decide)) | (exact ly_mulR (by decide) (by decide)) | (exact ly_mulL (by omega) (by omega)) | (show (_ : Int) ≠ 0; decide) | (show (_ : Int) ≠ 0; omega) | (exact ⟨by decide, by decide⟩) | (exact ⟨by omega, by omega⟩)))
  | (with_reducible refine' w_U ?_)
  | ((with_reducible refine' w_eq ?hs ?_); (case hs => exact rfl))
  | ((with_reducible refine' w_ne ?hs ?_); (case hs => exact rfl))
  | (with_reducible refine' w_isB ?_)
  | (with_reducible refine' w_notB ?_)
  | (with_reducible refine' w_nil ?_)
  | (with_reducible refine' w_cons ?_)
  | (with_reducible refine' w_tup ?_)
  | (with_reducible refine' w_lst ?_)
  | (with_reducible refine' w_cb ?_)
  | (with_reducible refine' w_call ?_)
  | (with_reducible refine' w_bm ?_)
  | (with_reducible refine' w_bm0 ?_)
  | ((with_reducible refine' w_app ?hh ?hz ?_); (case hh => walk_at "hp"); (case hz => first | exact ly_lt (by omega) | exact ly_lt (by simp only [List.length_append, List.length_map, List.length_cons, List.length_nil]; omega)))
  | ((with_reducible refine' w_popA ?hh ?_); (case hh => walk_at "hp"))
  | ((with_reducible refine' w_ext ?hh ?hh2 ?hz ?_); (case hh => walk_at "hp"); (case hh2 => walk_at "hp"))
  | ((with_reducible refine' w_ixL ?hh ?ha ?_); (case hh => walk_at "hp"); (case ha => first | exact rfl | exact at_map (by omega) | exact atI_last _ _ | ((refine' at_of ?ae ?ah); (case ah => assumption); (case ae => omega))))
  | ((with_reducible refine' w_ixT ?hh ?ha ?_); (case hh => walk_at "hp"); (case ha => first | exact rfl | exact at_map (by omega) | exact atI_last _ _ | ((refine' at_of ?ae ?ah); (case ah => assumption); (case ae => omega))))
  | ((with_reducible refine' w_cat ?hh ?hh2 ?hz ?_); (case hh => walk_at "hp"); (case hh2 => walk_at "hp"))
  | ((with_reducible refine' w_setL ?hh ?ha ?_); (case hh => walk_at "hp"); (case ha => exact rfl))
  | (with_reducible refine' w_test ?_)
  | (with_reducible refine' w_tB ?_)
  | (with_reducible refine' w_bl ?_)
  | (with_reducible refine' w_and ?_)
  | (with_reducible refine' w_or ?_)
  | (with_reducible refine' w_not ?_)
  | (with_reducible refine' w_andV ?_)
  | (with_reducible refine' w_orV ?_)
  | (with_reducible refine' w_notV ?_)
  | (with_reducible refine' w_ifE ?_)
  | (with_reducible refine' w_for ?_)
  | ((with_reducible refine' w_nin ?hh ?_); (case hh => walk_at "hp"))
  | ((with_reducible refine' w_sorted ?hh ?_); (case hh => walk_at "hp"))
  | (with_reducible refine' w_tsadd ?_)
  | ((with_reducible refine' w_tsadd1 ?hh ?_); (case hh => walk_at "hp"))
  | ((with_reducible refine' w_sadd ?hh ?hr ?_); (case hh => walk_at "hp"); (case hr => omega))
  | (with_reducible refine' w_iZ ?_)
  | ((with_reducible refine' w_iZ1 ?hh ?hh2 ?_); (case hh => walk_at "hp"); (case hh2 => walk_at "hp"))
  | (with_reducible refine' w_iS ?_)
  | (with_reducible refine' w_iS1 ?_)
  | ((with_reducible refine' w_gtup ?hh ?hn ?_); (case hh => walk_at "hp"); (case hn => exact rfl))
  | (with_reducible refine' w_gcons ?_)
  | (with_reducible refine' w_gnil ?_)
  | (with_reducible refine' w_js ?_)
  | (with_reducible refine' w_jsn ?_)
  | ((with_reducible refine' w_js1 ?hl ?_); (case hl => decide +kernel))
  | (with_reducible refine' w_fmt ?_)
  | ((with_reducible refine' w_fmt1 ?hl ?_); (case hl => decide +kernel))
  | (with_reducible refine' w_callS ?_)
  | ((with_reducible refine' w_truL ?hh ?_); (case hh => walk_at "hp"))
  | (with_reducible refine' w_lc ?_)
  | (with_reducible refine' w_yes ?_)
  | ((with_reducible refine' w_wipe ?he ?_); (case he => exact rfl))
  | (with_reducible refine' w_iL ?_)
  | (with_reducible refine' w_iT ?_)
  | (with_reducible refine' w_iR ?_)
  | ((with_reducible refine' w_iL1 ?hh ?_); (case hh => walk_at "hp"))
  | ((with_reducible refine' w_iT1 ?hh ?_); (case hh => walk_at "hp"))
  | ((with_reducible refine' w_iR1 ?h1 ?h2 ?_); (case h1 => omega); (case h2 => omega))
  | ((with_reducible refine' w_aug ?hv ?_); (case hv => exact rfl))
  | (with_reducible refine' w_ipI ?_)
  | ((with_reducible refine' w_isi ?hy ?hk ?_); (case hy => walk_at "ty"); (case hk => walk_at "kit"))
  | ((with_reducible refine' w_int ?_))
  | ((with_reducible refine' w_intB ?_))
  | ((with_reducible refine' w_abs ?_))
  | ((with_reducible refine' w_lenL ?hh ?_); (case hh => walk_at "hp"))
  | ((with_reducible refine' w_lenT ?hh ?_); (case hh => walk_at "hp"))
  | ((with_reducible refine' w_tupL ?hh ?_); (case hh => walk_at "hp"))
  | ((with_reducible refine' w_tupT ?hh ?_); (case hh => walk_at "hp"))
  | ((with_reducible refine' w_catA ?hh ?hh2 ?hz ?_); (case hh => walk_at "hp"); (case hh2 => walk_at "hp"); (case hz => walk_at "len"))
  | ((with_reducible refine' w_repB ?hh ?hne ?h2 ?h3 ?hz ?_); (case hh => walk_at "hp"); (case hne => simp); (case h2 => omega); (case h3 => omega); (case hz => exact Nat.le_of_ble_eq_true rfl))
  | ((with_reducible refine' w_eqN ?hh ?hh2 ?n1 ?n2 ?_); (case hh => walk_at "hp"); (case hh2 => walk_at "hp"); (case n1 => walk_at "nd"); (case n2 => walk_at "nd"))
  | ((with_reducible refine' w_neN ?hh ?hh2 ?n1 ?n2 ?_); (case hh => walk_at "hp"); (case hh2 => walk_at "hp"); (case n1 => walk_at "nd"); (case n2 => walk_at "nd"))
  | ((with_reducible refine' w_eqL ?hh ?hh2 ?n1 ?n2 ?_); (case hh => walk_at "hp"); (case hh2 => walk_at "hp"); (case n1 => walk_at "nd"); (case n2 => walk_at "nd"))
  | ((with_reducible refine' w_neL ?hh ?hh2 ?n1 ?n2 ?_); (case hh => walk_at "hp"); (case hh2 => walk_at "hp"); (case n1 => walk_at "nd"); (case n2 => walk_at "nd"))
  | ((with_reducible refine' w_neNon ?hh2 ?n2 ?_); (case hh2 => walk_at "hp"); (case n2 => walk_at "nd"))
  | ((with_reducible refine' w_eqNon ?hh2 ?n2 ?_); (case hh2 => walk_at "hp"); (case n2 => walk_at "nd"))
  | ((with_reducible refine' w_slA ?hh ?_); (case hh => walk_at "hp"))
  | ((with_reducible refine' w_disp ?hz ?_); (case hz => exact sz_of (Nat.le_of_ble_eq_true rfl)))
  | ((with_reducible refine' w_tyL ?hh ?_); (case hh => walk_at "hp"))
  | (with_reducible refine' iteT ?_)
  | (with_reducible refine' iteF ?_)
  | (with_reducible refine' w_nT ?_)
  | (with_reducible refine' w_nn ?_)
  | (with_reducible refine' w_nnT ?_)
  | (with_reducible refine' w_nnR ?_)
  | (with_reducible refine' w_neG ?_)
  | (with_reducible refine' w_eqG ?_)
  | (with_reducible refine' w_neS ?_)
  | (with_reducible refine' w_eqS ?_)
  | (with_reducible refine' w_neSb ?_)
  | (with_reducible refine' w_eqSb ?_)
  | (with_reducible refine' w_deIS ?_)
  | (with_reducible refine' w_deSI ?_)
  | (with_reducible refine' w_deISn ?_)
  | ((with_reducible refine' w_deST ?he ?_); (case he => decide +kernel))
  | ((with_reducible refine' w_deSF ?he ?_); (case he => decide +kernel))
  | ((with_reducible refine' w_deSTn ?he ?_); (case he => decide +kernel))
  | ((with_reducible refine' w_deSFn ?he ?_); (case he => decide +kernel))
  | (with_reducible refine' w_nF ?_)
  | dsimp only [Bool.not_true, Bool.not_false])
local macro_rules | `(tactic| walk_at "ty") => `(tactic| first
  | exact .base (.int _) | exact .base (.str _) | exact .base (.bl _) | exact .base .non
  | ((refine' tyx_t ?hq); (case hq => walk_at "hp")) | ((refine' tyx_l ?hq); (case hq => walk_at "hp")) | ((refine' .base (.tup ?hq)); (case hq => walk_at "hp")) | assumption)
local macro_rules | `(tactic| walk_at "go") => `(tactic| repeat walk_at "go1")
local macro_rules | `(tactic| walk_at "st") => `(tactic| try dsimp only [cxOf, Cx.nox, Cx.wish])
local macro_rules | `(tactic| walk_at "kit") => `(tactic| with_reducible first | exact kit_int_int | exact kit_int_str | exact kit_int_bool | exact kit_int_tuple | exact kit_int_list | exact kit_str_int | exact kit_str_str | exact kit_str_bool | exact kit_str_tuple | exact kit_str_list | exact kit_bool_int | exact kit_bool_str | exact kit_bool_bool | exact kit_bool_tuple | exact kit_bool_list | exact kit_NoneType_int | exact kit_NoneType_str | exact kit_NoneType_bool | exact kit_NoneType_tuple | exact kit_NoneType_list | exact kit_list_int | exact kit_list_str | exact kit_list_bool | exact kit_list_tuple | exact kit_list_list | exact kit_tuple_int | exact kit_tuple_str | exact kit_tuple_bool | exact kit_tuple_tuple | exact kit_tuple_list)
local macro_rules | `(tactic| walk_at "nd") => `(tactic| first
  | assumption
  | exact Tm.nds _
  | exact Nds.nil
  | exact Nds.ofInts _
  | ((refine' Nds.cons ?na ?nb); (case na => first | exact Nds.I _ | exact Nds.L | exact Nds.A); (case nb => walk_at "nd"))
  | ((refine' Nds.app ?na ?nb); (case na => walk_at "nd"); (case nb => walk_at "nd"))
  | ((refine' Nds.rep ?na _); (case na => walk_at "nd")))
local macro_rules | `(tactic| walk_at "len") => `(tactic| first
  | exact ly_sz (by omega)
  | ((simp only [List.length_append, List.length_cons, List.length_nil, List.length_map, PyProof.Rows.lm_len_rep_flat]); exact ly_sz (by omega)))
local macro_rules | `(tactic| walk_at "go1") => `(tactic| first
  | (with_reducible refine' w_kget2 ?_)
  | (with_reducible refine' w_isRN ?_)
  | (with_reducible refine' w_isNN ?_)
  | (with_reducible refine' w_isIN ?_)
  | ((with_reducible refine' w_kg ?hd ?_); (case hd => assumption)))
local macro_rules | `(tactic| walk_at "go1") => `(tactic| first
  | ((with_reducible refine' w_extT ?hh ?hh2 ?hz ?_); (case hh => walk_at "hp"); (case hh2 => walk_at "hp"))
  | ((with_reducible refine' w_I ?hc ?_); (case hc => exact ⟨by decide, by decide, by decide⟩))
  | (with_reducible refine' w_sl ?_)
  | (with_reducible refine' w_noP ?_)
  | (with_reducible refine' w_part ?_)
  | (with_reducible refine' w_part1 ?_)
  | (with_reducible refine' w_it ?_)
  | (with_reducible refine' w_it1 ?_)
  | ((with_reducible refine' w_lenZ ?hz ?_); (case hz => omega))
  | ((with_reducible refine' w_addZb ?hz ?_); (case hz => omega))
  | ((with_reducible refine' w_addZf ?hz ?_); (case hz => omega))
  | ((with_reducible refine' w_addZa ?hz ?_); (case hz => omega))
  | ((with_reducible refine' w_inS ?hh ?_); (case hh => walk_at "hp"))
  | ((with_reducible refine' w_ixT ?hh ?ha ?_); (case hh => assumption); (case ha => exact atI_nat (by assumption))))
section
variable {P : Program} {w : World} {K : PySem.W.Frag} {mg : Str → Option Value} {base : Heap} {tk : Nat → Tok} {cl : Nat → Addr}
def spIsRed (K : PySem.W.Frag) : Sp := fun vs H Q _ => ∃ (a : Addr) (t : Tm) (i : Nat), vs = [.ref a, .int (i : Int)] ∧ SqT K H a t.enc ∧ i < t.enc.length ∧ Q (.bl (redB t.enc i)) H
theorem ok_is_redex {f : Addr} {fd : FuncData} {k : Nat} (F : Fun K "is_redex" "is_redex" s_is_redex f fd) (T : Txt w K mg tk cl) : FnOk P w K mg base CX0 (k + 1) f fd ["term", "at"] (spIsRed K) := by
  refine F.ok sc_is_redex (fun vs H Q E h => ?_) (fun cdv A outer s H vs Q E hr h => ?_)
  · obtain ⟨a, t, i, rfl, _⟩ := h
    rfl
  · obtain ⟨a, t, i, rfl, hS, hi, q⟩ := h
    refine ⟨_, (pss_one (ps_ret (pe_and (pe_cmpR op_eq (pe_ix ix_tup (pv 0) (pv 1) (fun _ _ => rfl)) pe_str (nomark _)) (pe_one (pe_cmpR op_eq (pe_ix ix_tup (pv 0) (pe_op op_add (pv 1) pe_int) (fun _ _ => rfl)) pe_str (nomark _)))))), ?_⟩
    refine sl_of (σ2 := [some _, some _]) rfl ?_
    walk_at "st"
    obtain ⟨x, hx⟩ : ∃ x, t.enc[i]? = some x := ⟨_, List.getElem?_eq_getElem hi⟩
    rcases Tm.int_nat (List.mem_of_getElem? hx) with ⟨m, rfl⟩ | rfl | rfl
    · rw [redB_of hx (by simp)] at q
      walk_at "go"
      exact q
    · rw [redB_of hx (by simp [str_ne1])] at q
      walk_at "go"
      exact q
    · obtain ⟨y, hy, hyn⟩ := t.after_app hx
      rw [redB_app hx hy] at q
      walk_at "go"
      rcases hyn with ⟨n, rfl⟩ | rfl | rfl
      · walk_at "go"
        exact q
      · walk_at "go"
        exact q
      · walk_at "go"
        exact q
def spRedIx (K : PySem.W.Frag) : Sp := fun vs H Q _ => ∃ (a : Addr) (t : Tm), vs = [.ref a] ∧ SqT K H a t.enc ∧ t.enc.length ≤ 2000000 ∧ ∀ H' p, Ex H H' → H p = none → H' p = some (.lst (nums (redI t.enc t.enc.length))) → Q (.ref p) H'
theorem ok_redix {f : Addr} {fd : FuncData} (F : Fun K "redex_indexes" "redex_indexes" s_redex_indexes f fd) (T : Txt w K mg tk cl)
    (D1 : Def P w K mg base CX0 1 "is_redex" ["term", "at"] (spIsRed K)) : FnOk P w K mg base CX0 2 f fd ["term"] (spRedIx K) := by
  obtain ⟨f1, fd1, g_is_redex, kp_is_redex, b_is_redex, G_is_redex⟩ := D1
  refine F.ok sc_redex_indexes (fun vs H Q E h => ?_) (fun cdv A outer s H vs Q E hr h => ?_)
  · obtain ⟨a, t, rfl, _⟩ := h
    rfl
  · obtain ⟨a, t, rfl, hS, hlen, q⟩ := h
    refine ⟨_, (pss_one (ps_ret (pe_lc (own := [("at", 1)]) (g := gName 1) rfl sc_redex_indexes.nd (pi_range1 (by rfl) T.n_range (pa_cons (pe_callB call_len_seq (by rfl) T.n_len (by decide +kernel) (pa_cons (pv 0) pa_nil)) pa_nil)) (blkOk_by (N := N_redex_indexes) (sc := defScope s_redex_indexes) (by decide +kernel)) (fun _ _ _ _ _ => pg_name (i := 1) sc_redex_indexes.nd rfl (Or.inl rfl)) (fun _ _ _ _ _ => (pts_one (pt_val (pe_call G_is_redex (hr.mono (by first | decide | omega)) (by rfl) g_is_redex kp_is_redex b_is_redex .nil pass0 (pa_cons (pv 0) (pa_cons (pv 1) pa_nil)))))) (fun _ _ _ _ _ => (pv 1))))), ?_⟩
    refine sl_of (σ2 := [some _, none]) rfl ?_
    walk_at "st"
    walk_at "go"
    intro nl hnl
    refine lc_range (lo := 0) (n := (t.enc.length : Int).toNat) (fun i H' => Ex H H' ∧ H' nl = some (.lst (nums (redI t.enc i)))) ⟨by walk_at "ex", upd_same⟩ ?_ ?_
    · rintro i H2 hi ⟨e2, hn2⟩
      have hil : i < t.enc.length := by omega
      have hS2 := ex_t e2 hS
      have ll : (nums (redI t.enc i)).length < 3000000 := by
        rw [List.length_map]
        have := redI_len t.enc i
        omega
      walk_at "go"
      refine ⟨a, t, i, by simp, hS2, hil, ?_⟩
      have ri : redI t.enc (i + 1) = redI t.enc i ++ (if redB t.enc i = true then [i] else []) := rfl
      cases hb : redB t.enc i with
      | true =>
        rw [hb, if_pos rfl] at ri
        walk_at "go"
        refine ⟨_, hn2, ly_lt (by omega), by walk_at "ex", ?_⟩
        rw [upd_same, ri]
        simp [nums]
      | false =>
        rw [hb, if_neg (by simp), List.append_nil] at ri
        walk_at "go"
        rw [ri]
        exact ⟨e2, hn2⟩
    · rintro H2 ⟨e2, hn2⟩
      exact q H2 nl e2 hnl hn2
end
end Ly
set_option Elab.async false
set_option linter.all false
set_option maxRecDepth 100000
set_option maxHeartbeats 8000000
namespace Ly
open PySem PySem.Spec PyProof.Rows L2 Evl
local macro_rules | `(tactic| walk_at "ne") => `(tactic| first
  | assumption
  | ((refine' Ne.symm ?hq); (case hq => assumption))
  | ((refine' ne_of_none ?nh1 ?nh2); (case nh2 => assumption); (case nh1 => walk_at "hp"))
  | ((refine' Ne.symm (ne_of_none ?nh1 ?nh2)); (case nh2 => assumption); (case nh1 => walk_at "hp")))
local macro_rules | `(tactic| walk_at "hp") => `(tactic| first
  | assumption
  | exact upd_same
  | ((refine' SqL.of ?hq); (case hq => walk_at "hp"))
  | ((refine' SqT.of ?hq); (case hq => walk_at "hp"))
  | ((refine' (upd_ne ?hne).trans ?hrest); (case hne => walk_at "ne"); (case hrest => walk_at "hp"))
  | ((refine' ly_at ?hex ?hh); (case hex => assumption); (case hh => walk_at "hp"))
  | ((refine' ly_atF ?hex ?hnn ?hh); (case hex => assumption); (case hh => walk_at "hp"); (case hnn => walk_at "ne"))
  | ((refine' ex_t ?hex ?hh); (case hh => assumption); (case hex => walk_at "ex"))
  | ((refine' ex_l ?hex ?hh); (case hh => assumption); (case hex => walk_at "ex")))
local macro_rules | `(tactic| walk_at "ex") => `(tactic| first
  | assumption
  | exact Ex.refl _
  | ((refine' ex_new ?xa ?xb); (case xb => assumption); (case xa => walk_at "ex"))
  | ((refine' ex_upd ?xa ?xb); (case xb => walk_at "free"); (case xa => walk_at "ex"))
  | ((refine' Ex.trans ?xa ?xb); (case xb => assumption); (case xa => walk_at "ex")))
local macro_rules | `(tactic| walk_at "free") => `(tactic| first
  | assumption
  | ((refine' fresh_back ?xa ?xb); (case xb => assumption); (case xa => walk_at "ex")))
local macro_rules | `(tactic| walk_at "fr") => `(tactic| first
  | assumption
  | exact Fr.refl _ _
  | ((refine' Fr.own ?hq); (case hq => walk_at "fr"))
  | ((refine' Fr.new ?xa ?xb); (case xb => assumption); (case xa => walk_at "fr"))
  | ((refine' Fr.mut ?xa ?xb); (case xb => assumption); (case xa => walk_at "fr"))
  | ((refine' Fr.trans ?xa ?xb); (case xb => assumption); (case xa => walk_at "fr"))
  | ((refine' Fr.trans ?xa (Fr.ex ?xb)); (case xb => assumption); (case xa => walk_at "fr")))
local macro_rules | `(tactic| walk_at "go1") => `(tactic| first
  | (with_reducible refine' w_seq ?_)
  | (with_reducible refine' w_asg ?_)
  | (with_reducible refine' w_ret ?_)
  | (with_reducible refine' w_drop ?_)
  | (with_reducible refine' w_if ?_)
  | (with_reducible refine' w_next ?_)
  | (with_reducible refine' w_name ?_)
  | (with_reducible refine' w_sub ?_)
  | ((with_reducible refine' w_var ?hv ?_); (case hv => exact rfl))
  | (with_reducible refine' w_c ?_)
  | (with_reducible refine' w_op ?_)
  | (with_reducible refine' w_un ?_)
  | (with_reducible refine' w_ch ?_)
  | (with_reducible refine' w_I0 ?_)
  | ((with_reducible refine' w_I ?hc ?_); (case hc => first | (exact ly_mulL (by decide) (by decide)) | (exact ly_mulR (by decide) (by decide)) | (exact ly_mulL (by omega) (by omega)) | (show (_ : Int) ≠ 0; decide) | (show (_ : Int) ≠ 0; omega) | (exact ⟨by decide, by decide⟩) | (exact ⟨by omega, by omega⟩)))
  | (with_reducible refine' w_U ?_)
  | ((with_reducible refine' w_eq ?hs ?_); (case hs => exact rfl))
  | ((with_reducible refine' w_ne ?hs ?_); (case hs => exact rfl))
  | (with_reducible refine' w_isB ?_)
  | (with_reducible refine' w_notB ?_)
  | (with_reducible refine' w_nil ?_)
  | (with_reducible refine' w_cons ?_)
  | (with_reducible refine' w_tup ?_)
  | (with_reducible refine' w_lst ?_)
  | (with_reducible refine' w_cb ?_)
  | (with_reducible refine' w_call ?_)
  | (with_reducible refine' w_bm ?_)
  | (with_reducible refine' w_bm0 ?_)
  | ((with_reducible refine' w_app ?hh ?hz ?_); (case hh => walk_at "hp"); (case hz => first | exact ly_lt (by omega) | exact ly_lt (by simp only [List.length_append, List.length_map, List.length_cons, List.length_nil]; omega)))
  | ((with_reducible refine' w_popA ?hh ?_); (case hh => walk_at "hp"))
  | ((with_reducible refine' w_ext ?hh ?hh2 ?hz ?_); (case hh => walk_at "hp"); (case hh2 => walk_at "hp"))
  | ((with_reducible refine' w_ixL ?hh ?ha ?_); (case hh => walk_at "hp"); (case ha => first | exact rfl | exact at_map (by omega) | exact atI_last _ _ | ((refine' at_of ?ae ?ah); (case ah => assumption); (case ae => omega))))
  | ((with_reducible refine' w_ixT ?hh ?ha ?_); (case hh => walk_at "hp"); (case ha => first | exact rfl | exact at_map (by omega) | exact atI_last _ _ | ((refine' at_of ?ae ?ah); (case ah => assumption); (case ae => omega))))
  | ((with_reducible refine' w_cat ?hh ?hh2 ?hz ?_); (case hh => walk_at "hp"); (case hh2 => walk_at "hp"))
  | ((with_reducible refine' w_setL ?hh ?ha ?_); (case hh => walk_at "hp"); (case ha => exact rfl))
  | (with_reducible refine' w_test ?_)
  | (with_reducible refine' w_tB ?_)
  | (with_reducible refine' w_bl ?_)
  | (with_reducible refine' w_and ?_)
  | (with_reducible refine' w_or ?_)
  | (with_reducible refine' w_not ?_)
  | (with_reducible refine' w_andV ?_)
  | (with_reducible refine' w_orV ?_)
  | (with_reducible refine' w_notV ?_)
  | (with_reducible refine' w_ifE ?_)
  | (with_reducible refine' w_for ?_)
  | ((with_reducible refine' w_nin ?hh ?_); (case hh => walk_at "hp"))
  | ((with_reducible refine' w_sorted ?hh ?_); (case hh => walk_at "hp"))
  | (with_reducible refine' w_tsadd ?_)
  | ((with_reducible refine' w_tsadd1 ?hh ?_); (case hh => walk_at "hp"))
  | ((with_reducible refine' w_sadd ?hh ?hr ?_); (case hh => walk_at "hp"); (case hr => omega))
  | (with_reducible refine' w_iZ ?_)
  | ((with_reducible refine' w_iZ1 ?hh ?hh2 ?_); (case hh => walk_at "hp"); (case hh2 => walk_at "hp"))
  | (with_reducible refine' w_iS ?_)
  | (with_reducible refine' w_iS1 ?_)
  | ((with_reducible refine' w_gtup ?hh ?hn ?_); (case hh => walk_at "hp"); (case hn => exact rfl))
  | (with_reducible refine' w_gcons ?_)
  | (with_reducible refine' w_gnil ?_)
  | (with_reducible refine' w_js ?_)
  | (with_reducible refine' w_jsn ?_)
  | ((with_reducible refine' w_js1 ?hl ?_); (case hl => decide +kernel))
  | (with_reducible refine' w_fmt ?_)
  | ((with_reducible refine' w_fmt1 ?hl ?_); (case hl => decide +kernel))
  | (with_reducible refine' w_callS ?_)
  | ((with_reducible refine' w_truL ?hh ?_); (case hh => walk_at "hp"))
  | (with_reducible refine' w_lc ?_)
  | (with_reducible refine' w_yes ?_)
  | ((with_reducible refine' w_wipe ?he ?_); (case he => exact rfl))
  | (with_reducible refine' w_iL ?_)
  | (with_reducible refine' w_iT ?_)
  | (with_reducible refine' w_iR ?_)
  | ((with_reducible refine' w_iL1 ?hh ?_); (case hh => walk_at "hp"))
  | ((with_reducible refine' w_iT1 ?hh ?_); (case hh => walk_at "hp"))
  | ((with_reducible refine' w_iR1 ?h1 ?h2 ?_); (case h1 => omega); (case h2 => omega))
  | ((with_reducible refine' w_aug ?hv ?_); (case hv => exact rfl))
  | (with_reducible refine' w_ipI ?_)
  | ((with_reducible refine' w_isi ?hy ?hk ?_); (case hy => walk_at "ty"); (case hk => walk_at "kit"))
  | ((with_reducible refine' w_int ?_))
  | ((with_reducible refine' w_intB ?_))
  | ((with_reducible refine' w_abs ?_))
  | ((with_reducible refine' w_lenL ?hh ?_); (case hh => walk_at "hp"))
  | ((with_reducible refine' w_lenT ?hh ?_); (case hh => walk_at "hp"))
  | ((with_reducible refine' w_tupL ?hh ?_); (case hh => walk_at "hp"))
  | ((with_reducible refine' w_tupT ?hh ?_); (case hh => walk_at "hp"))
  | ((with_reducible refine' w_catA ?hh ?hh2 ?hz ?_); (case hh => walk_at "hp"); (case hh2 => walk_at "hp"); (case hz => walk_at "len"))
  | ((with_reducible refine' w_repB ?hh ?hne ?h2 ?h3 ?hz ?_); (case hh => walk_at "hp"); (case hne => simp); (case h2 => omega); (case h3 => omega); (case hz => exact Nat.le_of_ble_eq_true rfl))
  | ((with_reducible refine' w_eqN ?hh ?hh2 ?n1 ?n2 ?_); (case hh => walk_at "hp"); (case hh2 => walk_at "hp"); (case n1 => walk_at "nd"); (case n2 => walk_at "nd"))
  | ((with_reducible refine' w_neN ?hh ?hh2 ?n1 ?n2 ?_); (case hh => walk_at "hp"); (case hh2 => walk_at "hp"); (case n1 => walk_at "nd"); (case n2 => walk_at "nd"))
  | ((with_reducible refine' w_eqL ?hh ?hh2 ?n1 ?n2 ?_); (case hh => walk_at "hp"); (case hh2 => walk_at "hp"); (case n1 => walk_at "nd"); (case n2 => walk_at "nd"))
  | ((with_reducible refine' w_neL ?hh ?hh2 ?n1 ?n2 ?_); (case hh => walk_at "hp"); (case hh2 => walk_at "hp"); (case n1 => walk_at "nd"); (case n2 => walk_at "nd"))
  | ((with_reducible refine' w_neNon ?hh2 ?n2 ?_); (case hh2 => walk_at "hp"); (case n2 => walk_at "nd"))
  | ((with_reducible refine' w_eqNon ?hh2 ?n2 ?_); (case hh2 => walk_at "hp"); (case n2 => walk_at "nd"))
  | ((with_reducible refine' w_slA ?hh ?_); (case hh => walk_at "hp"))
  | ((with_reducible refine' w_disp ?hz ?_); (case hz => exact sz_of (Nat.le_of_ble_eq_true rfl)))
  | ((with_reducible refine' w_tyL ?hh ?_); (case hh => walk_at "hp"))
  | (with_reducible refine' iteT ?_)
  | (with_reducible refine' iteF ?_)
  | (with_reducible refine' w_nT ?_)
  | (with_reducible refine' w_nn ?_)
  | (with_reducible refine' w_nnT ?_)
  | (with_reducible refine' w_nnR ?_)
  | (with_reducible refine' w_neG ?_)
  | (with_reducible refine' w_eqG ?_)
  | (with_reducible refine' w_neS ?_)
  | (with_reducible refine' w_eqS ?_)
  | (with_reducible refine' w_neSb ?_)
  | (with_reducible refine' w_eqSb ?_)
  | (with_reducible refine' w_deIS ?_)
  | (with_reducible refine' w_deSI ?_)
  | (with_reducible refine' w_deISn ?_)
  | ((with_reducible refine' w_deST ?he ?_); (case he => decide +kernel))
  | ((with_reducible refine' w_deSF ?he ?_); (case he => decide +kernel))
  | ((with_reducible refine' w_deSTn ?he ?_); (case he => decide +kernel))
  | ((with_reducible refine' w_deSFn ?he ?_); (case he => decide +kernel))
  | (with_reducible refine' w_nF ?_)
  | dsimp only [Bool.not_true, Bool.not_false])
local macro_rules | `(tactic| walk_at "ty") => `(tactic| first
  | exact .base (.int _) | exact .base (.str _) | exact .base (.bl _) | exact .base .non
  | ((refine' tyx_t ?hq); (case hq => walk_at "hp")) | ((refine' tyx_l ?hq); (case hq => walk_at "hp")) | ((refine' .base (.tup ?hq)); (case hq => walk_at "hp")) | assumption)
local macro_rules | `(tactic| walk_at "go") => `(tactic| repeat walk_at "go1")
local macro_rules | `(tactic| walk_at "st") => `(tactic| try dsimp only [cxOf, Cx.nox, Cx.wish])
local macro_rules | `(tactic| walk_at "kit") => `(tactic| with_reducible first | exact kit_int_int | exact kit_int_str | exact kit_int_bool | exact kit_int_tuple | exact kit_int_list | exact kit_str_int | exact kit_str_str | exact kit_str_bool | exact kit_str_tuple | exact kit_str_list | exact kit_bool_int | exact kit_bool_str | exact kit_bool_bool | exact kit_bool_tuple | exact kit_bool_list | exact kit_NoneType_int | exact kit_NoneType_str | exact kit_NoneType_bool | exact kit_NoneType_tuple | exact kit_NoneType_list | exact kit_list_int | exact kit_list_str | exact kit_list_bool | exact kit_list_tuple | exact kit_list_list | exact kit_tuple_int | exact kit_tuple_str | exact kit_tuple_bool | exact kit_tuple_tuple | exact kit_tuple_list)
local macro_rules | `(tactic| walk_at "nd") => `(tactic| first
  | assumption
  | exact Tm.nds _
  | exact Nds.nil
  | exact Nds.ofInts _
  | ((refine' Nds.cons ?na ?nb); (case na => first | exact Nds.I _ | exact Nds.L | exact Nds.A); (case nb => walk_at "nd"))
  | ((refine' Nds.app ?na ?nb); (case na => walk_at "nd"); (case nb => walk_at "nd"))
  | ((refine' Nds.rep ?na _); (case na => walk_at "nd")))
local macro_rules | `(tactic| walk_at "len") => `(tactic| first
  | exact ly_sz (by omega)
  | ((simp only [List.length_append, List.length_cons, List.length_nil, List.length_map, PyProof.Rows.lm_len_rep_flat]); exact ly_sz (by omega)))
local macro_rules | `(tactic| walk_at "go1") => `(tactic| first
  | (with_reducible refine' w_kget2 ?_)
  | (with_reducible refine' w_isRN ?_)
  | (with_reducible refine' w_isNN ?_)
  | (with_reducible refine' w_isIN ?_)
  | ((with_reducible refine' w_kg ?hd ?_); (case hd => assumption)))
local macro_rules | `(tactic| walk_at "go1") => `(tactic| first
  | ((with_reducible refine' w_extT ?hh ?hh2 ?hz ?_); (case hh => walk_at "hp"); (case hh2 => walk_at "hp"))
  | ((with_reducible refine' w_I ?hc ?_); (case hc => exact ⟨by decide, by decide, by decide⟩))
  | (with_reducible refine' w_sl ?_)
  | (with_reducible refine' w_noP ?_)
  | (with_reducible refine' w_part ?_)
  | (with_reducible refine' w_part1 ?_)
  | (with_reducible refine' w_it ?_)
  | (with_reducible refine' w_it1 ?_)
  | ((with_reducible refine' w_lenZ ?hz ?_); (case hz => omega))
  | ((with_reducible refine' w_addZb ?hz ?_); (case hz => omega))
  | ((with_reducible refine' w_addZf ?hz ?_); (case hz => omega))
  | ((with_reducible refine' w_addZa ?hz ?_); (case hz => omega))
  | ((with_reducible refine' w_inS ?hh ?_); (case hh => walk_at "hp"))
  | ((with_reducible refine' w_ixT ?hh ?ha ?_); (case hh => assumption); (case ha => exact atI_nat (by assumption))))
section
variable {P : Program} {w : World} {K : PySem.W.Frag} {mg : Str → Option Value} {base : Heap} {tk : Nat → Tok} {cl : Nat → Addr}
local macro_rules | `(tactic| walk_at "go1") => `(tactic| first
  | (with_reducible refine' w_iE ?_)
  | ((with_reducible refine' w_iE1 ?hh ?_); (case hh => walk_at "hp"))
  | (with_reducible refine' w_lstRg ?_)
  | (with_reducible refine' w_rg1 ?_)
  | (with_reducible refine' w_rg2 ?_)
  | (with_reducible refine' w_rg1a ?_)
  | (with_reducible refine' w_rg2a ?_)
  | (with_reducible refine' w_make ?_)
  | (with_reducible refine' w_sfld ?_)
  | (with_reducible refine' w_tfld ?_)
  | ((with_reducible refine' w_ext ?hh ?hh2 ?hz ?_); (case hh => walk_at "hp"); (case hh2 => walk_at "hp"); (case hz => exact ly_sz (by omega))))
def spPutO (K : PySem.W.Frag) : Sp := fun vs H Q _ => ∃ (a b : Addr) (t u : Tm), vs = [.ref a, .ref b] ∧ SqT K H a t.enc ∧ SqT K H b u.enc ∧ t.enc.length ≤ 3000 ∧ u.enc.length ≤ 3000 ∧
  ∀ H' p, Ex H H' → H p = none → H' p = some (.lst (nums (pO (List.range' t.enc.length u.enc.length) t.enc (t.deps 0) (List.range' 0 t.enc.length)))) → Q (.ref p) H'
theorem pO_take {O2 : List Nat} : ∀ {ws : List V} {ds os : List Nat} {i : Nat} {x : V} {d o : Nat}, ws[i]? = some x → ds[i]? = some d → os[i]? = some o → pO O2 (ws.take (i + 1)) (ds.take (i + 1)) (os.take (i + 1)) = pO O2 (ws.take i) (ds.take i) (os.take i) ++ (if x = .int (d : Int) then O2 else [o])
  | [], _, _, _, _, _, _, h, _, _ => by simp at h
  | _ :: _, [], _, _, _, _, _, _, h, _ => by simp at h
  | _ :: _, _ :: _, [], _, _, _, _, _, _, h => by simp at h
  | w :: ws, d0 :: ds, o0 :: os, 0, x, d, o, h1, h2, h3 => by
    simp at h1 h2 h3
    subst h1 h2 h3
    simp [pO]
  | w :: ws, d0 :: ds, o0 :: os, i + 1, x, d, o, h1, h2, h3 => by
    have ih := pO_take (O2 := O2) (ws := ws) (ds := ds) (os := os) (i := i) (x := x) (d := d) (o := o) (by simpa using h1) (by simpa using h2) (by simpa using h3)
    rw [List.take_succ_cons, List.take_succ_cons, List.take_succ_cons, List.take_succ_cons, List.take_succ_cons, List.take_succ_cons]
    simp only [pO, ih, List.append_assoc]
theorem pO_most {O2 : List Nat} : ∀ {ws : List V} {ds os : List Nat}, (pO O2 ws ds os).length ≤ ws.length * (O2.length + 1)
  | [], _, _ => by simp [pO]
  | _ :: _, [], _ => by simp [pO]
  | _ :: _, _ :: _, [] => by simp [pO]
  | w :: ws, d :: ds, o :: os => by
    have ih := pO_most (O2 := O2) (ws := ws) (ds := ds) (os := os)
    simp only [pO, List.length_append, List.length_cons, Nat.succ_mul]
    split
    · omega
    · simp only [List.length_singleton]
      omega
theorem ok_puto {f : Addr} {fd : FuncData} (F : Fun K "put_origins" "put_origins" s_put_origins f fd) (T : Txt w K mg tk cl)
    (D1 : Def P w K mg base CX0 1 "depths" ["term"] (spDepths K)) : FnOk P w K mg base CX0 2 f fd ["term", "value"] (spPutO K) := by
  obtain ⟨f1, fd1, g_depths, kp_depths, b_depths, G_depths⟩ := D1
  refine F.ok sc_put_origins (fun vs H Q E h => ?_) (fun cdv A outer s H vs Q E hr h => ?_)
  · obtain ⟨_, _, _, _, rfl, _⟩ := h
    rfl
  · obtain ⟨a, b, t, u, rfl, hS, hU, hlen, hul, q⟩ := h
    refine ⟨_, (pss_cons (ps_set (i := 2) sc_put_origins.nd rfl (.inl rfl) (pe_listRg rfl (by rfl) T.n_list (prg_2 (by rfl) T.n_range (pe_callB call_len_seq (by rfl) T.n_len (by decide +kernel) (pa_cons (pv 0) pa_nil)) (pe_op op_add (pe_callB call_len_seq (by rfl) T.n_len (by decide +kernel) (pa_cons (pv 0) pa_nil)) (pe_callB call_len_seq (by rfl) T.n_len (by decide +kernel) (pa_cons (pv 1) pa_nil)))))) (pss_cons (ps_set (i := 3) sc_put_origins.nd rfl (.inl rfl) (pe_lst pa_nil)) (pss_cons (ps_for PassesOwn.never rfl (pi_enum (by rfl) T.n_enumerate (pa_cons (pe_call G_depths (hr.mono (by first | decide | omega)) (by rfl) g_depths kp_depths b_depths .nil pass0 (pa_cons (pv 0) pa_nil)) pa_nil)) (pg_tup (by rfl) (pgs_cons (pg_name (i := 4) sc_put_origins.nd rfl (.inl rfl)) (pgs_cons (pg_name (i := 5) sc_put_origins.nd rfl (.inl rfl)) pgs_nil))) (pss_one (ps_if (pt_cmpR op_eq (pe_ix ix_tup (pv 0) (pv 4) (fun _ _ => rfl)) (pv 5) (nomark _)) (pss_one (ps_expr (pe_bm PySem.F.plainAttrs_list PySem.F.slot_list_extend PySem.F.type_list_extend mt_extend (pv 3) (pa_cons (pv 2) pa_nil)))) (pss_one (ps_expr (pe_bm PySem.F.plainAttrs_list PySem.F.slot_list_append PySem.F.type_list_append mt_append (pv 3) (pa_cons (pv 4) pa_nil))))))) (pss_one (ps_ret (pv 3)))))), ?_⟩
    refine sl_of (σ2 := [some _, some _, none, none, none, none]) rfl ?_
    walk_at "st"
    walk_at "go"
    refine ⟨RgOk.of_le (by omega) (by omega) (by omega) (by omega), fun ol hol => ?_⟩
    have er : rgV (t.enc.length : Int) ((t.enc.length : Int) + (u.enc.length : Int)) = nums (List.range' t.enc.length u.enc.length) := by
      rw [← Int.natCast_add, rgV_nat, Nat.add_sub_cancel_left]
    rw [er]
    have hS1 := ex_t (Ex.new hol (o := .lst (nums (List.range' t.enc.length u.enc.length)))) hS
    have e1 : Ex H (upd H ol (.lst (nums (List.range' t.enc.length u.enc.length)))) := Ex.new hol
    have ho1 : upd H ol (.lst (nums (List.range' t.enc.length u.enc.length))) ol = some (.lst (nums (List.range' t.enc.length u.enc.length))) := upd_same
    generalize upd H ol (.lst (nums (List.range' t.enc.length u.enc.length))) = H1 at *
    walk_at "go"
    intro fl hfl
    have hof : ol ≠ fl := ne_of_none ho1 hfl
    have hfl0 : H fl = none := fresh_back e1 hfl
    have hS2 := ex_t (Ex.new hfl (o := .lst [])) hS1
    walk_at "go"
    refine ⟨a, t, rfl, hS2, by omega, fun H2 dl e2 hdl hd2 => ?_⟩
    have hf2 : H2 fl = some (.lst []) := e2 _ _ upd_same
    have e02 : Ex H H2 := (ex_new e1 hfl).trans e2
    have hS3 := ex_t e02 hS
    have ho2 : H2 ol = some (.lst (nums (List.range' t.enc.length u.enc.length))) := e2 _ _ (Ex.new hfl _ _ ho1)
    walk_at "go"
    refine for_enum (K := K) (a := dl) (xs := nums (t.deps 0)) (fun i σ H' => ∃ y1 y2, σ = [some (.ref a), some (.ref b), some (.ref ol), some (.ref fl), y1, y2] ∧ Ex H H' ∧ H' dl = some (.lst (nums (t.deps 0))) ∧ H' ol = some (.lst (nums (List.range' t.enc.length u.enc.length))) ∧
        H' fl = some (.lst (nums (pO (List.range' t.enc.length u.enc.length) (t.enc.take i) ((t.deps 0).take i) ((List.range' 0 t.enc.length).take i)))))
      ⟨none, none, rfl, e02, hd2, ho2, by rw [hf2]; simp [pO]⟩ (fun i σ H' ⟨_, _, _, _, h, _⟩ => SqL.of h) ?_ ?_
    · rintro i x T0 σ H3 hi hT ⟨y1, y2, rfl, e3, hd3, ho3, hf3⟩
      obtain ⟨d, hd, rfl⟩ := nums_at hi
      have hil : i < t.enc.length := by
        have := (List.getElem?_eq_some_iff.mp hd).1
        rwa [t.deps_len] at this
      obtain ⟨w0, hw0⟩ : ∃ w0, t.enc[i]? = some w0 := ⟨_, List.getElem?_eq_getElem hil⟩
      have hr0 : (List.range' 0 t.enc.length)[i]? = some i := by rw [List.getElem?_range' hil]; simp
      have tk := pO_take (O2 := List.range' t.enc.length u.enc.length) hw0 hd hr0
      have most := pO_most (O2 := List.range' t.enc.length u.enc.length) (ws := t.enc.take i) (ds := (t.deps 0).take i) (os := (List.range' 0 t.enc.length).take i)
      rw [List.length_range', List.length_take] at most
      have m2 : (min i t.enc.length) * (u.enc.length + 1) ≤ 3000 * 3001 := Nat.mul_le_mul (by omega) (by omega)
      generalize pO (List.range' t.enc.length u.enc.length) (t.enc.take i) ((t.deps 0).take i) ((List.range' 0 t.enc.length).take i) = done at *
      have dll : (nums done).length = done.length := List.length_map _
      have oll : (nums (List.range' t.enc.length u.enc.length)).length = u.enc.length := by simp
      have hTf : T0 ≠ fl := (ne_of_none hf3 hT).symm
      have hTo : T0 ≠ ol := (ne_of_none ho3 hT).symm
      have hTd : T0 ≠ dl := (ne_of_none hd3 hT).symm
      have hS4 := ex_t (e3.trans (Ex.new hT (o := .tup [V.int (i : Int), V.int (d : Int)]))) hS
      have hf4 := Ex.new hT (o := .tup [V.int (i : Int), V.int (d : Int)]) _ _ hf3
      have ho4 := Ex.new hT (o := .tup [V.int (i : Int), V.int (d : Int)]) _ _ ho3
      have hd4 := Ex.new hT (o := .tup [V.int (i : Int), V.int (d : Int)]) _ _ hd3
      have e4 : Ex H (upd H3 T0 (.tup [V.int (i : Int), V.int (d : Int)])) := ex_new e3 hT
      walk_at "go"
      have fin1 : (if w0 = .int (d : Int) then List.range' t.enc.length u.enc.length else [i]) = [i] → upd (upd H3 T0 (.tup [V.int (i : Int), V.int (d : Int)])) fl (.lst (nums done ++ [V.int (i : Int)])) fl = some (.lst (nums (pO (List.range' t.enc.length u.enc.length) (t.enc.take (i + 1)) ((t.deps 0).take (i + 1)) ((List.range' 0 t.enc.length).take (i + 1))))) := fun h => by
        rw [upd_same, tk, h]
        simp [nums]
      rcases Tm.int_nat (List.mem_of_getElem? hw0) with ⟨m, rfl⟩ | rfl | rfl
      · walk_at "go"
        refine w_brI (fun c => ?_) (fun c => ?_)
        · walk_at "go"
          refine ⟨_, _, rfl, ex_upd e4 hfl0, by walk_at "hp", by walk_at "hp", ?_⟩
          rw [upd_same, tk, if_pos (by rw [c])]
          simp [nums]
        · walk_at "go"
          exact ⟨_, _, rfl, ex_upd e4 hfl0, by walk_at "hp", by walk_at "hp", fin1 (if_neg fun z => c (V.int.inj z))⟩
      · walk_at "go"
        exact ⟨_, _, rfl, ex_upd e4 hfl0, by walk_at "hp", by walk_at "hp", fin1 (if_neg (by simp))⟩
      · walk_at "go"
        exact ⟨_, _, rfl, ex_upd e4 hfl0, by walk_at "hp", by walk_at "hp", fin1 (if_neg (by simp))⟩
    · rintro σ H3 ⟨y1, y2, rfl, e3, hd3, ho3, hf3⟩
      have e9 : (nums (t.deps 0)).length = t.enc.length := by rw [List.length_map, t.deps_len]
      rw [e9, List.take_length, List.take_of_length_le (by rw [t.deps_len]; exact Nat.le_refl _), List.take_of_length_le (by simp)] at hf3
      walk_at "go"
      exact q H3 fl e3 hfl0 hf3
def mvF (t : Addr) (i : Nat) (r o : Addr) : List (Str × V) := putF "origins" (.ref o) (putF "result" (.ref r) (putF "at" (.int (i : Int)) (putF "term" (.ref t) [])))
/-- an object that is a move: its term, its place's index, where it leads, where the nodes come from -/
def MvAt (K : PySem.W.Frag) (C : Addr) (n : Addr → Prop) (H : Hp) (x : Addr) (t : Tm) (p : List Nat) (i : Nat) (b u : Tm) : Prop :=
  t.Red p i b u ∧ ∃ dx ta ra oa, H x = some (.ins C dx (mvF ta i ra oa)) ∧ SqT K H ta t.enc ∧ SqT K H ra (t.step p).enc ∧ H oa = some (.lst (nums (stepO t i b u))) ∧ n oa
theorem MvAt.ex {C : Addr} {n : Addr → Prop} {H H' : Hp} {x : Addr} {t : Tm} {p : List Nat} {i : Nat} {b u : Tm} (h : MvAt K C n H x t p i b u) (e : Ex H H') : MvAt K C n H' x t p i b u := by
  obtain ⟨hr, dx, ta, ra, oa, h1, h2, h3, h4, h5⟩ := h
  exact ⟨hr, dx, ta, ra, oa, e _ _ h1, ex_t e h2, ex_t e h3, e _ _ h4, h5⟩
theorem MvAt.mono {C : Addr} {n n' : Addr → Prop} {H : Hp} {x : Addr} {t : Tm} {p : List Nat} {i : Nat} {b u : Tm} (h : MvAt K C n H x t p i b u) (e : ∀ a, n a → n' a) : MvAt K C n' H x t p i b u := by
  obtain ⟨hr, dx, ta, ra, oa, h1, h2, h3, h4, h5⟩ := h
  exact ⟨hr, dx, ta, ra, oa, h1, h2, h3, h4, e _ h5⟩
/-- a list that is not among them changes -/
theorem MvAt.keep {C l : Addr} {n : Addr → Prop} (hn : ∀ a, n a → a ≠ l) {H : Hp} {ys zs : List V} {x : Addr} {t : Tm} {p : List Nat} {i : Nat} {b u : Tm} (h : MvAt K C n H x t p i b u) (hl : H l = some (.lst ys)) : MvAt K C n (upd H l (.lst zs)) x t p i b u := by
  obtain ⟨hr, dx, ta, ra, oa, h1, h2, h3, h4, h5⟩ := h
  exact ⟨hr, dx, ta, ra, oa, by rw [upd_ne (fun z => by rw [z, hl] at h1; cases h1)]; exact h1, sqt_keep hl h2, sqt_keep hl h3, by rw [upd_ne (hn _ h5)]; exact h4, h5⟩
end
end Ly
set_option Elab.async false
set_option linter.all false
set_option maxRecDepth 100000
set_option maxHeartbeats 8000000
namespace Ly
open PySem PySem.Spec PyProof.Rows L2 Evl
local macro_rules | `(tactic| walk_at "ne") => `(tactic| first
  | assumption
  | ((refine' Ne.symm ?hq); (case hq => assumption))
  | ((refine' ne_of_none ?nh1 ?nh2); (case nh2 => assumption); (case nh1 => walk_at "hp"))
  | ((refine' Ne.symm (ne_of_none ?nh1 ?nh2)); (case nh2 => assumption); (case nh1 => walk_at "hp")))
local macro_rules | `(tactic| walk_at "hp") => `(tactic| first
  | assumption
  | exact upd_same
  | ((refine' SqL.of ?hq); (case hq => walk_at "hp"))
  | ((refine' SqT.of ?hq); (case hq => walk_at "hp"))
  | ((refine' (upd_ne ?hne).trans ?hrest); (case hne => walk_at "ne"); (case hrest => walk_at "hp"))
  | ((refine' ly_at ?hex ?hh); (case hex => assumption); (case hh => walk_at "hp"))
  | ((refine' ly_atF ?hex ?hnn ?hh); (case hex => assumption); (case hh => walk_at "hp"); (case hnn => walk_at "ne"))
  | ((refine' ex_t ?hex ?hh); (case hh => assumption); (case hex => walk_at "ex"))
  | ((refine' ex_l ?hex ?hh); (case hh => assumption); (case hex => walk_at "ex")))
local macro_rules | `(tactic| walk_at "ex") => `(tactic| first
  | assumption
  | exact Ex.refl _
  | ((refine' ex_new ?xa ?xb); (case xb => assumption); (case xa => walk_at "ex"))
  | ((refine' ex_upd ?xa ?xb); (case xb => walk_at "free"); (case xa => walk_at "ex"))
  | ((refine' Ex.trans ?xa ?xb); (case xb => assumption); (case xa => walk_at "ex")))
local macro_rules | `(tactic| walk_at "free") => `(tactic| first
  | assumption
  | ((refine' fresh_back ?xa ?xb); (case xb => assumption); (case xa => walk_at "ex")))
local macro_rules | `(tactic| walk_at "fr") => `(tactic| first
  | assumption
  | exact Fr.refl _ _
  | ((refine' Fr.own ?hq); (case hq => walk_at "fr"))
  | ((refine' Fr.new ?xa ?xb); (case xb => assumption); (case xa => walk_at "fr"))
  | ((refine' Fr.mut ?xa ?xb); (case xb => assumption); (case xa => walk_at "fr"))
  | ((refine' Fr.trans ?xa ?xb); (case xb => assumption); (case xa => walk_at "fr"))
  | ((refine' Fr.trans ?xa (Fr.ex ?xb)); (case xb => assumption); (case xa => walk_at "fr")))
local macro_rules | `(tactic| walk_at "go1") => `(tactic| first
  | (with_reducible refine' w_seq ?_)
  | (with_reducible refine' w_asg ?_)
  | (with_reducible refine' w_ret ?_)
  | (with_reducible refine' w_drop ?_)
  | (with_reducible refine' w_if ?_)
  | (with_reducible refine' w_next ?_)
  | (with_reducible refine' w_name ?_)
  | (with_reducible refine' w_sub ?_)
  | ((with_reducible refine' w_var ?hv ?_); (case hv => exact rfl))
  | (with_reducible refine' w_c ?_)
  | (with_reducible refine' w_op ?_)
  | (with_reducible refine' w_un ?_)
  | (with_reducible refine' w_ch ?_)
  | (with_reducible refine' w_I0 ?_)
  | ((with_reducible refine' w_I ?hc ?_); (case hc => first | (exact ly_mulL (by decide) (by decide)) | (exact ly_mulR (by decide) (by decide)) | (exact ly_mulL (by omega) (by omega)) | (show (_ : Int) ≠ 0; decide) | (show (_ : Int) ≠ 0; omega) | (exact ⟨by decide, by decide⟩) | (exact ⟨by omega, by omega⟩)))
  | (with_reducible refine' w_U ?_)
  | ((with_reducible refine' w_eq ?hs ?_); (case hs => exact rfl))
  | ((with_reducible refine' w_ne ?hs ?_); (case hs => exact rfl))
  | (with_reducible refine' w_isB ?_)
  | (with_reducible refine' w_notB ?_)
  | (with_reducible refine' w_nil ?_)
  | (with_reducible refine' w_cons ?_)
  | (with_reducible refine' w_tup ?_)
  | (with_reducible refine' w_lst ?_)
  | (with_reducible refine' w_cb ?_)
  | (with_reducible refine' w_call ?_)
  | (with_reducible refine' w_bm ?_)
  | (with_reducible refine' w_bm0 ?_)
  | ((with_reducible refine' w_app ?hh ?hz ?_); (case hh => walk_at "hp"); (case hz => first | exact ly_lt (by omega) | exact ly_lt (by simp only [List.length_append, List.length_map, List.length_cons, List.length_nil]; omega)))
  | ((with_reducible refine' w_popA ?hh ?_); (case hh => walk_at "hp"))
  | ((with_reducible refine' w_ext ?hh ?hh2 ?hz ?_); (case hh => walk_at "hp"); (case hh2 => walk_at "hp"))
  | ((with_reducible refine' w_ixL ?hh ?ha ?_); (case hh => walk_at "hp"); (case ha => first | exact rfl | exact at_map (by omega) | exact atI_last _ _ | ((refine' at_of ?ae ?ah); (case ah => assumption); (case ae => omega))))
  | ((with_reducible refine' w_ixT ?hh ?ha ?_); (case hh => walk_at "hp"); (case ha => first | exact rfl | exact at_map (by omega) | exact atI_last _ _ | ((refine' at_of ?ae ?ah); (case ah => assumption); (case ae => omega))))
  | ((with_reducible refine' w_cat ?hh ?hh2 ?hz ?_); (case hh => walk_at "hp"); (case hh2 => walk_at "hp"))
  | ((with_reducible refine' w_setL ?hh ?ha ?_); (case hh => walk_at "hp"); (case ha => exact rfl))
  | (with_reducible refine' w_test ?_)
  | (with_reducible refine' w_tB ?_)
  | (with_reducible refine' w_bl ?_)
  | (with_reducible refine' w_and ?_)
  | (with_reducible refine' w_or ?_)
  | (with_reducible refine' w_not ?_)
  | (with_reducible refine' w_andV ?_)
  | (with_reducible refine' w_orV ?_)
  | (with_reducible refine' w_notV ?_)
  | (with_reducible refine' w_ifE ?_)
  | (with_reducible refine' w_for ?_)
  | ((with_reducible refine' w_nin ?hh ?_); (case hh => walk_at "hp"))
  | ((with_reducible refine' w_sorted ?hh ?_); (case hh => walk_at "hp"))
  | (with_reducible refine' w_tsadd ?_)
  | ((with_reducible refine' w_tsadd1 ?hh ?_); (case hh => walk_at "hp"))
  | ((with_reducible refine' w_sadd ?hh ?hr ?_); (case hh => walk_at "hp"); (case hr => omega))
  | (with_reducible refine' w_iZ ?_)
  | ((with_reducible refine' w_iZ1 ?hh ?hh2 ?_); (case hh => walk_at "hp"); (case hh2 => walk_at "hp"))
  | (with_reducible refine' w_iS ?_)
  | (with_reducible refine' w_iS1 ?_)
  | ((with_reducible refine' w_gtup ?hh ?hn ?_); (case hh => walk_at "hp"); (case hn => exact rfl))
  | (with_reducible refine' w_gcons ?_)
  | (with_reducible refine' w_gnil ?_)
  | (with_reducible refine' w_js ?_)
  | (with_reducible refine' w_jsn ?_)
  | ((with_reducible refine' w_js1 ?hl ?_); (case hl => decide +kernel))
  | (with_reducible refine' w_fmt ?_)
  | ((with_reducible refine' w_fmt1 ?hl ?_); (case hl => decide +kernel))
  | (with_reducible refine' w_callS ?_)
  | ((with_reducible refine' w_truL ?hh ?_); (case hh => walk_at "hp"))
  | (with_reducible refine' w_lc ?_)
  | (with_reducible refine' w_yes ?_)
  | ((with_reducible refine' w_wipe ?he ?_); (case he => exact rfl))
  | (with_reducible refine' w_iL ?_)
  | (with_reducible refine' w_iT ?_)
  | (with_reducible refine' w_iR ?_)
  | ((with_reducible refine' w_iL1 ?hh ?_); (case hh => walk_at "hp"))
  | ((with_reducible refine' w_iT1 ?hh ?_); (case hh => walk_at "hp"))
  | ((with_reducible refine' w_iR1 ?h1 ?h2 ?_); (case h1 => omega); (case h2 => omega))
  | ((with_reducible refine' w_aug ?hv ?_); (case hv => exact rfl))
  | (with_reducible refine' w_ipI ?_)
  | ((with_reducible refine' w_isi ?hy ?hk ?_); (case hy => walk_at "ty"); (case hk => walk_at "kit"))
  | ((with_reducible refine' w_int ?_))
  | ((with_reducible refine' w_intB ?_))
  | ((with_reducible refine' w_abs ?_))
  | ((with_reducible refine' w_lenL ?hh ?_); (case hh => walk_at "hp"))
  | ((with_reducible refine' w_lenT ?hh ?_); (case hh => walk_at "hp"))
  | ((with_reducible refine' w_tupL ?hh ?_); (case hh => walk_at "hp"))
  | ((with_reducible refine' w_tupT ?hh ?_); (case hh => walk_at "hp"))
  | ((with_reducible refine' w_catA ?hh ?hh2 ?hz ?_); (case hh => walk_at "hp"); (case hh2 => walk_at "hp"); (case hz => walk_at "len"))
  | ((with_reducible refine' w_repB ?hh ?hne ?h2 ?h3 ?hz ?_); (case hh => walk_at "hp"); (case hne => simp); (case h2 => omega); (case h3 => omega); (case hz => exact Nat.le_of_ble_eq_true rfl))
  | ((with_reducible refine' w_eqN ?hh ?hh2 ?n1 ?n2 ?_); (case hh => walk_at "hp"); (case hh2 => walk_at "hp"); (case n1 => walk_at "nd"); (case n2 => walk_at "nd"))
  | ((with_reducible refine' w_neN ?hh ?hh2 ?n1 ?n2 ?_); (case hh => walk_at "hp"); (case hh2 => walk_at "hp"); (case n1 => walk_at "nd"); (case n2 => walk_at "nd"))
  | ((with_reducible refine' w_eqL ?hh ?hh2 ?n1 ?n2 ?_); (case hh => walk_at "hp"); (case hh2 => walk_at "hp"); (case n1 => walk_at "nd"); (case n2 => walk_at "nd"))
  | ((with_reducible refine' w_neL ?hh ?hh2 ?n1 ?n2 ?_); (case hh => walk_at "hp"); (case hh2 => walk_at "hp"); (case n1 => walk_at "nd"); (case n2 => walk_at "nd"))
  | ((with_reducible refine' w_neNon ?hh2 ?n2 ?_); (case hh2 => walk_at "hp"); (case n2 => walk_at "nd"))
  | ((with_reducible refine' w_eqNon ?hh2 ?n2 ?_); (case hh2 => walk_at "hp"); (case n2 => walk_at "nd"))
  | ((with_reducible refine' w_slA ?hh ?_); (case hh => walk_at "hp"))
  | ((with_reducible refine' w_disp ?hz ?_); (case hz => exact sz_of (Nat.le_of_ble_eq_true rfl)))
  | ((with_reducible refine' w_tyL ?hh ?_); (case hh => walk_at "hp"))
  | (with_reducible refine' iteT ?_)
  | (with_reducible refine' iteF ?_)
  | (with_reducible refine' w_nT ?_)
  | (with_reducible refine' w_nn ?_)
  | (with_reducible refine' w_nnT ?_)
  | (with_reducible refine' w_nnR ?_)
  | (with_reducible refine' w_neG ?_)
  | (with_reducible refine' w_eqG ?_)
  | (with_reducible refine' w_neS ?_)
  | (with_reducible refine' w_eqS ?_)
  | (with_reducible refine' w_neSb ?_)
  | (with_reducible refine' w_eqSb ?_)
  | (with_reducible refine' w_deIS ?_)
  | (with_reducible refine' w_deSI ?_)
  | (with_reducible refine' w_deISn ?_)
  | ((with_reducible refine' w_deST ?he ?_); (case he => decide +kernel))
  | ((with_reducible refine' w_deSF ?he ?_); (case he => decide +kernel))
  | ((with_reducible refine' w_deSTn ?he ?_); (case he => decide +kernel))
  | ((with_reducible refine' w_deSFn ?he ?_); (case he => decide +kernel))
  | (with_reducible refine' w_nF ?_)
  | dsimp only [Bool.not_true, Bool.not_false])
local macro_rules | `(tactic| walk_at "ty") => `(tactic| first
  | exact .base (.int _) | exact .base (.str _) | exact .base (.bl _) | exact .base .non
  | ((refine' tyx_t ?hq); (case hq => walk_at "hp")) | ((refine' tyx_l ?hq); (case hq => walk_at "hp")) | ((refine' .base (.tup ?hq)); (case hq => walk_at "hp")) | assumption)
local macro_rules | `(tactic| walk_at "go") => `(tactic| repeat walk_at "go1")
local macro_rules | `(tactic| walk_at "st") => `(tactic| try dsimp only [cxOf, Cx.nox, Cx.wish])
local macro_rules | `(tactic| walk_at "kit") => `(tactic| with_reducible first | exact kit_int_int | exact kit_int_str | exact kit_int_bool | exact kit_int_tuple | exact kit_int_list | exact kit_str_int | exact kit_str_str | exact kit_str_bool | exact kit_str_tuple | exact kit_str_list | exact kit_bool_int | exact kit_bool_str | exact kit_bool_bool | exact kit_bool_tuple | exact kit_bool_list | exact kit_NoneType_int | exact kit_NoneType_str | exact kit_NoneType_bool | exact kit_NoneType_tuple | exact kit_NoneType_list | exact kit_list_int | exact kit_list_str | exact kit_list_bool | exact kit_list_tuple | exact kit_list_list | exact kit_tuple_int | exact kit_tuple_str | exact kit_tuple_bool | exact kit_tuple_tuple | exact kit_tuple_list)
local macro_rules | `(tactic| walk_at "nd") => `(tactic| first
  | assumption
  | exact Tm.nds _
  | exact Nds.nil
  | exact Nds.ofInts _
  | ((refine' Nds.cons ?na ?nb); (case na => first | exact Nds.I _ | exact Nds.L | exact Nds.A); (case nb => walk_at "nd"))
  | ((refine' Nds.app ?na ?nb); (case na => walk_at "nd"); (case nb => walk_at "nd"))
  | ((refine' Nds.rep ?na _); (case na => walk_at "nd")))
local macro_rules | `(tactic| walk_at "len") => `(tactic| first
  | exact ly_sz (by omega)
  | ((simp only [List.length_append, List.length_cons, List.length_nil, List.length_map, PyProof.Rows.lm_len_rep_flat]); exact ly_sz (by omega)))
local macro_rules | `(tactic| walk_at "go1") => `(tactic| first
  | (with_reducible refine' w_kget2 ?_)
  | (with_reducible refine' w_isRN ?_)
  | (with_reducible refine' w_isNN ?_)
  | (with_reducible refine' w_isIN ?_)
  | ((with_reducible refine' w_kg ?hd ?_); (case hd => assumption)))
local macro_rules | `(tactic| walk_at "go1") => `(tactic| first
  | ((with_reducible refine' w_extT ?hh ?hh2 ?hz ?_); (case hh => walk_at "hp"); (case hh2 => walk_at "hp"))
  | ((with_reducible refine' w_I ?hc ?_); (case hc => exact ⟨by decide, by decide, by decide⟩))
  | (with_reducible refine' w_sl ?_)
  | (with_reducible refine' w_noP ?_)
  | (with_reducible refine' w_part ?_)
  | (with_reducible refine' w_part1 ?_)
  | (with_reducible refine' w_it ?_)
  | (with_reducible refine' w_it1 ?_)
  | ((with_reducible refine' w_lenZ ?hz ?_); (case hz => omega))
  | ((with_reducible refine' w_addZb ?hz ?_); (case hz => omega))
  | ((with_reducible refine' w_addZf ?hz ?_); (case hz => omega))
  | ((with_reducible refine' w_addZa ?hz ?_); (case hz => omega))
  | ((with_reducible refine' w_inS ?hh ?_); (case hh => walk_at "hp"))
  | ((with_reducible refine' w_ixT ?hh ?ha ?_); (case hh => assumption); (case ha => exact atI_nat (by assumption))))
local macro_rules | `(tactic| walk_at "go1") => `(tactic| first
  | (with_reducible refine' w_iR2 ?_)
  | ((with_reducible refine' w_iR21 ?h1 ?h2 ?h3 ?h4 ?_); (case h1 => omega); (case h2 => omega); (case h3 => omega); (case h4 => omega))
  | (with_reducible refine' w_nnI ?_)
  | (with_reducible refine' w_max ?_)
  | (with_reducible refine' w_break ?_)
  | (with_reducible refine' w_cont ?_))
local macro_rules | `(tactic| walk_at "go1") => `(tactic| first
  | (with_reducible refine' w_tdget ?_)
  | (with_reducible refine' w_tdin ?_)
  | (with_reducible refine' w_tdnotin ?_)
  | (with_reducible refine' w_sdput ?_)
  | (with_reducible refine' w_tdsetd ?_)
  | (with_reducible refine' w_dnew ?_))
section
variable {P : Program} {w : World} {K : PySem.W.Frag} {mg : Str → Option Value} {base : Heap} {tk : Nat → Tok} {cl : Nat → Addr}
local macro_rules | `(tactic| walk_at "go1") => `(tactic| first
  | (with_reducible refine' w_dc ?_))
def spAllR (K : PySem.W.Frag) : Sp := fun vs H Q _ => ∃ (a : Addr) (t : Tm), vs = [.ref a] ∧ SqT K H a t.enc ∧ t.enc.length ≤ 3000 ∧ ∀ H' p kvs, Ex H H' → H p = none → H' p = some (.dK kvs) → ChD kvs (redB t.enc) → Q (.ref p) H'
theorem ok_allred {f : Addr} {fd : FuncData} (F : Fun K "all_redexes" "all_redexes" s_all_redexes f fd) (T : Txt w K mg tk cl)
    (D1 : Def P w K mg base CX0 2 "redex_indexes" ["term"] (spRedIx K)) : FnOk P w K mg base CX0 3 f fd ["term"] (spAllR K) := by
  obtain ⟨f1, fd1, g_redex_indexes, kp_redex_indexes, b_redex_indexes, G_redex_indexes⟩ := D1
  refine F.ok sc_all_redexes (fun vs H Q E h => ?_) (fun cdv A outer s H vs Q E hr h => ?_)
  · obtain ⟨a, t, rfl, _⟩ := h
    rfl
  · obtain ⟨a, t, rfl, hS, hlen, q⟩ := h
    refine ⟨_, (pss_one (ps_ret (pe_dc (own := [("at", 1)]) (g := gName 1) (tt := tYes) rfl sc_all_redexes.nd (pi_list (pe_call G_redex_indexes (hr.mono (by first | decide | omega)) (by rfl) g_redex_indexes kp_redex_indexes b_redex_indexes .nil pass0 (pa_cons (pv 0) pa_nil))) (blkOk_by (N := N_all_redexes) (sc := defScope s_all_redexes) (by decide +kernel)) (fun _ _ _ _ _ => pg_name (i := 1) sc_all_redexes.nd rfl (Or.inl rfl)) (fun _ _ _ _ _ => pts_nil) (fun _ _ _ _ _ => (pv 1)) (fun _ _ _ _ _ => pe_bl)))), ?_⟩
    refine sl_of (σ2 := [some _, none]) rfl ?_
    walk_at "st"
    walk_at "go"
    refine ⟨a, t, rfl, hS, by omega, fun H1 l e1 hl hl1 => ?_⟩
    walk_at "go"
    intro dn hdn
    have nl0 : l ≠ dn := ne_of_none hl1 hdn
    have rl := redI_len t.enc t.enc.length
    refine dc_list (xs := nums (redI t.enc t.enc.length)) (fun i H' => Ex H H' ∧ H' l = some (.lst (nums (redI t.enc t.enc.length))) ∧ ∃ kvs, H' dn = some (.dK kvs) ∧ kvs.length ≤ i ∧ ∀ z : Int, (valV kvs (.inl z)).isSome = true ↔ ∃ k, k ∈ (redI t.enc t.enc.length).take i ∧ z = (k : Int))
      ⟨e1.trans (Ex.new hdn), by rw [upd_ne nl0]; exact hl1, [], upd_same, Nat.le_refl _, fun z => by simp [valV]⟩ (fun i H' h => SqL.of h.2.1) ?_ ?_
    · rintro i x H2 hi ⟨e2, hl2, kvs, hd2, hk2, hv2⟩
      obtain ⟨k, hk, rfl⟩ := nums_at hi
      have il := (List.getElem?_eq_some_iff.mp hk).1
      walk_at "go"
      refine ⟨kvs, .inl (k : Int), rfl, hd2, ly_lt (by omega), e2.mut (fresh_back e1 hdn), by rw [upd_ne nl0]; exact hl2, _, upd_same, ?_, fun z => ?_⟩
      · have := length_putK kvs (.inl (k : Int)) (.bl true)
        omega
      · rw [valV_put, List.take_add_one, hk]
        by_cases e : z = (k : Int)
        · subst e
          rw [if_pos rfl]
          exact ⟨fun _ => ⟨k, by simp, rfl⟩, fun _ => rfl⟩
        · rw [if_neg (fun h => e (Sum.inl.inj h)), hv2 z]
          constructor
          · rintro ⟨j, hj, ej⟩
            exact ⟨j, List.mem_append_left _ hj, ej⟩
          · rintro ⟨j, hj, ej⟩
            rcases List.mem_append.mp hj with h | h
            · exact ⟨j, h, ej⟩
            · exfalso
              have : j = k := by simpa using h
              exact e (by rw [ej, this])
    · rintro H2 ⟨e2, hl2, kvs, hd2, hk2, hv2⟩
      refine q H2 dn kvs e2 (fresh_back e1 hdn) hd2 fun z => ?_
      have tk : (redI t.enc t.enc.length).take (nums (redI t.enc t.enc.length)).length = redI t.enc t.enc.length := List.take_of_length_le (by rw [List.length_map]; exact Nat.le_refl _)
      rw [Bool.eq_iff_iff, decide_eq_true_iff, hv2 z, tk]
      constructor
      · rintro ⟨k, hk, rfl⟩
        exact ⟨by omega, by rw [Int.toNat_natCast]; exact (redI_mem.mp hk).2⟩
      · rintro ⟨h0, hb⟩
        exact ⟨z.toNat, redI_mem.mpr ⟨by have := redB_lt hb; omega, hb⟩, by omega⟩
def spJoined (K : PySem.W.Frag) (C1 : Addr) : Sp := fun vs H Q E => ∃ (h l : Addr) (xs : List V) (os : List Nat) (as : List Addr) (ps : List (List V × List Nat)), vs = [.ref h, .ref l] ∧ Pr2 K H h xs os ∧ H l = some (.lst (refs as)) ∧ Prs2 K H as ps ∧ as ≠ [] ∧
  xs.length + (ps.map (·.1)).flatten.length ≤ 100000 ∧ os.length + (ps.map (·.2)).flatten.length ≤ 100000 ∧
  (xs.length + (ps.map (·.1)).flatten.length ≤ 1000 → ∀ H' p T O, Ex H H' → SqT K H' p [.ref T, .ref O] → SqT K H' T (xs ++ (ps.map (·.1)).flatten) → H O = none → H' O = some (.lst (nums (os ++ (ps.map (·.2)).flatten))) → Q (.ref p) H') ∧
  (¬ xs.length + (ps.map (·.1)).flatten.length ≤ 1000 → ∀ H', Ex H H' → E (.ref C1) none H')
theorem ok_djoined {f : Addr} {fd : FuncData} (F : Fun K "joined" "joined" s_joined f fd) (T : Txt w K mg tk cl)
    (D1 : Def P w K mg base (L2.CX P w) 1 "check_size" ["size"] (spSize (cl 1))) : FnOk P w K mg base (L2.CX P w) 2 f fd ["head", "parts"] (spJoined K (cl 1)) := by
  obtain ⟨f1, fd1, g_check_size, kp_check_size, b_check_size, G_check_size⟩ := D1
  refine F.okX sc_joined (fun vs H Q E h => ?_) (fun cdv A outer s H vs Q E hr h => ?_)
  · obtain ⟨_, _, _, _, _, _, rfl, _⟩ := h
    rfl
  · obtain ⟨h, l, xs, os, as, ps, rfl, hh, hl, hps, hne, z1, z2, q, qe⟩ := h
    obtain ⟨T0, O0, hT, hT0, hO0⟩ := hh
    refine ⟨_, (pss_cons (ps_asg (pv 0) (pg_tup (by rfl) (pgs_cons (pg_name (i := 2) sc_joined.nd rfl (.inl rfl)) (pgs_cons (pg_name (i := 3) sc_joined.nd rfl (.inl rfl)) pgs_nil)))) (pss_cons (ps_for (passes_of rfl) rfl (pi_list (pv 1)) (pg_tup (by rfl) (pgs_cons (pg_name (i := 4) sc_joined.nd rfl (.inl rfl)) (pgs_cons (pg_name (i := 5) sc_joined.nd rfl (.inl rfl)) pgs_nil))) (pss_cons (ps_set (i := 2) sc_joined.nd rfl (.inl rfl) (pe_op op_catA (pv 2) (pv 4))) (pss_one (ps_set (i := 3) sc_joined.nd rfl (.inl rfl) (pe_op op_cat (pv 3) (pv 5)))))) (pss_cons (ps_expr (pe_call G_check_size (hr.mono (by first | decide | omega)) (by rfl) g_check_size kp_check_size b_check_size .nil (passes_call (takes_of rfl rfl rfl rfl) (fun _ _ _ _ h => h)) (pa_cons (pe_callB call_len_seq (by rfl) T.n_len (by decide +kernel) (pa_cons (pv 2) pa_nil)) pa_nil))) (pss_one (ps_ret (pe_tup (pa_cons (pv 2) (pa_cons (pv 3) pa_nil)))))))), ?_⟩
    refine sl_of (σ2 := [some _, some _, none, none, none, none]) rfl ?_
    walk_at "st"
    walk_at "go"
    refine for_list (K := K) (a := l) (xs := refs as) (fun i σ H' => ∃ (T O : Addr) (y4 y5 : Option V), σ = [some (.ref h), some (.ref l), some (.ref T), some (.ref O), y4, y5] ∧ Ex H H' ∧ SqT K H' T (xs ++ ((ps.take i).map (·.1)).flatten) ∧ H' O = some (.lst (nums (os ++ ((ps.take i).map (·.2)).flatten))) ∧ (0 < i → H O = none)) ⟨T0, O0, none, none, rfl, Ex.refl H, by simpa using hT0, by simpa using hO0, fun z => absurd z (Nat.lt_irrefl 0)⟩ (fun i σ H' _ e => by
      obtain ⟨_, _, _, _, _, e, _⟩ := e
      exact SqL.of (e _ _ hl)) ?_ ?_
    · rintro i v σ H1 hi ⟨T, O, y4, y5, rfl, e1, hT1, hO1, _⟩
      obtain ⟨a, ha, rfl⟩ : ∃ a, as[i]? = some a ∧ v = .ref a := by
        rw [show refs as = as.map V.ref from rfl, List.getElem?_map] at hi
        cases e : as[i]? with
        | none => rw [e] at hi; cases hi
        | some a => rw [e] at hi; exact ⟨a, rfl, (Option.some.inj hi).symm⟩
      obtain ⟨x, hx, T2, O2, g1, g2, g3⟩ := (hps.ex e1).at ha
      have tk : ps.take (i + 1) = ps.take i ++ [x] := by rw [List.take_add_one, hx]; rfl
      have sum1 : ((ps.take i).map (·.1)).flatten.length + x.1.length ≤ (ps.map (·.1)).flatten.length := by
        have e : ps = ps.take (i + 1) ++ ps.drop (i + 1) := (List.take_append_drop ..).symm
        rw [tk] at e
        have := congrArg (fun z => (z.map (·.1)).flatten.length) e
        simp only [List.map_append, List.flatten_append, List.length_append, List.map_cons, List.map_nil, List.flatten_cons, List.flatten_nil, List.append_nil] at this
        omega
      have sum2 : ((ps.take i).map (·.2)).flatten.length + x.2.length ≤ (ps.map (·.2)).flatten.length := by
        have e : ps = ps.take (i + 1) ++ ps.drop (i + 1) := (List.take_append_drop ..).symm
        rw [tk] at e
        have := congrArg (fun z => (z.map (·.2)).flatten.length) e
        simp only [List.map_append, List.flatten_append, List.length_append, List.map_cons, List.map_nil, List.flatten_cons, List.flatten_nil, List.append_nil] at this
        omega
      have f1 : ((ps.take (i + 1)).map (·.1)).flatten = ((ps.take i).map (·.1)).flatten ++ x.1 := by rw [tk]; simp
      have f2 : ((ps.take (i + 1)).map (·.2)).flatten = ((ps.take i).map (·.2)).flatten ++ x.2 := by rw [tk]; simp
      rw [f1, f2]
      generalize ((ps.take i).map (·.1)).flatten = d1 at *
      generalize ((ps.take i).map (·.2)).flatten = d2 at *
      have n1 : (nums (os ++ d2)).length = os.length + d2.length := by rw [List.length_map, List.length_append]
      have n2 : (nums x.2).length = x.2.length := List.length_map _
      walk_at "go"
      intro p H2 e2 hp
      have hO2 := e2 _ _ hO1
      have g32 := e2 _ _ g3
      walk_at "go"
      · exact Nat.le_of_lt (ly_lt (by omega))
      intro O3 hO3
      walk_at "go"
      have eo : nums (os ++ d2) ++ nums x.2 = nums (os ++ (d2 ++ x.2)) := by simp [nums]
      refine ⟨p, O3, _, _, rfl, (e1.trans e2).trans (Ex.new hO3), ?_, by rw [upd_same, eo], fun _ => fresh_back (e1.trans e2) hO3⟩
      have := ex_t (Ex.new hO3 (o := .lst (nums (os ++ d2) ++ nums x.2))) hp
      rw [List.append_assoc] at this
      exact this
    · rintro σ H1 ⟨T, O, y4, y5, rfl, e1, hT1, hO1, hfr⟩
      have pl2 := hps.len
      have rl2 : (refs as).length = as.length := List.length_map _
      have t1 : ps.take (refs as).length = ps := List.take_of_length_le (by omega)
      have pos : 0 < (refs as).length := by rw [rl2]; exact List.length_pos_iff.mpr hne
      rw [t1] at hT1 hO1
      have hfr := hfr pos
      generalize (ps.map (·.1)).flatten = d1 at *
      generalize (ps.map (·.2)).flatten = d2 at *
      walk_at "go"
      have xl : (xs ++ d1).length = xs.length + d1.length := List.length_append
      refine ⟨((xs ++ d1).length : Int), rfl, fun hle => ?_, fun hgt => qe (by omega) H1 e1⟩
      walk_at "go"
      intro p hp
      exact q (by omega) _ p T O (e1.trans (Ex.new hp)) (SqT.of upd_same) (ex_t (Ex.new hp) hT1) hfr ((Ex.new hp) _ _ hO1)
def spContr (K : PySem.W.Frag) (C1 : Addr) : Sp := fun vs H Q E => ∃ (x y : Addr) (b a : Tm) (ob oa : List Nat), vs = [.ref x, .ref y] ∧ Pr2 K H x b.enc ob ∧ Pr2 K H y a.enc oa ∧ ob.length = b.enc.length ∧ oa.length = a.enc.length ∧ b.enc.length ≤ 1000 ∧ a.enc.length ≤ 1000 ∧
  (fitsV (Tm.put a 0 b).enc = true → ∀ H' p T O, Ex H H' → SqT K H' p [.ref T, .ref O] → SqT K H' T (Tm.put a 0 b).enc → H O = none →
    H' O = some (.lst (nums ((pO (List.range' b.enc.length a.enc.length) b.enc (b.deps 0) (List.range' 0 b.enc.length)).map fun k => (ob ++ oa).getD k 0))) → Q (.ref p) H') ∧
  (fitsV (Tm.put a 0 b).enc = false → ∀ H', Ex H H' → E (.ref C1) none H')
theorem ok_contr {f : Addr} {fd : FuncData} (F : Fun K "contracted" "contracted" s_contracted f fd) (T : Txt w K mg tk cl)
    (D1 : Def P w K mg base (L2.CX P w) 3 "put" ["term", "value"] (spPut K (cl 1))) (D2 : Def P w K mg base CX0 2 "put_origins" ["term", "value"] (spPutO K)) : FnOk P w K mg base (L2.CX P w) 4 f fd ["function", "argument"] (spContr K (cl 1)) := by
  obtain ⟨f1, fd1, g_put, kp_put, b_put, G_put⟩ := D1
  obtain ⟨f2, fd2, g_put_origins, kp_put_origins, b_put_origins, G_put_origins⟩ := D2
  refine F.okX sc_contracted (fun vs H Q E h => ?_) (fun cdv A outer s H vs Q E hr h => ?_)
  · obtain ⟨_, _, _, _, _, _, rfl, _⟩ := h
    rfl
  · obtain ⟨x, y, b, a, ob, oa, rfl, ⟨Tb, Ob, hx, hTb, hOb⟩, ⟨Ta, Oa, hy, hTa, hOa⟩, lb, la, zb, za, q, qe⟩ := h
    refine ⟨_, (pss_cons (ps_asg (pv 0) (pg_tup (by rfl) (pgs_cons (pg_name (i := 2) sc_contracted.nd rfl (.inl rfl)) (pgs_cons (pg_name (i := 3) sc_contracted.nd rfl (.inl rfl)) pgs_nil)))) (pss_cons (ps_asg (pv 1) (pg_tup (by rfl) (pgs_cons (pg_name (i := 4) sc_contracted.nd rfl (.inl rfl)) (pgs_cons (pg_name (i := 5) sc_contracted.nd rfl (.inl rfl)) pgs_nil)))) (pss_cons (ps_set (i := 6) sc_contracted.nd rfl (.inl rfl) (pe_call G_put (hr.mono (by first | decide | omega)) (by rfl) g_put kp_put b_put .nil (passes_call (takes_of rfl rfl rfl rfl) (fun _ _ _ _ h => h)) (pa_cons (pv 2) (pa_cons (pv 4) pa_nil)))) (pss_cons (ps_set (i := 7) sc_contracted.nd rfl (.inr rfl) (pe_op op_cat (pv 3) (pv 5))) (pss_one (ps_ret (pe_tup (pa_cons (pv 6) (pa_cons (pe_lc (own := [("origin", 8)]) (g := gName 8) (tt := tYes) rfl sc_contracted.nd (pi_list (pe_call G_put_origins (hr.mono (by first | decide | omega)) (by rfl) g_put_origins kp_put_origins b_put_origins .nil pass0 (pa_cons (pv 2) (pa_cons (pv 4) pa_nil)))) (blkOk_by (N := N_contracted) (sc := defScope s_contracted) (by decide +kernel)) (fun _ _ _ _ _ => pg_name (i := 8) sc_contracted.nd rfl (Or.inl rfl)) (fun _ _ _ _ _ => pts_nil) (fun _ _ _ _ _ => (pe_ix (ix_listK (K := K) (by rfl)) (pv 7) (pv 8) (fun _ _ => rfl)))) pa_nil))))))))), ?_⟩
    refine sl_of (σ2 := [some _, some _, none, none, none, none, none, none, none]) rfl ?_
    walk_at "st"
    walk_at "go"
    refine ⟨Tb, Ta, b, a, rfl, hTb, hTa, by omega, by omega, fun hf p H1 e1 hp => ?_, fun hf H1 e1 => ?_⟩
    rotate_left
    · exact qe hf H1 e1
    have hTb1 := ex_t e1 hTb
    have hTa1 := ex_t e1 hTa
    have hOb1 := e1 _ _ hOb
    have hOa1 := e1 _ _ hOa
    have lob : (nums ob).length = ob.length := List.length_map _
    have loa : (nums oa).length = oa.length := List.length_map _
    walk_at "go"
    · exact Nat.le_of_lt (ly_lt (by omega))
    intro O1 hO1
    have e2 := Ex.new hO1 (o := .lst (nums ob ++ nums oa))
    have hk2 : upd H1 O1 (.lst (nums ob ++ nums oa)) O1 = some (.lst (nums (ob ++ oa))) := by rw [upd_same]; simp [nums]
    have hTb2 := ex_t e2 hTb1
    have hTa2 := ex_t e2 hTa1
    have hp2 := ex_t e2 hp
    generalize upd H1 O1 (.lst (nums ob ++ nums oa)) = H2 at *
    walk_at "go"
    refine ⟨Tb, Ta, b, a, rfl, hTb2, hTa2, by omega, by omega, fun H3 l3 e3 hl3 hl33 => ?_⟩
    have hk3 := e3 _ _ hk2
    have hp3 := ex_t e3 hp2
    have pol : (Tm.put a 0 b).enc.length = (pO (List.range' b.enc.length a.enc.length) b.enc (b.deps 0) (List.range' 0 b.enc.length)).length := by
      rw [Tm.enc_put]
      exact pO_len (by simp) (fun w hw => Tm.int_nat hw) (by rw [Tm.deps_len]) (by simp)
    have pz := fits_len hf
    have pm : ∀ k ∈ pO (List.range' b.enc.length a.enc.length) b.enc (b.deps 0) (List.range' 0 b.enc.length), k < (ob ++ oa).length := fun k hk => by
      rw [List.length_append]
      rcases pO_mem hk with h | h
      · have := (List.mem_range'_1.mp h).2
        omega
      · have := (List.mem_range'_1.mp h).2
        omega
    generalize pO (List.range' b.enc.length a.enc.length) b.enc (b.deps 0) (List.range' 0 b.enc.length) = zs at *
    walk_at "go"
    intro R hR
    have n1 : l3 ≠ R := ne_of_none hl33 hR
    have n2 : O1 ≠ R := ne_of_none hk3 hR
    have ee3 := (e1.trans e2).trans e3
    have zl : zs.length ≤ 1000 := by omega
    refine lc_list (K := K) (a := l3) (xs := nums zs) (fun i H' => Ex H H' ∧ H' l3 = some (.lst (nums zs)) ∧ H' O1 = some (.lst (nums (ob ++ oa))) ∧ SqT K H' p (Tm.put a 0 b).enc ∧ H' R = some (.lst (nums ((zs.take i).map fun k => (ob ++ oa).getD k 0))))
      ⟨ee3.trans (Ex.new hR), by rw [upd_ne n1]; exact hl33, by rw [upd_ne n2]; exact hk3, ex_t (Ex.new hR) hp3, by rw [upd_same]; simp [nums]⟩ (fun i H _ h => SqL.of h.2.1) ?_ ?_
    · rintro i v H4 hi ⟨e4, hl4, hk4, hp4, hR4⟩
      obtain ⟨k, hk, rfl⟩ := nums_at hi
      have il := (List.getElem?_eq_some_iff.mp hk).1
      have kb := pm k (List.mem_of_getElem? hk)
      have hix : (nums (ob ++ oa))[k]? = some (.int (((ob ++ oa).getD k 0 : Nat) : Int)) := by
        rw [List.getElem?_map, List.getD_eq_getElem?_getD, List.getElem?_eq_getElem kb]
        rfl
      have hRl : (nums ((zs.take i).map fun k => (ob ++ oa).getD k 0)).length ≤ i := by
        rw [List.length_map, List.length_map, List.length_take]
        omega
      walk_at "go"
      refine ⟨_, hR4, ly_lt (by omega), e4.mut (fresh_back ee3 hR), by rw [upd_ne n1]; exact hl4, by rw [upd_ne n2]; exact hk4, sqT_lst hp4 hR4, ?_⟩
      rw [upd_same, List.take_add_one, hk]
      simp [nums]
    · rintro H4 ⟨e4, hl4, hk4, hp4, hR4⟩
      have tk : zs.take (nums zs).length = zs := List.take_of_length_le (by rw [List.length_map]; exact Nat.le_refl _)
      rw [tk] at hR4
      have hR0 : H R = none := fresh_back ee3 hR
      walk_at "go"
      intro p9 hp9
      exact q hf _ p9 p R (e4.trans (Ex.new hp9)) (SqT.of upd_same) (ex_t (Ex.new hp9) hp4) hR0 ((Ex.new hp9) _ _ hR4)
end
end Ly
set_option Elab.async false
set_option linter.all false
set_option maxRecDepth 100000
set_option maxHeartbeats 8000000
namespace Ly
open PySem PySem.Spec PyProof.Rows L2 Evl
local macro_rules | `(tactic| walk_at "ne") => `(tactic| first
  | assumption
  | ((refine' Ne.symm ?hq); (case hq => assumption))
  | ((refine' ne_of_none ?nh1 ?nh2); (case nh2 => assumption); (case nh1 => walk_at "hp"))
  | ((refine' Ne.symm (ne_of_none ?nh1 ?nh2)); (case nh2 => assumption); (case nh1 => walk_at "hp")))
local macro_rules | `(tactic| walk_at "hp") => `(tactic| first
  | assumption
  | exact upd_same
  | ((refine' SqL.of ?hq); (case hq => walk_at "hp"))
  | ((refine' SqT.of ?hq); (case hq => walk_at "hp"))
  | ((refine' (upd_ne ?hne).trans ?hrest); (case hne => walk_at "ne"); (case hrest => walk_at "hp"))
  | ((refine' ly_at ?hex ?hh); (case hex => assumption); (case hh => walk_at "hp"))
  | ((refine' ly_atF ?hex ?hnn ?hh); (case hex => assumption); (case hh => walk_at "hp"); (case hnn => walk_at "ne"))
  | ((refine' ex_t ?hex ?hh); (case hh => assumption); (case hex => walk_at "ex"))
  | ((refine' ex_l ?hex ?hh); (case hh => assumption); (case hex => walk_at "ex")))
local macro_rules | `(tactic| walk_at "ex") => `(tactic| first
  | assumption
  | exact Ex.refl _
  | ((refine' ex_new ?xa ?xb); (case xb => assumption); (case xa => walk_at "ex"))
  | ((refine' ex_upd ?xa ?xb); (case xb => walk_at "free"); (case xa => walk_at "ex"))
  | ((refine' Ex.trans ?xa ?xb); (case xb => assumption); (case xa => walk_at "ex")))
local macro_rules | `(tactic| walk_at "free") => `(tactic| first
  | assumption
  | ((refine' fresh_back ?xa ?xb); (case xb => assumption); (case xa => walk_at "ex")))
local macro_rules | `(tactic| walk_at "fr") => `(tactic| first
  | assumption
  | exact Fr.refl _ _
  | ((refine' Fr.own ?hq); (case hq => walk_at "fr"))
  | ((refine' Fr.new ?xa ?xb); (case xb => assumption); (case xa => walk_at "fr"))
  | ((refine' Fr.mut ?xa ?xb); (case xb => assumption); (case xa => walk_at "fr"))
  | ((refine' Fr.trans ?xa ?xb); (case xb => assumption); (case xa => walk_at "fr"))
  | ((refine' Fr.trans ?xa (Fr.ex ?xb)); (case xb => assumption); (case xa => walk_at "fr")))
local macro_rules | `(tactic| walk_at "go1") => `(tactic| first
  | (with_reducible refine' w_seq ?_)
  | (with_reducible refine' w_asg ?_)
  | (with_reducible refine' w_ret ?_)
  | (with_reducible refine' w_drop ?_)
  | (with_reducible refine' w_if ?_)
  | (with_reducible refine' w_next ?_)
  | (with_reducible refine' w_name ?_)
  | (with_reducible refine' w_sub ?_)
  | ((with_reducible refine' w_var ?hv ?_); (case hv => exact rfl))
  | (with_reducible refine' w_c ?_)
  | (with_reducible refine' w_op ?_)
  | (with_reducible refine' w_un ?_)
  | (with_reducible refine' w_ch ?_)
  | (with_reducible refine' w_I0 ?_)
  | ((with_reducible refine' w_I ?hc ?_); (case hc => first | (exact ly_mulL (by decide) (by decide)) | (exact ly_mulR (by decide) (by decide)) | (exact ly_mulL (by omega) (by omega)) | (show (_ : Int) ≠ 0; decide) | (show (_ : Int) ≠ 0; omega) | (exact ⟨by decide, by decide⟩) | (exact ⟨by omega, by omega⟩)))
  | (with_reducible refine' w_U ?_)
  | ((with_reducible refine' w_eq ?hs ?_); (case hs => exact rfl))
  | ((with_reducible refine' w_ne ?hs ?_); (case hs => exact rfl))
  | (with_reducible refine' w_isB ?_)
  | (with_reducible refine' w_notB ?_)
  | (with_reducible refine' w_nil ?_)
  | (with_reducible refine' w_cons ?_)
  | (with_reducible refine' w_tup ?_)
  | (with_reducible refine' w_lst ?_)
  | (with_reducible refine' w_cb ?_)
  | (with_reducible refine' w_call ?_)
  | (with_reducible refine' w_bm ?_)
  | (with_reducible refine' w_bm0 ?_)
  | ((with_reducible refine' w_app ?hh ?hz ?_); (case hh => walk_at "hp"); (case hz => first | exact ly_lt (by omega) | exact ly_lt (by simp only [List.length_append, List.length_map, List.length_cons, List.length_nil]; omega)))
  | ((with_reducible refine' w_popA ?hh ?_); (case hh => walk_at "hp"))
  | ((with_reducible refine' w_ext ?hh ?hh2 ?hz ?_); (case hh => walk_at "hp"); (case hh2 => walk_at "hp"))
  | ((with_reducible refine' w_ixL ?hh ?ha ?_); (case hh => walk_at "hp"); (case ha => first | exact rfl | exact at_map (by omega) | exact atI_last _ _ | ((refine' at_of ?ae ?ah); (case ah => assumption); (case ae => omega))))
  | ((with_reducible refine' w_ixT ?hh ?ha ?_); (case hh => walk_at "hp"); (case ha => first | exact rfl | exact at_map (by omega) | exact atI_last _ _ | ((refine' at_of ?ae ?ah); (case ah => assumption); (case ae => omega))))
  | ((with_reducible refine' w_cat ?hh ?hh2 ?hz ?_); (case hh => walk_at "hp"); (case hh2 => walk_at "hp"))
  | ((with_reducible refine' w_setL ?hh ?ha ?_); (case hh => walk_at "hp"); (case ha => exact rfl))
  | (with_reducible refine' w_test ?_)
  | (with_reducible refine' w_tB ?_)
  | (with_reducible refine' w_bl ?_)
  | (with_reducible refine' w_and ?_)
  | (with_reducible refine' w_or ?_)
  | (with_reducible refine' w_not ?_)
  | (with_reducible refine' w_andV ?_)
  | (with_reducible refine' w_orV ?_)
  | (with_reducible refine' w_notV ?_)
  | (with_reducible refine' w_ifE ?_)
  | (with_reducible refine' w_for ?_)
  | ((with_reducible refine' w_nin ?hh ?_); (case hh => walk_at "hp"))
  | ((with_reducible refine' w_sorted ?hh ?_); (case hh => walk_at "hp"))
  | (with_reducible refine' w_tsadd ?_)
  | ((with_reducible refine' w_tsadd1 ?hh ?_); (case hh => walk_at "hp"))
  | ((with_reducible refine' w_sadd ?hh ?hr ?_); (case hh => walk_at "hp"); (case hr => omega))
  | (with_reducible refine' w_iZ ?_)
  | ((with_reducible refine' w_iZ1 ?hh ?hh2 ?_); (case hh => walk_at "hp"); (case hh2 => walk_at "hp"))
  | (with_reducible refine' w_iS ?_)
  | (with_reducible refine' w_iS1 ?_)
  | ((with_reducible refine' w_gtup ?hh ?hn ?_); (case hh => walk_at "hp"); (case hn => exact rfl))
  | (with_reducible refine' w_gcons ?_)
  | (with_reducible refine' w_gnil ?_)
  | (with_reducible refine' w_js ?_)
  | (with_reducible refine' w_jsn ?_)
  | ((with_reducible refine' w_js1 ?hl ?_); (case hl => decide +kernel))
  | (with_reducible refine' w_fmt ?_)
  | ((with_reducible refine' w_fmt1 ?hl ?_); (case hl => decide +kernel))
  | (with_reducible refine' w_callS ?_)
  | ((with_reducible refine' w_truL ?hh ?_); (case hh => walk_at "hp"))
  | (with_reducible refine' w_lc ?_)
  | (with_reducible refine' w_yes ?_)
  | ((with_reducible refine' w_wipe ?he ?_); (case he => exact rfl))
  | (with_reducible refine' w_iL ?_)
  | (with_reducible refine' w_iT ?_)
  | (with_reducible refine' w_iR ?_)
  | ((with_reducible refine' w_iL1 ?hh ?_); (case hh => walk_at "hp"))
  | ((with_reducible refine' w_iT1 ?hh ?_); (case hh => walk_at "hp"))
  | ((with_reducible refine' w_iR1 ?h1 ?h2 ?_); (case h1 => omega); (case h2 => omega))
  | ((with_reducible refine' w_aug ?hv ?_); (case hv => exact rfl))
  | (with_reducible refine' w_ipI ?_)
  | ((with_reducible refine' w_isi ?hy ?hk ?_); (case hy => walk_at "ty"); (case hk => walk_at "kit"))
  | ((with_reducible refine' w_int ?_))
  | ((with_reducible refine' w_intB ?_))
  | ((with_reducible refine' w_abs ?_))
  | ((with_reducible refine' w_lenL ?hh ?_); (case hh => walk_at "hp"))
  | ((with_reducible refine' w_lenT ?hh ?_); (case hh => walk_at "hp"))
  | ((with_reducible refine' w_tupL ?hh ?_); (case hh => walk_at "hp"))
  | ((with_reducible refine' w_tupT ?hh ?_); (case hh => walk_at "hp"))
  | ((with_reducible refine' w_catA ?hh ?hh2 ?hz ?_); (case hh => walk_at "hp"); (case hh2 => walk_at "hp"); (case hz => walk_at "len"))
  | ((with_reducible refine' w_repB ?hh ?hne ?h2 ?h3 ?hz ?_); (case hh => walk_at "hp"); (case hne => simp); (case h2 => omega); (case h3 => omega); (case hz => exact Nat.le_of_ble_eq_true rfl))
  | ((with_reducible refine' w_eqN ?hh ?hh2 ?n1 ?n2 ?_); (case hh => walk_at "hp"); (case hh2 => walk_at "hp"); (case n1 => walk_at "nd"); (case n2 => walk_at "nd"))
  | ((with_reducible refine' w_neN ?hh ?hh2 ?n1 ?n2 ?_); (case hh => walk_at "hp"); (case hh2 => walk_at "hp"); (case n1 => walk_at "nd"); (case n2 => walk_at "nd"))
  | ((with_reducible refine' w_eqL ?hh ?hh2 ?n1 ?n2 ?_); (case hh => walk_at "hp"); (case hh2 => walk_at "hp"); (case n1 => walk_at "nd"); (case n2 => walk_at "nd"))
  | ((with_reducible refine' w_neL ?hh ?hh2 ?n1 ?n2 ?_); (case hh => walk_at "hp"); (case hh2 => walk_at "hp"); (case n1 => walk_at "nd"); (case n2 => walk_at "nd"))
  | ((with_reducible refine' w_neNon ?hh2 ?n2 ?_); (case hh2 => walk_at "hp"); (case n2 => walk_at "nd"))
  | ((with_reducible refine' w_eqNon ?hh2 ?n2 ?_); (case hh2 => walk_at "hp"); (case n2 => walk_at "nd"))
  | ((with_reducible refine' w_slA ?hh ?_); (case hh => walk_at "hp"))
  | ((with_reducible refine' w_disp ?hz ?_); (case hz => exact sz_of (Nat.le_of_ble_eq_true rfl)))
  | ((with_reducible refine' w_tyL ?hh ?_); (case hh => walk_at "hp"))
  | (with_reducible refine' iteT ?_)
  | (with_reducible refine' iteF ?_)
  | (with_reducible refine' w_nT ?_)
  | (with_reducible refine' w_nn ?_)
  | (with_reducible refine' w_nnT ?_)
  | (with_reducible refine' w_nnR ?_)
  | (with_reducible refine' w_neG ?_)
  | (with_reducible refine' w_eqG ?_)
  | (with_reducible refine' w_neS ?_)
  | (with_reducible refine' w_eqS ?_)
  | (with_reducible refine' w_neSb ?_)
  | (with_reducible refine' w_eqSb ?_)
  | (with_reducible refine' w_deIS ?_)
  | (with_reducible refine' w_deSI ?_)
  | (with_reducible refine' w_deISn ?_)
  | ((with_reducible refine' w_deST ?he ?_); (case he => decide +kernel))
  | ((with_reducible refine' w_deSF ?he ?_); (case he => decide +kernel))
  | ((with_reducible refine' w_deSTn ?he ?_); (case he => decide +kernel))
  | ((with_reducible refine' w_deSFn ?he ?_); (case he => decide +kernel))
  | (with_reducible refine' w_nF ?_)
  | dsimp only [Bool.not_true, Bool.not_false])
local macro_rules | `(tactic| walk_at "ty") => `(tactic| first
  | exact .base (.int _) | exact .base (.str _) | exact .base (.bl _) | exact .base .non
  | ((refine' tyx_t ?hq); (case hq => walk_at "hp")) | ((refine' tyx_l ?hq); (case hq => walk_at "hp")) | ((refine' .base (.tup ?hq)); (case hq => walk_at "hp")) | assumption)
local macro_rules | `(tactic| walk_at "go") => `(tactic| repeat walk_at "go1")
local macro_rules | `(tactic| walk_at "st") => `(tactic| try dsimp only [cxOf, Cx.nox, Cx.wish])
local macro_rules | `(tactic| walk_at "kit") => `(tactic| with_reducible first | exact kit_int_int | exact kit_int_str | exact kit_int_bool | exact kit_int_tuple | exact kit_int_list | exact kit_str_int | exact kit_str_str | exact kit_str_bool | exact kit_str_tuple | exact kit_str_list | exact kit_bool_int | exact kit_bool_str | exact kit_bool_bool | exact kit_bool_tuple | exact kit_bool_list | exact kit_NoneType_int | exact kit_NoneType_str | exact kit_NoneType_bool | exact kit_NoneType_tuple | exact kit_NoneType_list | exact kit_list_int | exact kit_list_str | exact kit_list_bool | exact kit_list_tuple | exact kit_list_list | exact kit_tuple_int | exact kit_tuple_str | exact kit_tuple_bool | exact kit_tuple_tuple | exact kit_tuple_list)
local macro_rules | `(tactic| walk_at "nd") => `(tactic| first
  | assumption
  | exact Tm.nds _
  | exact Nds.nil
  | exact Nds.ofInts _
  | ((refine' Nds.cons ?na ?nb); (case na => first | exact Nds.I _ | exact Nds.L | exact Nds.A); (case nb => walk_at "nd"))
  | ((refine' Nds.app ?na ?nb); (case na => walk_at "nd"); (case nb => walk_at "nd"))
  | ((refine' Nds.rep ?na _); (case na => walk_at "nd")))
local macro_rules | `(tactic| walk_at "len") => `(tactic| first
  | exact ly_sz (by omega)
  | ((simp only [List.length_append, List.length_cons, List.length_nil, List.length_map, PyProof.Rows.lm_len_rep_flat]); exact ly_sz (by omega)))
local macro_rules | `(tactic| walk_at "go1") => `(tactic| first
  | (with_reducible refine' w_kget2 ?_)
  | (with_reducible refine' w_isRN ?_)
  | (with_reducible refine' w_isNN ?_)
  | (with_reducible refine' w_isIN ?_)
  | ((with_reducible refine' w_kg ?hd ?_); (case hd => assumption)))
local macro_rules | `(tactic| walk_at "go1") => `(tactic| first
  | ((with_reducible refine' w_extT ?hh ?hh2 ?hz ?_); (case hh => walk_at "hp"); (case hh2 => walk_at "hp"))
  | ((with_reducible refine' w_I ?hc ?_); (case hc => exact ⟨by decide, by decide, by decide⟩))
  | (with_reducible refine' w_sl ?_)
  | (with_reducible refine' w_noP ?_)
  | (with_reducible refine' w_part ?_)
  | (with_reducible refine' w_part1 ?_)
  | (with_reducible refine' w_it ?_)
  | (with_reducible refine' w_it1 ?_)
  | ((with_reducible refine' w_lenZ ?hz ?_); (case hz => omega))
  | ((with_reducible refine' w_addZb ?hz ?_); (case hz => omega))
  | ((with_reducible refine' w_addZf ?hz ?_); (case hz => omega))
  | ((with_reducible refine' w_addZa ?hz ?_); (case hz => omega))
  | ((with_reducible refine' w_inS ?hh ?_); (case hh => walk_at "hp"))
  | ((with_reducible refine' w_ixT ?hh ?ha ?_); (case hh => assumption); (case ha => exact atI_nat (by assumption))))
local macro_rules | `(tactic| walk_at "go1") => `(tactic| first
  | (with_reducible refine' w_iR2 ?_)
  | ((with_reducible refine' w_iR21 ?h1 ?h2 ?h3 ?h4 ?_); (case h1 => omega); (case h2 => omega); (case h3 => omega); (case h4 => omega))
  | (with_reducible refine' w_nnI ?_)
  | (with_reducible refine' w_max ?_)
  | (with_reducible refine' w_break ?_)
  | (with_reducible refine' w_cont ?_))
local macro_rules | `(tactic| walk_at "go1") => `(tactic| first
  | (with_reducible refine' w_tdget ?_)
  | (with_reducible refine' w_tdin ?_)
  | (with_reducible refine' w_tdnotin ?_)
  | (with_reducible refine' w_sdput ?_)
  | (with_reducible refine' w_tdsetd ?_)
  | (with_reducible refine' w_dnew ?_))
section
variable {P : Program} {w : World} {K : PySem.W.Frag} {mg : Str → Option Value} {base : Heap} {tk : Nat → Tok} {cl : Nat → Addr}
local macro_rules | `(tactic| walk_at "go1") => `(tactic| first
  | (with_reducible refine' w_iRv ?_)
  | (with_reducible refine' w_rg1 ?_))
def spReduced (K : PySem.W.Frag) (C1 : Addr) : Sp := fun vs H Q E => ∃ (a d : Addr) (t : Tm) (kvs : List (L2.Key × V)) (C : Nat → Bool), vs = [.ref a, .ref d] ∧ SqT K H a t.enc ∧ t.enc.length ≤ 3000 ∧ H d = some (.dK kvs) ∧ ChD kvs C ∧ (∀ k, C k = true → redB t.enc k = true) ∧
  (t.dvK C 0 = true → ∀ H' p T O, Ex H H' → SqT K H' p [.ref T, .ref O] → SqT K H' T (t.dv C 0).enc → H' O = some (.lst (nums (t.dvO C 0))) → Q (.ref p) H') ∧
  (t.dvK C 0 = false → ∀ H', Ex H H' → E (.ref C1) none H')
def skF (C : Nat → Bool) (j : Nat) : Bool := decide (1 ≤ j) && C (j - 1)
theorem ok_reduced {f : Addr} {fd : FuncData} (F : Fun K "reduced" "reduced" s_reduced f fd) (T : Txt w K mg tk cl)
    (D1 : Def P w K mg base (L2.CX P w) 4 "contracted" ["function", "argument"] (spContr K (cl 1))) (D2 : Def P w K mg base (L2.CX P w) 2 "joined" ["head", "parts"] (spJoined K (cl 1)))
    (D3 : Def P w K mg base (L2.CX P w) 2 "checked" ["term"] (spChecked K (cl 1))) : FnOk P w K mg base (L2.CX P w) 5 f fd ["term", "chosen"] (spReduced K (cl 1)) := by
  obtain ⟨f1, fd1, g_contracted, kp_contracted, b_contracted, G_contracted⟩ := D1
  obtain ⟨f2, fd2, g_joined, kp_joined, b_joined, G_joined⟩ := D2
  obtain ⟨f3, fd3, g_checked, kp_checked, b_checked, G_checked⟩ := D3
  refine F.okX sc_reduced (fun vs H Q E h => ?_) (fun cdv A outer s H vs Q E hr h => ?_)
  · obtain ⟨_, _, _, _, _, rfl, _⟩ := h
    rfl
  · obtain ⟨a, d, t, kvs, C, rfl, hS, hlen, hd, hch, hC, q, qe⟩ := h
    refine ⟨_, (pss_cons (ps_set (i := 2) sc_reduced.nd rfl (.inl rfl) (pe_lst pa_nil)) (pss_cons (ps_for (passes_of rfl) rfl (pi_revR (by rfl) T.n_reversed (prg_1 (by rfl) T.n_range (pe_callB call_len_seq (by rfl) T.n_len (by decide +kernel) (pa_cons (pv 0) pa_nil)))) (pg_name (i := 3) sc_reduced.nd rfl (.inl rfl)) (pss_cons (ps_set (i := 4) sc_reduced.nd rfl (.inl rfl) (pe_tup (pa_cons (pe_tup (pa_cons (pe_ix ix_tup (pv 0) (pv 3) (fun _ _ => rfl)) pa_nil)) (pa_cons (pe_lst (pa_cons (pv 3) pa_nil)) pa_nil)))) (pss_one (ps_if (pt_cmpR op_eq (pe_ix ix_tup (pv 0) (pv 3) (fun _ _ => rfl)) pe_str (nomark _)) (pss_cons (ps_set (i := 5) sc_reduced.nd rfl (.inl rfl) (pe_bm0 PySem.F.plainAttrs_list PySem.F.slot_list_pop PySem.F.type_list_pop mt_pop (pv 2))) (pss_cons (ps_set (i := 6) sc_reduced.nd rfl (.inl rfl) (pe_bm0 PySem.F.plainAttrs_list PySem.F.slot_list_pop PySem.F.type_list_pop mt_pop (pv 2))) (pss_one (ps_if (pt_cmp (pc_din (by exact Nat.lt_of_le_of_lt (Nat.add_le_add_left (by decide) _) hr.units) (pv 3) (pv 1))) (pss_one (ps_expr (pe_bm PySem.F.plainAttrs_list PySem.F.slot_list_append PySem.F.type_list_append mt_append (pv 2) (pa_cons (pe_call G_contracted (hr.mono (by first | decide | omega)) (by rfl) g_contracted kp_contracted b_contracted .nil (passes_call (takes_of rfl rfl rfl rfl) (fun _ _ _ _ h => h)) (pa_cons (pv 5) (pa_cons (pv 6) pa_nil))) pa_nil)))) (pss_one (ps_expr (pe_bm PySem.F.plainAttrs_list PySem.F.slot_list_append PySem.F.type_list_append mt_append (pv 2) (pa_cons (pe_call G_joined (hr.mono (by first | decide | omega)) (by rfl) g_joined kp_joined b_joined .nil (passes_call (takes_of rfl rfl rfl rfl) (fun _ _ _ _ h => h)) (pa_cons (pv 4) (pa_cons (pe_lst (pa_cons (pv 5) (pa_cons (pv 6) pa_nil))) pa_nil))) pa_nil)))))))) (pss_one (ps_if (pt_cmpR op_ne (pe_ix ix_tup (pv 0) (pv 3) (fun _ _ => rfl)) pe_str (nomark _)) (pss_cons (ps_expr (pe_call G_checked (hr.mono (by first | decide | omega)) (by rfl) g_checked kp_checked b_checked .nil (passes_call (takes_of rfl rfl rfl rfl) (fun _ _ _ _ h => h)) (pa_cons (pe_ix ix_tup (pv 4) pe_int (fun _ _ => rfl)) pa_nil))) (pss_one (ps_expr (pe_bm PySem.F.plainAttrs_list PySem.F.slot_list_append PySem.F.type_list_append mt_append (pv 2) (pa_cons (pv 4) pa_nil))))) (pss_one (ps_if (pt_cmp (pc_dnotin (by exact Nat.lt_of_le_of_lt (Nat.add_le_add_left (by decide) _) hr.units) (pe_op op_sub (pv 3) pe_int) (pv 1))) (pss_one (ps_expr (pe_bm PySem.F.plainAttrs_list PySem.F.slot_list_append PySem.F.type_list_append mt_append (pv 2) (pa_cons (pe_call G_joined (hr.mono (by first | decide | omega)) (by rfl) g_joined kp_joined b_joined .nil (passes_call (takes_of rfl rfl rfl rfl) (fun _ _ _ _ h => h)) (pa_cons (pv 4) (pa_cons (pe_lst (pa_cons (pe_bm0 PySem.F.plainAttrs_list PySem.F.slot_list_pop PySem.F.type_list_pop mt_pop (pv 2)) pa_nil)) pa_nil))) pa_nil)))) pss_nil)))))))) (pss_one (ps_ret (pe_bm0 PySem.F.plainAttrs_list PySem.F.slot_list_pop PySem.F.type_list_pop mt_pop (pv 2)))))), ?_⟩
    refine sl_of (σ2 := [some _, some _, none, none, none, none, none]) rfl ?_
    walk_at "st"
    walk_at "go"
    intro pn hpn
    have e0 := Ex.new hpn (o := .lst [])
    have hpn0 : upd H pn (.lst []) pn = some (.lst (refs [])) := upd_same
    have hd0 := e0 _ _ hd
    generalize upd H pn (.lst []) = H0 at *
    have g0 : t.gd C 0 := gd_of hC t (i := 0) (post := []) (by simp)
    have hS0 := ex_t e0 hS
    walk_at "go"
    refine ⟨by omega, by omega, by omega, by omega, ?_⟩
    refine for_rangeC (fun i σ H' => ∃ (as : List Addr) (us : List Tm) (y3 y4 y5 y6 : Option V), σ = [some (.ref a), some (.ref d), some (.ref pn), y3, y4, y5, y6] ∧ Ex H H' ∧ H' d = some (.dK kvs) ∧ H' pn = some (.lst (refs as.reverse)) ∧
      Ents K H' pn C (t.enc.length - i) (skF C (t.enc.length - i)) as us ∧ t.enc.drop (t.enc.length - i) = encs us) ⟨[], [], none, none, none, none, rfl, e0, hd0, hpn0, trivial, by simp [encs]⟩ ?_ ?_
    · rintro i σ H1 hi ⟨as, us, y3, y4, y5, y6, rfl, e1, hd1, hpn1, hen, hdr⟩
      have hil : i < t.enc.length := by omega
      obtain ⟨j, hj⟩ : ∃ j, t.enc.length - i = j + 1 := ⟨t.enc.length - i - 1, by omega⟩
      have hj2 : t.enc.length - (i + 1) = j := by omega
      have hat : 0 + (((t.enc.length : Int) - 0).toNat : Int) - 1 + (i : Int) * -1 = (j : Int) := by omega
      rw [hj] at hen hdr
      rw [hj2, hat]
      obtain ⟨v, hv⟩ : ∃ v, t.enc[j]? = some v := ⟨_, List.getElem?_eq_getElem (by omega)⟩
      obtain ⟨_, u, post, _, _, hup⟩ := t.part_at (i := j) (by omega)
      have hsk : skF C (j + 1) = C j := by simp [skF]
      rw [hsk] at hen
      have hS1 := ex_t e1 hS
      have gu := gd_of hC u hup
      have asl := hen.len
      have rfl1 : (refs as.reverse).length = us.length := by rw [show refs as.reverse = as.reverse.map V.ref from rfl, List.length_map, List.length_reverse]; exact asl
      have usl : us.length ≤ t.enc.length := by
        have h1 := encs_len us
        rw [← hdr, List.length_drop] at h1
        omega
      walk_at "go"
      intro p1 hp1
      have e2 := Ex.new hp1 (o := .tup [v])
      have hT2 : SqT K (upd H1 p1 (.tup [v])) p1 [v] := SqT.of upd_same
      have hd2 := e2 _ _ hd1
      have hpn2 := e2 _ _ hpn1
      have hen2 := hen.mono (Fr.ex e2) hpn1
      have hS2 := ex_t e2 hS1
      have ee2 := e1.trans e2
      generalize upd H1 p1 (.tup [v]) = H2 at *
      clear hen hd1 hpn1 hS1 e2
      walk_at "go"
      intro p2 hp2
      have e3 := Ex.new hp2 (o := .lst [V.int (j : Int)])
      have hO3 : upd H2 p2 (.lst [V.int (j : Int)]) p2 = some (.lst (nums [j])) := upd_same
      have hT3 := ex_t e3 hT2
      have hd3 := e3 _ _ hd2
      have hpn3 := e3 _ _ hpn2
      have hen3 := hen2.mono (Fr.ex e3) hpn2
      have hS3 := ex_t e3 hS2
      have ee3 := ee2.trans e3
      have n2 : p2 ≠ pn := (ne_of_none hpn2 hp2).symm
      generalize upd H2 p2 (.lst [V.int (j : Int)]) = H3 at *
      clear hen2 hd2 hpn2 hS2 e3 hT2 ee2
      walk_at "go"
      intro p3 hp3
      have e4 := Ex.new hp3 (o := .tup [V.ref p1, V.ref p2])
      have hP4 : SqT K (upd H3 p3 (.tup [V.ref p1, V.ref p2])) p3 [V.ref p1, V.ref p2] := SqT.of upd_same
      have hT4 := ex_t e4 hT3
      have hO4 := e4 _ _ hO3
      have hd4 := e4 _ _ hd3
      have hpn4 := e4 _ _ hpn3
      have hen4 := hen3.mono (Fr.ex e4) hpn3
      have hS4 := ex_t e4 hS3
      have ee4 := ee3.trans e4
      generalize upd H3 p3 (.tup [V.ref p1, V.ref p2]) = H4 at *
      clear hen3 hd3 hpn3 hS3 e4 hT3 ee3 hO3
      have part : skF C j = false → t.dvK C 0 = true → u.dvK C j = true := fun hk h => by
        rcases dvK_part t (xs := t.enc) (p := 0) (q0 := []) (by simp) g0 h (j := j) (u := u) (q := post) (Nat.zero_le _) (by omega) hup with r | ⟨_, _, r2, r3, _⟩
        · exact r
        · have : skF C j = true := by unfold skF; rw [r3, Bool.and_true]; exact decide_eq_true r2
          rw [hk] at this
          cases this
      have skn : t.enc[j]? ≠ some (.str "lam") → skF C j = false := fun hn => by
        cases hk : skF C j with
        | false => rfl
        | true =>
          unfold skF at hk
          rw [Bool.and_eq_true, decide_eq_true_iff] at hk
          have := (redB_iff.mp (hC _ hk.2)).2
          rw [show j - 1 + 1 = j by omega] at this
          exact absurd this hn
      cases u with
      | var n =>
        have hv2 := (drop_get (i := j) (v := .int n) (r := post) hup).1
        rw [hv] at hv2
        cases hv2
        have hdr2 : t.enc.drop j = encs (Tm.var n :: us) := by
          rw [hup, encs_cons]
          have := (drop_get (i := j) (v := .int n) (r := post) hup).2
          rw [hdr] at this
          rw [this]
        have hcf : C j = false := by
          cases hc : C j with
          | false => rfl
          | true =>
            have := (redB_iff.mp (hC j hc)).1
            rw [hv] at this
            cases this
        walk_at "go"
        have skj := skn (by rw [hv]; intro z; cases z)
        refine ⟨p1, [.int n], rfl, hT4, fun x hx => .inl ⟨_, List.mem_singleton.mp hx⟩, fun hf => ?_, fun hf => ?_⟩
        · walk_at "go"
          have er : refs as.reverse ++ [V.ref p3] = refs (p3 :: as).reverse := by simp [refs]
          rw [er, skj]
          have fr5 : Fr pn H4 (upd H4 pn (.lst (refs (p3 :: as).reverse))) := Fr.own (Fr.refl pn H4)
          have nd : d ≠ pn := fun z => by rw [z, hpn4] at hd4; cases hd4
          rw [hcf] at hen4
          exact ⟨p3 :: as, Tm.var n :: us, _, _, _, _, rfl, ee4.mut hpn, fr5 _ _ nd hd4, upd_same, ⟨⟨⟨p1, p2, fr_t fr5 hpn4 hP4, fr_t fr5 hpn4 hT4, fr5 _ _ n2 hO4, n2⟩, hf, trivial⟩, hen4.mono fr5 hpn4⟩, hdr2⟩
        · refine qe ?_ H4 ee4
          cases hh : t.dvK C 0 with
          | false => rfl
          | true =>
            have := part skj hh
            rw [show (Tm.var n).dvK C j = fitsV [V.int (n : Int)] from rfl, hf] at this
            cases this
      | lam b =>
        have dg := drop_get (i := j) (v := .str "lam") (r := b.enc ++ post) hup
        have hv2 := dg.1
        rw [hv] at hv2
        cases hv2
        have hcf : C j = false := by
          cases hc : C j with
          | false => rfl
          | true =>
            have := (redB_iff.mp (hC j hc)).1
            rw [hv] at this
            exact absurd (V.str.inj (Option.some.inj this)) (by decide +kernel)
        obtain ⟨rest, rfl, hrest⟩ := encs_cut (u := b) (p := post) (by rw [← dg.2]; exact hdr)
        have hdr2 : t.enc.drop j = encs (Tm.lam b :: rest) := by rw [hup, encs_cons, hrest]
        walk_at "go"
        refine ⟨d, valV kvs (.inl ((j : Int) - 1)), rfl, DGet.k (k := .inl ((j : Int) - 1)) hd4, ?_⟩
        have hsome : (valV kvs (.inl ((j : Int) - 1))).isSome = skF C j := by
          rw [hch]
          unfold skF
          by_cases h1 : 1 ≤ j
          · rw [show ((j : Int) - 1).toNat = j - 1 by omega, decide_eq_true h1]
            cases C (j - 1)
            · simp
            · simp
              omega
          · rw [decide_eq_false h1]
            simp
            omega
        rw [hsome]
        rw [hcf] at hen4
        obtain ⟨x1, as1, rfl, hx1, hk1, hg1, hen5⟩ := hen4.uncons
        have hk1 : b.dvK C (j + 1) = true := hk1
        have epos : j + (Tm.lam b).enc.length = j + 1 + b.enc.length := by
          show j + (b.enc.length + 1) = _
          omega
        cases hsk2 : skF C j with
        | true =>
          walk_at "go"
          refine ⟨x1 :: as1, Tm.lam b :: rest, _, _, _, _, rfl, ee4, hd4, hpn4, ⟨⟨hx1, ⟨b, rfl, hk1⟩, hg1⟩, ?_⟩, hdr2⟩
          rw [epos]
          exact hen5
        | false =>
          have er : refs (x1 :: as1).reverse = refs as1.reverse ++ [V.ref x1] := by simp [refs]
          rw [er] at hpn4
          walk_at "go"
          intro p4 hp4
          have fr5 : Fr pn H4 (upd H4 pn (.lst (refs as1.reverse))) := Fr.own (Fr.refl pn H4)
          have hpn5 : upd H4 pn (.lst (refs as1.reverse)) pn = some (.lst (refs as1.reverse)) := upd_same
          have nd : d ≠ pn := fun z => by rw [z, hpn4] at hd4; cases hd4
          have hx5 := hx1.mono fr5 hpn4
          have hen6 := hen5.mono fr5 hpn4
          have hd5 := fr5 _ _ nd hd4
          have hP5 := fr_t fr5 hpn4 hP4
          have hT5 := fr_t fr5 hpn4 hT4
          have hO5 := fr5 _ _ n2 hO4
          have ee5 : Ex H (upd H4 pn (.lst (refs as1.reverse))) := ee4.mut hpn
          generalize upd H4 pn (.lst (refs as1.reverse)) = H5 at *
          clear fr5 hx1 hen5 hd4 hP4 hT4 hO4 hpn4
          have e6 := Ex.new hp4 (o := .lst [V.ref x1])
          have hl6 : upd H5 p4 (.lst [V.ref x1]) p4 = some (.lst (refs [x1])) := upd_same
          obtain ⟨T1, O1, a1, a2, a3, a4⟩ := hx5
          have a1 := ex_t e6 a1
          have a2 := ex_t e6 a2
          have a3 := e6 _ _ a3
          have hpn6 := e6 _ _ hpn5
          have hen7 := hen6.mono (Fr.ex e6) hpn5
          have hd6 := e6 _ _ hd5
          have hP6 := ex_t e6 hP5
          have hT6 := ex_t e6 hT5
          have hO6 := e6 _ _ hO5
          have ee6 := ee5.trans e6
          generalize upd H5 p4 (.lst [V.ref x1]) = H6 at *
          clear e6 hen6 hd5 hP5 hT5 hO5 hpn5 ee5
          have zb := fits_len (dvK_fits b hg1 hk1)
          have lOb := dvO_len b hg1
          have lg1 : as1.length = rest.length := hen7.len
          have rl1 : (refs as1.reverse).length = rest.length := by rw [show refs as1.reverse = as1.reverse.map V.ref from rfl, List.length_map, List.length_reverse]; exact lg1
          have rest_le : rest.length ≤ t.enc.length := by simp only [List.length_cons] at usl; omega
          walk_at "go"
          refine ⟨p3, p4, [.str "lam"], [j], [x1], [((b.dv C (j + 1)).enc, b.dvO C (j + 1))], rfl, ⟨p1, p2, hP6, hT6, hO6⟩, hl6, ⟨⟨T1, O1, a1, a2, a3⟩, trivial⟩, by simp, by simp; omega, by simp; omega, fun hz H7 p T O e7 hp hT hO0 hO => ?_, fun hz H7 e7 => ?_⟩
          · have hpn7 := e7 _ _ hpn6
            have hd7 := e7 _ _ hd6
            have hen8 := hen7.mono (Fr.ex e7) hpn6
            have nO : O ≠ pn := (ne_of_none hpn6 hO0).symm
            walk_at "go"
            have erz : refs as1.reverse ++ [V.ref p] = refs (p :: as1).reverse := by simp [refs]
            rw [erz]
            have frz : Fr pn H7 (upd H7 pn (.lst (refs (p :: as1).reverse))) := Fr.own (Fr.refl pn H7)
            have ndz : d ≠ pn := fun z => by rw [z, hpn7] at hd7; cases hd7
            have hTz : SqT K H7 T ((Tm.lam b).dv C j).enc := by simpa [Tm.dv, Tm.enc] using hT
            have hOz : H7 O = some (.lst (nums ((Tm.lam b).dvO C j))) := by simpa [Tm.dvO, nums] using hO
            have henz : Ents K H7 pn C (j + (Tm.lam b).enc.length) false as1 rest := by
              rw [show j + (Tm.lam b).enc.length = j + 1 + b.enc.length by simp only [Tm.enc, List.length_cons, List.length_append]; omega]
              exact hen8
            exact ⟨p :: as1, (Tm.lam b) :: rest, _, _, _, _, rfl, (ee6.trans e7).mut hpn, frz _ _ ndz hd7, upd_same, ⟨⟨⟨T, O, fr_t frz hpn7 hp, fr_t frz hpn7 hTz, frz _ _ nO hOz, nO⟩, (show (Tm.lam b).dvK C j = true by rw [Tm.dvK, hk1, Bool.true_and]; exact decide_eq_true (by simp at hz; omega)), hg1⟩, henz.mono frz hpn7⟩, hdr2⟩
          · refine qe ?_ H7 (ee6.trans e7)
            cases hh : t.dvK C 0 with
            | false => rfl
            | true =>
              have := part hsk2 hh
              rw [Tm.dvK, Bool.and_eq_true, decide_eq_true_iff] at this
              exact absurd (by simp; omega) hz
      | app g c =>
        have dg := drop_get (i := j) (v := .str "app") (r := g.enc ++ (c.enc ++ post)) (by rw [hup]; simp [Tm.enc])
        have hv2 := dg.1
        rw [hv] at hv2
        cases hv2
        obtain ⟨rest1, rfl, hrest1⟩ := encs_cut (u := g) (p := c.enc ++ post) (by rw [← dg.2]; exact hdr)
        obtain ⟨rest, rfl, hrest⟩ := encs_cut (u := c) (p := post) hrest1
        have hdr2 : t.enc.drop j = encs (Tm.app g c :: rest) := by rw [hup, encs_cons, hrest]
        obtain ⟨x1, as1, rfl, hx1, hk1, hg1, hen5⟩ := hen4.uncons
        obtain ⟨x2, as2, rfl, hx2, hk2, hg2, hen6⟩ := hen5.uncons
        have er : refs (x1 :: x2 :: as2).reverse = refs (as2.reverse ++ [x2]) ++ [V.ref x1] := by simp [refs]
        have er2 : refs (as2.reverse ++ [x2]) = refs as2.reverse ++ [V.ref x2] := by simp [refs]
        rw [er] at hpn4
        have hpn5 : upd H4 pn (.lst (refs (as2.reverse ++ [x2]))) pn = some (.lst (refs as2.reverse ++ [V.ref x2])) := by rw [upd_same, er2]
        walk_at "go"
        have fr5 : Fr pn H4 (upd (upd H4 pn (.lst (refs (as2.reverse ++ [x2])))) pn (.lst (refs as2.reverse))) := Fr.own (Fr.own (Fr.refl pn H4))
        have hpn6 : upd (upd H4 pn (.lst (refs (as2.reverse ++ [x2])))) pn (.lst (refs as2.reverse)) pn = some (.lst (refs as2.reverse)) := upd_same
        have hy1 := hx1.mono fr5 hpn4
        have hy2 := hx2.mono fr5 hpn4
        have hen7 := hen6.mono fr5 hpn4
        have ee5 : Ex H (upd (upd H4 pn (.lst (refs (as2.reverse ++ [x2])))) pn (.lst (refs as2.reverse))) := (ee4.mut hpn).mut hpn
        have nd : d ≠ pn := fun z => by rw [z, hpn4] at hd4; cases hd4
        have hd5 := fr5 _ _ nd hd4
        have hP5 := fr_t fr5 hpn4 hP4
        have hT5 := fr_t fr5 hpn4 hT4
        have hO5 := fr5 _ _ n2 hO4
        generalize upd (upd H4 pn (.lst (refs (as2.reverse ++ [x2])))) pn (.lst (refs as2.reverse)) = H5 at *
        clear hpn5 fr5 hx1 hx2 hen6 hd4 hP4 hT4 hO4 hpn4
        refine ⟨d, valV kvs (.inl (j : Int)), rfl, DGet.k (k := .inl (j : Int)) hd5, ?_⟩
        have hsome : (valV kvs (.inl (j : Int))).isSome = C j := by
          rw [hch, Int.toNat_natCast]
          cases hcj : C j with
          | true => exact decide_eq_true ⟨by omega, rfl⟩
          | false => exact decide_eq_false fun z => nomatch z.2
        rw [hsome]
        have skj := skn (by rw [hv]; intro z; exact absurd (V.str.inj (Option.some.inj z)) (by decide +kernel))
        have lg2 : as2.length = rest.length := hen7.len
        have rl2 : (refs as2.reverse).length = rest.length := by rw [show refs as2.reverse = as2.reverse.map V.ref from rfl, List.length_map, List.length_reverse]; exact lg2
        have rest_le : rest.length ≤ t.enc.length := by simp only [List.length_cons] at usl; omega
        cases hc : C j with
        | true =>
          obtain ⟨b, rfl⟩ := gu.1 hc
          rw [hc] at hk1 hy1
          obtain ⟨_, eb, hk1⟩ := (show ∃ c, Tm.lam b = .lam c ∧ c.dvK C (j + 1 + 1) = true from hk1)
          cases eb
          have hk2 : c.dvK C (j + 1 + (Tm.lam b).enc.length) = true := hk2
          have gb : b.gd C (j + 1 + 1) := hg1
          have zb := fits_len (dvK_fits b gb hk1)
          have za := fits_len (dvK_fits c hg2 hk2)
          obtain ⟨T1, O1, a1, a2, a3, _⟩ := hy1
          obtain ⟨T2, O2, c1, c2, c3, _⟩ := hy2
          have edv : (Tm.app (.lam b) c).dv C j = Tm.put (c.dv C (j + 1 + (Tm.lam b).enc.length)) 0 (b.dv C (j + 1 + 1)) := by rw [Tm.dv, if_pos hc]; rfl
          have edO : (Tm.app (.lam b) c).dvO C j = (pO (List.range' (b.dv C (j + 1 + 1)).enc.length (c.dv C (j + 1 + (Tm.lam b).enc.length)).enc.length) (b.dv C (j + 1 + 1)).enc ((b.dv C (j + 1 + 1)).deps 0) (List.range' 0 (b.dv C (j + 1 + 1)).enc.length)).map fun k => (b.dvO C (j + 1 + 1) ++ c.dvO C (j + 1 + (Tm.lam b).enc.length)).getD k 0 := by rw [Tm.dvO, if_pos hc]; rfl
          have edK : (Tm.app (.lam b) c).dvK C j = fitsV (Tm.put (c.dv C (j + 1 + (Tm.lam b).enc.length)) 0 (b.dv C (j + 1 + 1))).enc := by
            rw [Tm.dvK, if_pos hc, hk1, hk2]
            rfl
          walk_at "go"
          refine ⟨x1, x2, b.dv C (j + 1 + 1), c.dv C (j + 1 + (Tm.lam b).enc.length), b.dvO C (j + 1 + 1), c.dvO C (j + 1 + (Tm.lam b).enc.length), rfl, ⟨T1, O1, a1, a2, a3⟩, ⟨T2, O2, c1, c2, c3⟩, dvO_len b gb, dvO_len c hg2, zb, za, fun hf H6 p T O e6 hp hT hO0 hO => ?_, fun hf H6 e6 => ?_⟩
          · have hpn8 := e6 _ _ hpn6
            have hd6 := e6 _ _ hd5
            have hen8 := hen7.mono (Fr.ex e6) hpn6
            have nO : O ≠ pn := (ne_of_none hpn6 hO0).symm
            walk_at "go"
            rw [skj]
            have erz : refs as2.reverse ++ [V.ref p] = refs (p :: as2).reverse := by simp [refs]
            rw [erz]
            have frz : Fr pn H6 (upd H6 pn (.lst (refs (p :: as2).reverse))) := Fr.own (Fr.refl pn H6)
            have ndz : d ≠ pn := fun z => by rw [z, hpn8] at hd6; cases hd6
            have hTz : SqT K H6 T ((Tm.app (.lam b) c).dv C j).enc := by rw [edv]; exact hT
            have hOz : H6 O = some (.lst (nums ((Tm.app (.lam b) c).dvO C j))) := by rw [edO]; exact hO
            have henz : Ents K H6 pn C (j + (Tm.app (.lam b) c).enc.length) false as2 rest := by
              rw [show j + (Tm.app (.lam b) c).enc.length = j + 1 + (Tm.lam b).enc.length + c.enc.length by simp only [Tm.enc, List.length_cons, List.length_append]; omega]
              exact hen8
            exact ⟨p :: as2, (Tm.app (.lam b) c) :: rest, _, _, _, _, rfl, (ee5.trans e6).mut hpn, frz _ _ ndz hd6, upd_same, ⟨⟨⟨T, O, fr_t frz hpn8 hp, fr_t frz hpn8 hTz, frz _ _ nO hOz, nO⟩, (edK.trans hf), gu⟩, henz.mono frz hpn8⟩, hdr2⟩
          · refine qe ?_ H6 (ee5.trans e6)
            cases hh : t.dvK C 0 with
            | false => rfl
            | true =>
              have := part skj hh
              rw [edK, hf] at this
              cases this
        | false =>
          rw [hc] at hk1 hy1
          have hk1 : g.dvK C (j + 1) = true := hk1
          have hk2 : c.dvK C (j + 1 + g.enc.length) = true := hk2
          have zb := fits_len (dvK_fits g hg1 hk1)
          have za := fits_len (dvK_fits c hg2 hk2)
          obtain ⟨T1, O1, a1, a2, a3, _⟩ := hy1
          obtain ⟨T2, O2, c1, c2, c3, _⟩ := hy2
          have edv : (Tm.app g c).dv C j = .app (g.dv C (j + 1)) (c.dv C (j + 1 + g.enc.length)) := by rw [Tm.dv, if_neg (by simp [hc])]
          have edO : (Tm.app g c).dvO C j = j :: (g.dvO C (j + 1) ++ c.dvO C (j + 1 + g.enc.length)) := by rw [Tm.dvO, if_neg (by simp [hc])]
          have lO1 := dvO_len g hg1
          have lO2 := dvO_len c hg2
          have edK : (Tm.app g c).dvK C j = true ↔ ((Tm.app g c).dv C j).enc.length ≤ 1000 := by
            cases g with
            | lam b =>
              rw [Tm.dvK, if_neg (by simp [hc]), Bool.and_eq_true, Bool.and_eq_true, Bool.and_eq_true, decide_eq_true_iff, decide_eq_true_iff]
              rw [Tm.dvK, Bool.and_eq_true, decide_eq_true_iff] at hk1
              exact ⟨fun h => h.2.2, fun h => ⟨⟨hk1.1, hk2⟩, hk1.2, h⟩⟩
            | var n =>
              rw [Tm.dvK, Bool.and_eq_true, Bool.and_eq_true, decide_eq_true_iff]
              · exact ⟨fun h => h.2, fun h => ⟨⟨hk1, hk2⟩, h⟩⟩
              · exact fun b z => nomatch z
            | app g1 g2 =>
              rw [Tm.dvK, Bool.and_eq_true, Bool.and_eq_true, decide_eq_true_iff]
              · exact ⟨fun h => h.2, fun h => ⟨⟨hk1, hk2⟩, h⟩⟩
              · exact fun b z => nomatch z
          walk_at "go"
          intro p4 hp4
          have e6 := Ex.new hp4 (o := .lst [V.ref x1, V.ref x2])
          have hl6 : upd H5 p4 (.lst [V.ref x1, V.ref x2]) p4 = some (.lst (refs [x1, x2])) := upd_same
          have a1 := ex_t e6 a1
          have a2 := ex_t e6 a2
          have a3 := e6 _ _ a3
          have c1 := ex_t e6 c1
          have c2 := ex_t e6 c2
          have c3 := e6 _ _ c3
          have hpn7 := e6 _ _ hpn6
          have hen8 := hen7.mono (Fr.ex e6) hpn6
          have hd6 := e6 _ _ hd5
          have hP6 := ex_t e6 hP5
          have hT6 := ex_t e6 hT5
          have hO6 := e6 _ _ hO5
          have ee6 := ee5.trans e6
          generalize upd H5 p4 (.lst [V.ref x1, V.ref x2]) = H6 at *
          clear e6 hen7 hd5 hP5 hT5 hO5 hpn6 ee5
          rw [skj]
          walk_at "go"
          refine ⟨p3, p4, [.str "app"], [j], [x1, x2], [((g.dv C (j + 1)).enc, g.dvO C (j + 1)), ((c.dv C (j + 1 + g.enc.length)).enc, c.dvO C (j + 1 + g.enc.length))], rfl, ⟨p1, p2, hP6, hT6, hO6⟩, hl6, ⟨⟨T1, O1, a1, a2, a3⟩, ⟨T2, O2, c1, c2, c3⟩, trivial⟩, by simp, by simp; omega, by simp; omega, fun hz H7 p T O e7 hp hT hO0 hO => ?_, fun hz H7 e7 => ?_⟩
          · have hpn9 := e7 _ _ hpn7
            have hd7 := e7 _ _ hd6
            have hen9 := hen8.mono (Fr.ex e7) hpn7
            have nO : O ≠ pn := (ne_of_none hpn7 hO0).symm
            have hzz : ((Tm.app g c).dv C j).enc.length ≤ 1000 := by
              rw [edv]
              simp only [Tm.enc, List.length_cons, List.length_append]
              simp at hz
              omega
            walk_at "go"
            have erz : refs as2.reverse ++ [V.ref p] = refs (p :: as2).reverse := by simp [refs]
            rw [erz]
            have frz : Fr pn H7 (upd H7 pn (.lst (refs (p :: as2).reverse))) := Fr.own (Fr.refl pn H7)
            have ndz : d ≠ pn := fun z => by rw [z, hpn9] at hd7; cases hd7
            have hTz : SqT K H7 T ((Tm.app g c).dv C j).enc := by rw [edv]; simpa [Tm.enc] using hT
            have hOz : H7 O = some (.lst (nums ((Tm.app g c).dvO C j))) := by rw [edO]; simpa using hO
            have henz : Ents K H7 pn C (j + (Tm.app g c).enc.length) false as2 rest := by
              rw [show j + (Tm.app g c).enc.length = j + 1 + g.enc.length + c.enc.length by simp only [Tm.enc, List.length_cons, List.length_append]; omega]
              exact hen9
            exact ⟨p :: as2, (Tm.app g c) :: rest, _, _, _, _, rfl, (ee6.trans e7).mut hpn, frz _ _ ndz hd7, upd_same, ⟨⟨⟨T, O, fr_t frz hpn9 hp, fr_t frz hpn9 hTz, frz _ _ nO hOz, nO⟩, edK.mpr hzz, gu⟩, henz.mono frz hpn9⟩, hdr2⟩
          · refine qe ?_ H7 (ee6.trans e7)
            cases hh : t.dvK C 0 with
            | false => rfl
            | true =>
              have h2 := edK.mp (part skj hh)
              rw [edv] at h2
              simp only [Tm.enc, List.length_cons, List.length_append] at h2
              exact absurd (by simp; omega) hz
    · rintro σ H1 ⟨as, us, y3, y4, y5, y6, rfl, e1, hd1, hpn1, hen, hdr⟩
      have z0 : t.enc.length - ((t.enc.length : Int) - 0).toNat = 0 := by omega
      rw [z0] at hen hdr
      obtain ⟨rest, rfl, hrest⟩ := encs_cut (u := t) (p := []) (by rw [List.append_nil]; exact hdr)
      have := encs_nil hrest.symm
      subst this
      obtain ⟨x, as', rfl, ⟨T1, O1, h1, h2, h3, h4⟩, hk, _, hen2⟩ := hen.uncons
      have las := hen2.len
      have : as' = [] := List.length_eq_zero_iff.mp las
      subst this
      walk_at "go"
      have hk2 : t.dvK C 0 = true := hk
      have h12 : SqT K H1 T1 (t.dv C 0).enc := h2
      have h13 : H1 O1 = some (.lst (nums (t.dvO C 0))) := h3
      have hpn2 : H1 pn = some (.lst ([] ++ [V.ref x])) := hpn1
      walk_at "go"
      exact q hk2 _ x T1 O1 (e1.mut hpn) (sqT_lst h1 hpn1) (sqT_lst h12 hpn1) (by rw [upd_ne h4]; exact h13)
end
end Ly
set_option Elab.async false
set_option linter.all false
set_option maxRecDepth 100000
set_option maxHeartbeats 8000000
namespace Ly
open PySem PySem.Spec PyProof.Rows L2 Evl
local macro_rules | `(tactic| walk_at "ne") => `(tactic| first
  | assumption
  | ((refine' Ne.symm ?hq); (case hq => assumption))
  | ((refine' ne_of_none ?nh1 ?nh2); (case nh2 => assumption); (case nh1 => walk_at "hp"))
  | ((refine' Ne.symm (ne_of_none ?nh1 ?nh2)); (case nh2 => assumption); (case nh1 => walk_at "hp")))
local macro_rules | `(tactic| walk_at "hp") => `(tactic| first
  | assumption
  | exact upd_same
  | ((refine' SqL.of ?hq); (case hq => walk_at "hp"))
  | ((refine' SqT.of ?hq); (case hq => walk_at "hp"))
  | ((refine' (upd_ne ?hne).trans ?hrest); (case hne => walk_at "ne"); (case hrest => walk_at "hp"))
  | ((refine' ly_at ?hex ?hh); (case hex => assumption); (case hh => walk_at "hp"))
  | ((refine' ly_atF ?hex ?hnn ?hh); (case hex => assumption); (case hh => walk_at "hp"); (case hnn => walk_at "ne"))
  | ((refine' ex_t ?hex ?hh); (case hh => assumption); (case hex => walk_at "ex"))
  | ((refine' ex_l ?hex ?hh); (case hh => assumption); (case hex => walk_at "ex")))
local macro_rules | `(tactic| walk_at "ex") => `(tactic| first
  | assumption
  | exact Ex.refl _
  | ((refine' ex_new ?xa ?xb); (case xb => assumption); (case xa => walk_at "ex"))
  | ((refine' ex_upd ?xa ?xb); (case xb => walk_at "free"); (case xa => walk_at "ex"))
  | ((refine' Ex.trans ?xa ?xb); (case xb => assumption); (case xa => walk_at "ex")))
local macro_rules | `(tactic| walk_at "free") => `(tactic| first
  | assumption
  | ((refine' fresh_back ?xa ?xb); (case xb => assumption); (case xa => walk_at "ex")))
local macro_rules | `(tactic| walk_at "fr") => `(tactic| first
  | assumption
  | exact Fr.refl _ _
  | ((refine' Fr.own ?hq); (case hq => walk_at "fr"))
  | ((refine' Fr.new ?xa ?xb); (case xb => assumption); (case xa => walk_at "fr"))
  | ((refine' Fr.mut ?xa ?xb); (case xb => assumption); (case xa => walk_at "fr"))
  | ((refine' Fr.trans ?xa ?xb); (case xb => assumption); (case xa => walk_at "fr"))
  | ((refine' Fr.trans ?xa (Fr.ex ?xb)); (case xb => assumption); (case xa => walk_at "fr")))
local macro_rules | `(tactic| walk_at "go1") => `(tactic| first
  | (with_reducible refine' w_seq ?_)
  | (with_reducible refine' w_asg ?_)
  | (with_reducible refine' w_ret ?_)
  | (with_reducible refine' w_drop ?_)
  | (with_reducible refine' w_if ?_)
  | (with_reducible refine' w_next ?_)
  | (with_reducible refine' w_name ?_)
  | (with_reducible refine' w_sub ?_)
  | ((with_reducible refine' w_var ?hv ?_); (case hv => exact rfl))
  | (with_reducible refine' w_c ?_)
  | (with_reducible refine' w_op ?_)
  | (with_reducible refine' w_un ?_)
  | (with_reducible refine' w_ch ?_)
  | (with_reducible refine' w_I0 ?_)
  | ((with_reducible refine' w_I ?hc ?_); (case hc => first | (exact ly_mulL (by decide) (by decide)) | (exact ly_mulR (by decide) (by decide)) | (exact ly_mulL (by omega) (by omega)) | (show (_ : Int) ≠ 0; decide) | (show (_ : Int) ≠ 0; omega) | (exact ⟨by decide, by decide⟩) | (exact ⟨by omega, by omega⟩)))
  | (with_reducible refine' w_U ?_)
  | ((with_reducible refine' w_eq ?hs ?_); (case hs => exact rfl))
  | ((with_reducible refine' w_ne ?hs ?_); (case hs => exact rfl))
  | (with_reducible refine' w_isB ?_)
  | (with_reducible refine' w_notB ?_)
  | (with_reducible refine' w_nil ?_)
  | (with_reducible refine' w_cons ?_)
  | (with_reducible refine' w_tup ?_)
  | (with_reducible refine' w_lst ?_)
  | (with_reducible refine' w_cb ?_)
  | (with_reducible refine' w_call ?_)
  | (with_reducible refine' w_bm ?_)
  | (with_reducible refine' w_bm0 ?_)
  | ((with_reducible refine' w_app ?hh ?hz ?_); (case hh => walk_at "hp"); (case hz => first | exact ly_lt (by omega) | exact ly_lt (by simp only [List.length_append, List.length_map, List.length_cons, List.length_nil]; omega)))
  | ((with_reducible refine' w_popA ?hh ?_); (case hh => walk_at "hp"))
  | ((with_reducible refine' w_ext ?hh ?hh2 ?hz ?_); (case hh => walk_at "hp"); (case hh2 => walk_at "hp"))
  | ((with_reducible refine' w_ixL ?hh ?ha ?_); (case hh => walk_at "hp"); (case ha => first | exact rfl | exact at_map (by omega) | exact atI_last _ _ | ((refine' at_of ?ae ?ah); (case ah => assumption); (case ae => omega))))
  | ((with_reducible refine' w_ixT ?hh ?ha ?_); (case hh => walk_at "hp"); (case ha => first | exact rfl | exact at_map (by omega) | exact atI_last _ _ | ((refine' at_of ?ae ?ah); (case ah => assumption); (case ae => omega))))
  | ((with_reducible refine' w_cat ?hh ?hh2 ?hz ?_); (case hh => walk_at "hp"); (case hh2 => walk_at "hp"))
  | ((with_reducible refine' w_setL ?hh ?ha ?_); (case hh => walk_at "hp"); (case ha => exact rfl))
  | (with_reducible refine' w_test ?_)
  | (with_reducible refine' w_tB ?_)
  | (with_reducible refine' w_bl ?_)
  | (with_reducible refine' w_and ?_)
  | (with_reducible refine' w_or ?_)
  | (with_reducible refine' w_not ?_)
  | (with_reducible refine' w_andV ?_)
  | (with_reducible refine' w_orV ?_)
  | (with_reducible refine' w_notV ?_)
  | (with_reducible refine' w_ifE ?_)
  | (with_reducible refine' w_for ?_)
  | ((with_reducible refine' w_nin ?hh ?_); (case hh => walk_at "hp"))
  | ((with_reducible refine' w_sorted ?hh ?_); (case hh => walk_at "hp"))
  | (with_reducible refine' w_tsadd ?_)
  | ((with_reducible refine' w_tsadd1 ?hh ?_); (case hh => walk_at "hp"))
  | ((with_reducible refine' w_sadd ?hh ?hr ?_); (case hh => walk_at "hp"); (case hr => omega))
  | (with_reducible refine' w_iZ ?_)
  | ((with_reducible refine' w_iZ1 ?hh ?hh2 ?_); (case hh => walk_at "hp"); (case hh2 => walk_at "hp"))
  | (with_reducible refine' w_iS ?_)
  | (with_reducible refine' w_iS1 ?_)
  | ((with_reducible refine' w_gtup ?hh ?hn ?_); (case hh => walk_at "hp"); (case hn => exact rfl))
  | (with_reducible refine' w_gcons ?_)
  | (with_reducible refine' w_gnil ?_)
  | (with_reducible refine' w_js ?_)
  | (with_reducible refine' w_jsn ?_)
  | ((with_reducible refine' w_js1 ?hl ?_); (case hl => decide +kernel))
  | (with_reducible refine' w_fmt ?_)
  | ((with_reducible refine' w_fmt1 ?hl ?_); (case hl => decide +kernel))
  | (with_reducible refine' w_callS ?_)
  | ((with_reducible refine' w_truL ?hh ?_); (case hh => walk_at "hp"))
  | (with_reducible refine' w_lc ?_)
  | (with_reducible refine' w_yes ?_)
  | ((with_reducible refine' w_wipe ?he ?_); (case he => exact rfl))
  | (with_reducible refine' w_iL ?_)
  | (with_reducible refine' w_iT ?_)
  | (with_reducible refine' w_iR ?_)
  | ((with_reducible refine' w_iL1 ?hh ?_); (case hh => walk_at "hp"))
  | ((with_reducible refine' w_iT1 ?hh ?_); (case hh => walk_at "hp"))
  | ((with_reducible refine' w_iR1 ?h1 ?h2 ?_); (case h1 => omega); (case h2 => omega))
  | ((with_reducible refine' w_aug ?hv ?_); (case hv => exact rfl))
  | (with_reducible refine' w_ipI ?_)
  | ((with_reducible refine' w_isi ?hy ?hk ?_); (case hy => walk_at "ty"); (case hk => walk_at "kit"))
  | ((with_reducible refine' w_int ?_))
  | ((with_reducible refine' w_intB ?_))
  | ((with_reducible refine' w_abs ?_))
  | ((with_reducible refine' w_lenL ?hh ?_); (case hh => walk_at "hp"))
  | ((with_reducible refine' w_lenT ?hh ?_); (case hh => walk_at "hp"))
  | ((with_reducible refine' w_tupL ?hh ?_); (case hh => walk_at "hp"))
  | ((with_reducible refine' w_tupT ?hh ?_); (case hh => walk_at "hp"))
  | ((with_reducible refine' w_catA ?hh ?hh2 ?hz ?_); (case hh => walk_at "hp"); (case hh2 => walk_at "hp"); (case hz => walk_at "len"))
  | ((with_reducible refine' w_repB ?hh ?hne ?h2 ?h3 ?hz ?_); (case hh => walk_at "hp"); (case hne => simp); (case h2 => omega); (case h3 => omega); (case hz => exact Nat.le_of_ble_eq_true rfl))
  | ((with_reducible refine' w_eqN ?hh ?hh2 ?n1 ?n2 ?_); (case hh => walk_at "hp"); (case hh2 => walk_at "hp"); (case n1 => walk_at "nd"); (case n2 => walk_at "nd"))
  | ((with_reducible refine' w_neN ?hh ?hh2 ?n1 ?n2 ?_); (case hh => walk_at "hp"); (case hh2 => walk_at "hp"); (case n1 => walk_at "nd"); (case n2 => walk_at "nd"))
  | ((with_reducible refine' w_eqL ?hh ?hh2 ?n1 ?n2 ?_); (case hh => walk_at "hp"); (case hh2 => walk_at "hp"); (case n1 => walk_at "nd"); (case n2 => walk_at "nd"))
  | ((with_reducible refine' w_neL ?hh ?hh2 ?n1 ?n2 ?_); (case hh => walk_at "hp"); (case hh2 => walk_at "hp"); (case n1 => walk_at "nd"); (case n2 => walk_at "nd"))
  | ((with_reducible refine' w_neNon ?hh2 ?n2 ?_); (case hh2 => walk_at "hp"); (case n2 => walk_at "nd"))
  | ((with_reducible refine' w_eqNon ?hh2 ?n2 ?_); (case hh2 => walk_at "hp"); (case n2 => walk_at "nd"))
  | ((with_reducible refine' w_slA ?hh ?_); (case hh => walk_at "hp"))
  | ((with_reducible refine' w_disp ?hz ?_); (case hz => exact sz_of (Nat.le_of_ble_eq_true rfl)))
  | ((with_reducible refine' w_tyL ?hh ?_); (case hh => walk_at "hp"))
  | (with_reducible refine' iteT ?_)
  | (with_reducible refine' iteF ?_)
  | (with_reducible refine' w_nT ?_)
  | (with_reducible refine' w_nn ?_)
  | (with_reducible refine' w_nnT ?_)
  | (with_reducible refine' w_nnR ?_)
  | (with_reducible refine' w_neG ?_)
  | (with_reducible refine' w_eqG ?_)
  | (with_reducible refine' w_neS ?_)
  | (with_reducible refine' w_eqS ?_)
  | (with_reducible refine' w_neSb ?_)
  | (with_reducible refine' w_eqSb ?_)
  | (with_reducible refine' w_deIS ?_)
  | (with_reducible refine' w_deSI ?_)
  | (with_reducible refine' w_deISn ?_)
  | ((with_reducible refine' w_deST ?he ?_); (case he => decide +kernel))
  | ((with_reducible refine' w_deSF ?he ?_); (case he => decide +kernel))
  | ((with_reducible refine' w_deSTn ?he ?_); (case he => decide +kernel))
  | ((with_reducible refine' w_deSFn ?he ?_); (case he => decide +kernel))
  | (with_reducible refine' w_nF ?_)
  | dsimp only [Bool.not_true, Bool.not_false])
local macro_rules | `(tactic| walk_at "ty") => `(tactic| first
  | exact .base (.int _) | exact .base (.str _) | exact .base (.bl _) | exact .base .non
  | ((refine' tyx_t ?hq); (case hq => walk_at "hp")) | ((refine' tyx_l ?hq); (case hq => walk_at "hp")) | ((refine' .base (.tup ?hq)); (case hq => walk_at "hp")) | assumption)
local macro_rules | `(tactic| walk_at "go") => `(tactic| repeat walk_at "go1")
local macro_rules | `(tactic| walk_at "st") => `(tactic| try dsimp only [cxOf, Cx.nox, Cx.wish])
local macro_rules | `(tactic| walk_at "kit") => `(tactic| with_reducible first | exact kit_int_int | exact kit_int_str | exact kit_int_bool | exact kit_int_tuple | exact kit_int_list | exact kit_str_int | exact kit_str_str | exact kit_str_bool | exact kit_str_tuple | exact kit_str_list | exact kit_bool_int | exact kit_bool_str | exact kit_bool_bool | exact kit_bool_tuple | exact kit_bool_list | exact kit_NoneType_int | exact kit_NoneType_str | exact kit_NoneType_bool | exact kit_NoneType_tuple | exact kit_NoneType_list | exact kit_list_int | exact kit_list_str | exact kit_list_bool | exact kit_list_tuple | exact kit_list_list | exact kit_tuple_int | exact kit_tuple_str | exact kit_tuple_bool | exact kit_tuple_tuple | exact kit_tuple_list)
local macro_rules | `(tactic| walk_at "nd") => `(tactic| first
  | assumption
  | exact Tm.nds _
  | exact Nds.nil
  | exact Nds.ofInts _
  | ((refine' Nds.cons ?na ?nb); (case na => first | exact Nds.I _ | exact Nds.L | exact Nds.A); (case nb => walk_at "nd"))
  | ((refine' Nds.app ?na ?nb); (case na => walk_at "nd"); (case nb => walk_at "nd"))
  | ((refine' Nds.rep ?na _); (case na => walk_at "nd")))
local macro_rules | `(tactic| walk_at "len") => `(tactic| first
  | exact ly_sz (by omega)
  | ((simp only [List.length_append, List.length_cons, List.length_nil, List.length_map, PyProof.Rows.lm_len_rep_flat]); exact ly_sz (by omega)))
local macro_rules | `(tactic| walk_at "go1") => `(tactic| first
  | (with_reducible refine' w_kget2 ?_)
  | (with_reducible refine' w_isRN ?_)
  | (with_reducible refine' w_isNN ?_)
  | (with_reducible refine' w_isIN ?_)
  | ((with_reducible refine' w_kg ?hd ?_); (case hd => assumption)))
local macro_rules | `(tactic| walk_at "go1") => `(tactic| first
  | ((with_reducible refine' w_extT ?hh ?hh2 ?hz ?_); (case hh => walk_at "hp"); (case hh2 => walk_at "hp"))
  | ((with_reducible refine' w_I ?hc ?_); (case hc => exact ⟨by decide, by decide, by decide⟩))
  | (with_reducible refine' w_sl ?_)
  | (with_reducible refine' w_noP ?_)
  | (with_reducible refine' w_part ?_)
  | (with_reducible refine' w_part1 ?_)
  | (with_reducible refine' w_it ?_)
  | (with_reducible refine' w_it1 ?_)
  | ((with_reducible refine' w_lenZ ?hz ?_); (case hz => omega))
  | ((with_reducible refine' w_addZb ?hz ?_); (case hz => omega))
  | ((with_reducible refine' w_addZf ?hz ?_); (case hz => omega))
  | ((with_reducible refine' w_addZa ?hz ?_); (case hz => omega))
  | ((with_reducible refine' w_inS ?hh ?_); (case hh => walk_at "hp"))
  | ((with_reducible refine' w_ixT ?hh ?ha ?_); (case hh => assumption); (case ha => exact atI_nat (by assumption))))
local macro_rules | `(tactic| walk_at "go1") => `(tactic| first
  | (with_reducible refine' w_iR2 ?_)
  | ((with_reducible refine' w_iR21 ?h1 ?h2 ?h3 ?h4 ?_); (case h1 => omega); (case h2 => omega); (case h3 => omega); (case h4 => omega))
  | (with_reducible refine' w_nnI ?_)
  | (with_reducible refine' w_max ?_)
  | (with_reducible refine' w_break ?_)
  | (with_reducible refine' w_cont ?_))
local macro_rules | `(tactic| walk_at "go1") => `(tactic| first
  | (with_reducible refine' w_tdget ?_)
  | (with_reducible refine' w_tdin ?_)
  | (with_reducible refine' w_tdnotin ?_)
  | (with_reducible refine' w_sdput ?_)
  | (with_reducible refine' w_tdsetd ?_)
  | (with_reducible refine' w_dnew ?_))
section
variable {P : Program} {w : World} {K : PySem.W.Frag} {mg : Str → Option Value} {base : Heap} {tk : Nat → Tok} {cl : Nat → Addr}
def spDevelop (K : PySem.W.Frag) (C1 : Addr) : Sp := fun vs H Q E => ∃ (a : Addr) (t : Tm) (n : Nat), vs = [.ref a, .int (n : Int)] ∧ SqT K H a t.enc ∧ fitsV t.enc = true ∧ n ≤ 1000 ∧
  (∀ v, Tm.dvN n t = some v → ∀ H' p, Ex H H' → SqT K H' p v.enc → Q (.ref p) H') ∧ (Tm.dvN n t = none → ∀ H', Ex H H' → E (.ref C1) none H')
theorem ok_develop {f : Addr} {fd : FuncData} (F : Fun K "develop" "develop" s_develop f fd) (T : Txt w K mg tk cl)
    (D1 : Def P w K mg base (L2.CX P w) 5 "reduced" ["term", "chosen"] (spReduced K (cl 1))) (D2 : Def P w K mg base CX0 3 "all_redexes" ["term"] (spAllR K)) (D3 : Def P w K mg base (L2.CX P w) 2 "checked" ["term"] (spChecked K (cl 1))) : FnOk P w K mg base (L2.CX P w) 6 f fd ["term", "times"] (spDevelop K (cl 1)) := by
  obtain ⟨f1, fd1, g_reduced, kp_reduced, b_reduced, G_reduced⟩ := D1
  obtain ⟨f2, fd2, g_all_redexes, kp_all_redexes, b_all_redexes, G_all_redexes⟩ := D2
  obtain ⟨f3, fd3, g_checked, kp_checked, b_checked, G_checked⟩ := D3
  refine F.okX sc_develop (fun vs H Q E h => ?_) (fun cdv A outer s H vs Q E hr h => ?_)
  · obtain ⟨_, _, _, rfl, _⟩ := h
    rfl
  · obtain ⟨a, t, n, rfl, hS, hfit, hn, q, qe⟩ := h
    refine ⟨_, (pss_cons (ps_for (passes_of rfl) rfl (pi_range1 (by rfl) T.n_range (pa_cons (pv 1) pa_nil)) (pg_name (i := 2) sc_develop.nd rfl (.inl rfl)) (pss_one (ps_asg (pe_call G_reduced (hr.mono (by first | decide | omega)) (by rfl) g_reduced kp_reduced b_reduced .nil (passes_call (takes_of rfl rfl rfl rfl) (fun _ _ _ _ h => h)) (pa_cons (pv 0) (pa_cons (pe_call G_all_redexes (hr.mono (by first | decide | omega)) (by rfl) g_all_redexes kp_all_redexes b_all_redexes .nil pass0 (pa_cons (pv 0) pa_nil)) pa_nil))) (pg_tup (by rfl) (pgs_cons (pg_name (i := 0) sc_develop.nd rfl (.inl rfl)) (pgs_cons (pg_name (i := 2) sc_develop.nd rfl (.inl rfl)) pgs_nil)))))) (pss_one (ps_ret (pe_call G_checked (hr.mono (by first | decide | omega)) (by rfl) g_checked kp_checked b_checked .nil (passes_call (takes_of rfl rfl rfl rfl) (fun _ _ _ _ h => h)) (pa_cons (pv 0) pa_nil))))), ?_⟩
    refine sl_of (σ2 := [some _, some _, none]) rfl ?_
    walk_at "st"
    walk_at "go"
    refine for_range (lo := 0) (n := (n : Int).toNat) (fun i σ H' => ∃ (x : Addr) (u : Tm) (y2 : Option V), σ = [some (.ref x), some (.int (n : Int)), y2] ∧ Ex H H' ∧ SqT K H' x u.enc ∧ fitsV u.enc = true ∧ Tm.dvN n t = Tm.dvN (n - i) u) ⟨a, t, none, rfl, Ex.refl H, hS, hfit, rfl⟩ ?_ ?_
    · rintro i σ H1 hi ⟨x, u, y2, rfl, e1, hx, hfu, hdn⟩
      obtain ⟨k, hk⟩ : ∃ k, n - i = k + 1 := ⟨n - i - 1, by omega⟩
      rw [hk, Tm.dvN] at hdn
      have zu := fits_len hfu
      walk_at "go"
      refine ⟨x, u, rfl, hx, by omega, fun H2 d kvs e2 hd0 hd hch => ?_⟩
      have hx2 := ex_t e2 hx
      walk_at "go"
      refine ⟨x, d, u, kvs, redB u.enc, rfl, hx2, by omega, hd, hch, fun k h => h, fun hK H3 p T1 O1 e3 hp hT hO => ?_, fun hK H3 e3 => ?_⟩
      · rw [(full_of hfu).2] at hK
        rw [(full_of hfu).1] at hT
        rw [if_pos hK] at hdn
        walk_at "go"
        exact ⟨T1, u.full, _, rfl, (e1.trans e2).trans e3, hT, full_fits hfu hK, by rw [hdn, show n - (i + 1) = k by omega]⟩
      · rw [(full_of hfu).2] at hK
        rw [if_neg (by rw [hK]; exact Bool.false_ne_true)] at hdn
        exact qe hdn H3 ((e1.trans e2).trans e3)
    · rintro σ H1 ⟨x, u, y2, rfl, e1, hx, hfu, hdn⟩
      rw [show n - (n : Int).toNat = 0 by omega, Tm.dvN] at hdn
      walk_at "go"
      refine ⟨x, u.enc, rfl, hx, u.nds.flat, fun _ => ?_, fun h => ?_⟩
      · exact q u hdn H1 x e1 hx
      · rw [hfu] at h
        cases h
end
end Ly
set_option Elab.async false
set_option linter.all false
set_option maxRecDepth 100000
set_option maxHeartbeats 8000000
namespace Ly
open PySem PySem.Spec PyProof.Rows L2 Evl
local macro_rules | `(tactic| walk_at "ne") => `(tactic| first
  | assumption
  | ((refine' Ne.symm ?hq); (case hq => assumption))
  | ((refine' ne_of_none ?nh1 ?nh2); (case nh2 => assumption); (case nh1 => walk_at "hp"))
  | ((refine' Ne.symm (ne_of_none ?nh1 ?nh2)); (case nh2 => assumption); (case nh1 => walk_at "hp")))
local macro_rules | `(tactic| walk_at "hp") => `(tactic| first
  | assumption
  | exact upd_same
  | ((refine' SqL.of ?hq); (case hq => walk_at "hp"))
  | ((refine' SqT.of ?hq); (case hq => walk_at "hp"))
  | ((refine' (upd_ne ?hne).trans ?hrest); (case hne => walk_at "ne"); (case hrest => walk_at "hp"))
  | ((refine' ly_at ?hex ?hh); (case hex => assumption); (case hh => walk_at "hp"))
  | ((refine' ly_atF ?hex ?hnn ?hh); (case hex => assumption); (case hh => walk_at "hp"); (case hnn => walk_at "ne"))
  | ((refine' ex_t ?hex ?hh); (case hh => assumption); (case hex => walk_at "ex"))
  | ((refine' ex_l ?hex ?hh); (case hh => assumption); (case hex => walk_at "ex")))
local macro_rules | `(tactic| walk_at "ex") => `(tactic| first
  | assumption
  | exact Ex.refl _
  | ((refine' ex_new ?xa ?xb); (case xb => assumption); (case xa => walk_at "ex"))
  | ((refine' ex_upd ?xa ?xb); (case xb => walk_at "free"); (case xa => walk_at "ex"))
  | ((refine' Ex.trans ?xa ?xb); (case xb => assumption); (case xa => walk_at "ex")))
local macro_rules | `(tactic| walk_at "free") => `(tactic| first
  | assumption
  | ((refine' fresh_back ?xa ?xb); (case xb => assumption); (case xa => walk_at "ex")))
local macro_rules | `(tactic| walk_at "fr") => `(tactic| first
  | assumption
  | exact Fr.refl _ _
  | ((refine' Fr.own ?hq); (case hq => walk_at "fr"))
  | ((refine' Fr.new ?xa ?xb); (case xb => assumption); (case xa => walk_at "fr"))
  | ((refine' Fr.mut ?xa ?xb); (case xb => assumption); (case xa => walk_at "fr"))
  | ((refine' Fr.trans ?xa ?xb); (case xb => assumption); (case xa => walk_at "fr"))
  | ((refine' Fr.trans ?xa (Fr.ex ?xb)); (case xb => assumption); (case xa => walk_at "fr")))
local macro_rules | `(tactic| walk_at "go1") => `(tactic| first
  | (with_reducible refine' w_seq ?_)
  | (with_reducible refine' w_asg ?_)
  | (with_reducible refine' w_ret ?_)
  | (with_reducible refine' w_drop ?_)
  | (with_reducible refine' w_if ?_)
  | (with_reducible refine' w_next ?_)
  | (with_reducible refine' w_name ?_)
  | (with_reducible refine' w_sub ?_)
  | ((with_reducible refine' w_var ?hv ?_); (case hv => exact rfl))
  | (with_reducible refine' w_c ?_)
  | (with_reducible refine' w_op ?_)
  | (with_reducible refine' w_un ?_)
  | (with_reducible refine' w_ch ?_)
  | (with_reducible refine' w_I0 ?_)
  | ((with_reducible refine' w_I ?hc ?_); (case hc => first | (exact ly_mulL (by decide) (by decide)) | (exact ly_mulR (by decide) (by decide)) | (exact ly_mulL (by omega) (by omega)) | (show (_ : Int) ≠ 0; decide) | (show (_ : Int) ≠ 0; omega) | (exact ⟨by decide, by decide⟩) | (exact ⟨by omega, by omega⟩)))
  | (with_reducible refine' w_U ?_)
  | ((with_reducible refine' w_eq ?hs ?_); (case hs => exact rfl))
  | ((with_reducible refine' w_ne ?hs ?_); (case hs => exact rfl))
  | (with_reducible refine' w_isB ?_)
  | (with_reducible refine' w_notB ?_)
  | (with_reducible refine' w_nil ?_)
  | (with_reducible refine' w_cons ?_)
  | (with_reducible refine' w_tup ?_)
  | (with_reducible refine' w_lst ?_)
  | (with_reducible refine' w_cb ?_)
  | (with_reducible refine' w_call ?_)
  | (with_reducible refine' w_bm ?_)
  | (with_reducible refine' w_bm0 ?_)
  | ((with_reducible refine' w_app ?hh ?hz ?_); (case hh => walk_at "hp"); (case hz => first | exact ly_lt (by omega) | exact ly_lt (by simp only [List.length_append, List.length_map, List.length_cons, List.length_nil]; omega)))
  | ((with_reducible refine' w_popA ?hh ?_); (case hh => walk_at "hp"))
  | ((with_reducible refine' w_ext ?hh ?hh2 ?hz ?_); (case hh => walk_at "hp"); (case hh2 => walk_at "hp"))
  | ((with_reducible refine' w_ixL ?hh ?ha ?_); (case hh => walk_at "hp"); (case ha => first | exact rfl | exact at_map (by omega) | exact atI_last _ _ | ((refine' at_of ?ae ?ah); (case ah => assumption); (case ae => omega))))
  | ((with_reducible refine' w_ixT ?hh ?ha ?_); (case hh => walk_at "hp"); (case ha => first | exact rfl | exact at_map (by omega) | exact atI_last _ _ | ((refine' at_of ?ae ?ah); (case ah => assumption); (case ae => omega))))
  | ((with_reducible refine' w_cat ?hh ?hh2 ?hz ?_); (case hh => walk_at "hp"); (case hh2 => walk_at "hp"))
  | ((with_reducible refine' w_setL ?hh ?ha ?_); (case hh => walk_at "hp"); (case ha => exact rfl))
  | (with_reducible refine' w_test ?_)
  | (with_reducible refine' w_tB ?_)
  | (with_reducible refine' w_bl ?_)
  | (with_reducible refine' w_and ?_)
  | (with_reducible refine' w_or ?_)
  | (with_reducible refine' w_not ?_)
  | (with_reducible refine' w_andV ?_)
  | (with_reducible refine' w_orV ?_)
  | (with_reducible refine' w_notV ?_)
  | (with_reducible refine' w_ifE ?_)
  | (with_reducible refine' w_for ?_)
  | ((with_reducible refine' w_nin ?hh ?_); (case hh => walk_at "hp"))
  | ((with_reducible refine' w_sorted ?hh ?_); (case hh => walk_at "hp"))
  | (with_reducible refine' w_tsadd ?_)
  | ((with_reducible refine' w_tsadd1 ?hh ?_); (case hh => walk_at "hp"))
  | ((with_reducible refine' w_sadd ?hh ?hr ?_); (case hh => walk_at "hp"); (case hr => omega))
  | (with_reducible refine' w_iZ ?_)
  | ((with_reducible refine' w_iZ1 ?hh ?hh2 ?_); (case hh => walk_at "hp"); (case hh2 => walk_at "hp"))
  | (with_reducible refine' w_iS ?_)
  | (with_reducible refine' w_iS1 ?_)
  | ((with_reducible refine' w_gtup ?hh ?hn ?_); (case hh => walk_at "hp"); (case hn => exact rfl))
  | (with_reducible refine' w_gcons ?_)
  | (with_reducible refine' w_gnil ?_)
  | (with_reducible refine' w_js ?_)
  | (with_reducible refine' w_jsn ?_)
  | ((with_reducible refine' w_js1 ?hl ?_); (case hl => decide +kernel))
  | (with_reducible refine' w_fmt ?_)
  | ((with_reducible refine' w_fmt1 ?hl ?_); (case hl => decide +kernel))
  | (with_reducible refine' w_callS ?_)
  | ((with_reducible refine' w_truL ?hh ?_); (case hh => walk_at "hp"))
  | (with_reducible refine' w_lc ?_)
  | (with_reducible refine' w_yes ?_)
  | ((with_reducible refine' w_wipe ?he ?_); (case he => exact rfl))
  | (with_reducible refine' w_iL ?_)
  | (with_reducible refine' w_iT ?_)
  | (with_reducible refine' w_iR ?_)
  | ((with_reducible refine' w_iL1 ?hh ?_); (case hh => walk_at "hp"))
  | ((with_reducible refine' w_iT1 ?hh ?_); (case hh => walk_at "hp"))
  | ((with_reducible refine' w_iR1 ?h1 ?h2 ?_); (case h1 => omega); (case h2 => omega))
  | ((with_reducible refine' w_aug ?hv ?_); (case hv => exact rfl))
  | (with_reducible refine' w_ipI ?_)
  | ((with_reducible refine' w_isi ?hy ?hk ?_); (case hy => walk_at "ty"); (case hk => walk_at "kit"))
  | ((with_reducible refine' w_int ?_))
  | ((with_reducible refine' w_intB ?_))
  | ((with_reducible refine' w_abs ?_))
  | ((with_reducible refine' w_lenL ?hh ?_); (case hh => walk_at "hp"))
  | ((with_reducible refine' w_lenT ?hh ?_); (case hh => walk_at "hp"))
  | ((with_reducible refine' w_tupL ?hh ?_); (case hh => walk_at "hp"))
  | ((with_reducible refine' w_tupT ?hh ?_); (case hh => walk_at "hp"))
  | ((with_reducible refine' w_catA ?hh ?hh2 ?hz ?_); (case hh => walk_at "hp"); (case hh2 => walk_at "hp"); (case hz => walk_at "len"))
  | ((with_reducible refine' w_repB ?hh ?hne ?h2 ?h3 ?hz ?_); (case hh => walk_at "hp"); (case hne => simp); (case h2 => omega); (case h3 => omega); (case hz => exact Nat.le_of_ble_eq_true rfl))
  | ((with_reducible refine' w_eqN ?hh ?hh2 ?n1 ?n2 ?_); (case hh => walk_at "hp"); (case hh2 => walk_at "hp"); (case n1 => walk_at "nd"); (case n2 => walk_at "nd"))
  | ((with_reducible refine' w_neN ?hh ?hh2 ?n1 ?n2 ?_); (case hh => walk_at "hp"); (case hh2 => walk_at "hp"); (case n1 => walk_at "nd"); (case n2 => walk_at "nd"))
  | ((with_reducible refine' w_eqL ?hh ?hh2 ?n1 ?n2 ?_); (case hh => walk_at "hp"); (case hh2 => walk_at "hp"); (case n1 => walk_at "nd"); (case n2 => walk_at "nd"))
  | ((with_reducible refine' w_neL ?hh ?hh2 ?n1 ?n2 ?_); (case hh => walk_at "hp"); (case hh2 => walk_at "hp"); (case n1 => walk_at "nd"); (case n2 => walk_at "nd"))
  | ((with_reducible refine' w_neNon ?hh2 ?n2 ?_); (case hh2 => walk_at "hp"); (case n2 => walk_at "nd"))
  | ((with_reducible refine' w_eqNon ?hh2 ?n2 ?_); (case hh2 => walk_at "hp"); (case n2 => walk_at "nd"))
  | ((with_reducible refine' w_slA ?hh ?_); (case hh => walk_at "hp"))
  | ((with_reducible refine' w_disp ?hz ?_); (case hz => exact sz_of (Nat.le_of_ble_eq_true rfl)))
  | ((with_reducible refine' w_tyL ?hh ?_); (case hh => walk_at "hp"))
  | (with_reducible refine' iteT ?_)
  | (with_reducible refine' iteF ?_)
  | (with_reducible refine' w_nT ?_)
  | (with_reducible refine' w_nn ?_)
  | (with_reducible refine' w_nnT ?_)
  | (with_reducible refine' w_nnR ?_)
  | (with_reducible refine' w_neG ?_)
  | (with_reducible refine' w_eqG ?_)
  | (with_reducible refine' w_neS ?_)
  | (with_reducible refine' w_eqS ?_)
  | (with_reducible refine' w_neSb ?_)
  | (with_reducible refine' w_eqSb ?_)
  | (with_reducible refine' w_deIS ?_)
  | (with_reducible refine' w_deSI ?_)
  | (with_reducible refine' w_deISn ?_)
  | ((with_reducible refine' w_deST ?he ?_); (case he => decide +kernel))
  | ((with_reducible refine' w_deSF ?he ?_); (case he => decide +kernel))
  | ((with_reducible refine' w_deSTn ?he ?_); (case he => decide +kernel))
  | ((with_reducible refine' w_deSFn ?he ?_); (case he => decide +kernel))
  | (with_reducible refine' w_nF ?_)
  | dsimp only [Bool.not_true, Bool.not_false])
local macro_rules | `(tactic| walk_at "ty") => `(tactic| first
  | exact .base (.int _) | exact .base (.str _) | exact .base (.bl _) | exact .base .non
  | ((refine' tyx_t ?hq); (case hq => walk_at "hp")) | ((refine' tyx_l ?hq); (case hq => walk_at "hp")) | ((refine' .base (.tup ?hq)); (case hq => walk_at "hp")) | assumption)
local macro_rules | `(tactic| walk_at "go") => `(tactic| repeat walk_at "go1")
local macro_rules | `(tactic| walk_at "st") => `(tactic| try dsimp only [cxOf, Cx.nox, Cx.wish])
local macro_rules | `(tactic| walk_at "kit") => `(tactic| with_reducible first | exact kit_int_int | exact kit_int_str | exact kit_int_bool | exact kit_int_tuple | exact kit_int_list | exact kit_str_int | exact kit_str_str | exact kit_str_bool | exact kit_str_tuple | exact kit_str_list | exact kit_bool_int | exact kit_bool_str | exact kit_bool_bool | exact kit_bool_tuple | exact kit_bool_list | exact kit_NoneType_int | exact kit_NoneType_str | exact kit_NoneType_bool | exact kit_NoneType_tuple | exact kit_NoneType_list | exact kit_list_int | exact kit_list_str | exact kit_list_bool | exact kit_list_tuple | exact kit_list_list | exact kit_tuple_int | exact kit_tuple_str | exact kit_tuple_bool | exact kit_tuple_tuple | exact kit_tuple_list)
local macro_rules | `(tactic| walk_at "nd") => `(tactic| first
  | assumption
  | exact Tm.nds _
  | exact Nds.nil
  | exact Nds.ofInts _
  | ((refine' Nds.cons ?na ?nb); (case na => first | exact Nds.I _ | exact Nds.L | exact Nds.A); (case nb => walk_at "nd"))
  | ((refine' Nds.app ?na ?nb); (case na => walk_at "nd"); (case nb => walk_at "nd"))
  | ((refine' Nds.rep ?na _); (case na => walk_at "nd")))
local macro_rules | `(tactic| walk_at "len") => `(tactic| first
  | exact ly_sz (by omega)
  | ((simp only [List.length_append, List.length_cons, List.length_nil, List.length_map, PyProof.Rows.lm_len_rep_flat]); exact ly_sz (by omega)))
local macro_rules | `(tactic| walk_at "go1") => `(tactic| first
  | (with_reducible refine' w_kget2 ?_)
  | (with_reducible refine' w_isRN ?_)
  | (with_reducible refine' w_isNN ?_)
  | (with_reducible refine' w_isIN ?_)
  | ((with_reducible refine' w_kg ?hd ?_); (case hd => assumption)))
local macro_rules | `(tactic| walk_at "go1") => `(tactic| first
  | ((with_reducible refine' w_extT ?hh ?hh2 ?hz ?_); (case hh => walk_at "hp"); (case hh2 => walk_at "hp"))
  | ((with_reducible refine' w_I ?hc ?_); (case hc => exact ⟨by decide, by decide, by decide⟩))
  | (with_reducible refine' w_sl ?_)
  | (with_reducible refine' w_noP ?_)
  | (with_reducible refine' w_part ?_)
  | (with_reducible refine' w_part1 ?_)
  | (with_reducible refine' w_it ?_)
  | (with_reducible refine' w_it1 ?_)
  | ((with_reducible refine' w_lenZ ?hz ?_); (case hz => omega))
  | ((with_reducible refine' w_addZb ?hz ?_); (case hz => omega))
  | ((with_reducible refine' w_addZf ?hz ?_); (case hz => omega))
  | ((with_reducible refine' w_addZa ?hz ?_); (case hz => omega))
  | ((with_reducible refine' w_inS ?hh ?_); (case hh => walk_at "hp"))
  | ((with_reducible refine' w_ixT ?hh ?ha ?_); (case hh => assumption); (case ha => exact atI_nat (by assumption))))
local macro_rules | `(tactic| walk_at "go1") => `(tactic| first
  | (with_reducible refine' w_iR2 ?_)
  | ((with_reducible refine' w_iR21 ?h1 ?h2 ?h3 ?h4 ?_); (case h1 => omega); (case h2 => omega); (case h3 => omega); (case h4 => omega))
  | (with_reducible refine' w_nnI ?_)
  | (with_reducible refine' w_max ?_)
  | (with_reducible refine' w_break ?_)
  | (with_reducible refine' w_cont ?_))
-- tight _law_develop
section
variable {P : Program} {w : World} {K : PySem.W.Frag} {mg : Str → Option Value} {base : Heap} {tk : Nat → Tok} {cl : Nat → Addr}
def spLDepth (K : PySem.W.Frag) : Sp := fun vs H Q _ => ∃ (a : Addr) (t : Tm), vs = [.ref a] ∧ SqT K H a t.enc ∧ t.enc.length ≤ 1000 ∧ ∀ H' (m : Nat), Ex H H' → t.tall + 1 ≤ m → Q (.int (m : Int)) H'
theorem ok_ldepth24 {f : Addr} {fd : FuncData} (F : Fun K "_law_depth" "_law_depth" s_law_depth f fd) (T : Txt w K mg tk cl)
    (D1 : Def P w K mg base CX0 1 "_law_is_lam" ["node"] spIsLam) : FnOk P w K mg base CX0 2 f fd ["term"] (spLDepth K) := by
  obtain ⟨f1, fd1, g_law_is_lam, kp_law_is_lam, b_law_is_lam, G_law_is_lam⟩ := D1
  refine F.ok sc_law_depth (fun vs H Q E h => ?_) (fun cdv A outer s H vs Q E hr h => ?_)
  · obtain ⟨_, _, rfl, _⟩ := h
    rfl
  · obtain ⟨a, t, rfl, hS, hlen, q⟩ := h
    refine ⟨_, (pss_cons (ps_set (i := 1) sc_law_depth.nd rfl (.inl rfl) (pe_lst pa_nil)) (pss_cons (ps_set (i := 2) sc_law_depth.nd rfl (.inl rfl) pe_int) (pss_cut (ps_for PassesOwn.never rfl (pi_tup (pv 0)) (pg_name (i := 3) sc_law_depth.nd rfl (.inl rfl)) (pss_cons (ps_set (i := 2) sc_law_depth.nd rfl (.inl rfl) (pe_callB (call_max2 rfl) (by rfl) T.n_max (by decide +kernel) (pa_cons (pv 2) (pa_cons (pe_op op_add (pe_callB call_len_seq (by rfl) T.n_len (by decide +kernel) (pa_cons (pv 1) pa_nil)) pe_int) pa_nil)))) (pss_one (ps_if (pt_cmpR op_eq (pv 3) pe_str (nomark _)) (pss_one (ps_expr (pe_bm PySem.F.plainAttrs_list PySem.F.slot_list_append PySem.F.type_list_append mt_append (pv 1) (pa_cons pe_int pa_nil)))) (pss_one (ps_if (pt_val (pe_call G_law_is_lam (hr.mono (by first | decide | omega)) (by rfl) g_law_is_lam kp_law_is_lam b_law_is_lam .nil pass0 (pa_cons (pv 3) pa_nil))) (pss_one (ps_expr (pe_bm PySem.F.plainAttrs_list PySem.F.slot_list_append PySem.F.type_list_append mt_append (pv 1) (pa_cons pe_int pa_nil)))) (pss_one (ps_while PassesOwn.never (pt_cmpR op_gt (pe_callB call_len_seq (by rfl) T.n_len (by decide +kernel) (pa_cons (pv 1) pa_nil)) pe_int (nomark _)) (pss_cons (ps_set (i := 4) sc_law_depth.nd rfl (.inl rfl) (pe_op op_sub (pe_bm0 PySem.F.plainAttrs_list PySem.F.slot_list_pop PySem.F.type_list_pop mt_pop (pv 1)) pe_int)) (pss_one (ps_if (pt_cmpR op_gt (pv 4) pe_int (nomark _)) (pss_cons (ps_expr (pe_bm PySem.F.plainAttrs_list PySem.F.slot_list_append PySem.F.type_list_append mt_append (pv 1) (pa_cons (pv 4) pa_nil))) (pss_one ps_break)) pss_nil))))))))))) (pss_one (ps_ret (pv 2)))))), ?_⟩
    refine sl_of (σ2 := [some _, none, none, none, none]) rfl ?_
    walk_at "st"
    walk_at "go"
    intro rl hrl
    have e0 := Ex.new hrl (o := .lst [])
    have hr0 : upd H rl (.lst []) rl = some (.lst (nums [].reverse)) := upd_same
    have hS0 := ex_t e0 hS
    generalize upd H rl (.lst []) = H0 at *
    walk_at "go"
    refine w_cut (M := fun σ' H' => ∃ (most : Nat) (y3 y4 : Option V), σ' = [some (.ref a), some (.ref rl), some (.int (most : Int)), y3, y4] ∧ Ex H H' ∧ t.tall + 1 ≤ most) ?_ ?_
    rotate_left
    · rintro σ' H' ⟨most, y3, y4, rfl, e1, hm⟩
      walk_at "go"
      exact q H' most e1 hm
    walk_at "go"
    refine for_tup (K := K) (a := a) (xs := t.enc) (fun i σ H' => ∃ (rs : List Nat) (gs : List (List Tm)) (most : Nat) (y3 y4 : Option V), σ = [some (.ref a), some (.ref rl), some (.int (most : Int)), y3, y4] ∧ Ex H H' ∧ H' rl = some (.lst (nums rs.reverse)) ∧ Rw rs gs ∧ DpI t i most rs gs ∧ (i < t.enc.length → ∀ G gs', gs = G :: gs' → G ≠ []) ∧ rs.length ≤ i ∧ ∀ r ∈ rs, r ≤ 10)
      ⟨[], [[t]], 0, none, none, rfl, e0, hr0, trivial, DpI.start t, fun _ G gs' e => by rw [← (List.cons.inj e).1]; simp, Nat.le_refl _, by simp⟩ (fun i σ H' _ h => by obtain ⟨_, _, _, _, _, _, e, _⟩ := h; exact ex_t e hS) ?_ ?_
    · rintro i v σ H1 hi ⟨rs, gs, most, y3, y4, rfl, e1, hr1, hrw, hdp, hne, hrl1, hrs⟩
      have hil := (List.getElem?_eq_some_iff.mp hi).1
      have hS1 := ex_t e1 hS
      have rll : (nums rs.reverse).length = rs.length := by rw [List.length_map, List.length_reverse]
      walk_at "go"
      refine ⟨(most : Int), ((nums rs.reverse).length : Int) + 1, rfl, ?_⟩
      have emost : (if ((nums rs.reverse).length : Int) + 1 > (most : Int) then ((nums rs.reverse).length : Int) + 1 else (most : Int)) = ((max most (rs.length + 1) : Nat) : Int) := by
        rw [rll]
        split <;> omega
      rw [emost]
      rcases hdp.step hrw hi (hne hil) with ⟨n, rfl, G, gs', hro, hdp2⟩ | ⟨rfl, gs', hrw2, hdp2, hne2⟩ | ⟨rfl, gs', hrw2, hdp2, hne2⟩
      · walk_at "go"
        refine ⟨_, rfl, .inl ⟨_, rfl⟩, ?_⟩
        rw [lamV_int]
        walk_at "go"
        generalize max most (rs.length + 1) = m2 at *
        refine w_while (fun m σ H' => ∃ (rs2 : List Nat) (gs2 : List (List Tm)) (y4 : Option V), σ = [some (.ref a), some (.ref rl), some (.int (m2 : Int)), some (.int (n : Int)), y4] ∧ Ex H H' ∧ H' rl = some (.lst (nums rs2.reverse)) ∧ RwO rs2 gs2 ∧ DpI t (i + 1) m2 rs2 gs2 ∧ rs2.length ≤ i ∧ (∀ r ∈ rs2, r ≤ 10) ∧ m = rs2.length) _ ⟨rs, G :: gs', y4, rfl, e1, hr1, hro, hdp2, hrl1, hrs, rfl⟩ ?_
        rintro m σ H2 ⟨rs2, gs2, y4', rfl, e2, hr2, hro2, hdp3, hl2, hrs2, rfl⟩
        have rll2 : (nums rs2.reverse).length = rs2.length := by rw [List.length_map, List.length_reverse]
        walk_at "go"
        cases rs2 with
        | nil =>
          refine w_br (fun h => by simp at h) (fun _ => ?_)
          walk_at "go"
          obtain ⟨G5, rfl⟩ : ∃ G5, gs2 = [G5] := by
            cases gs2 with
            | nil => exact hro2.elim
            | cons G5 gs =>
              cases gs with
              | nil => exact ⟨G5, rfl⟩
              | cons _ _ => exact hro2.elim
          refine ⟨[], [G5], _, _, _, rfl, e2, hr2, trivial, hdp3, fun hlt G' gs' e hG => ?_, Nat.zero_le _, by simp⟩
          rw [← (List.cons.inj e).1] at hG
          subst hG
          have := congrArg List.length hdp3.1
          rw [List.length_drop] at this
          simp [encs] at this
          omega
        | cons c rs3 =>
          obtain ⟨G3, gs3, rfl⟩ : ∃ G3 gs3, gs2 = G3 :: gs3 := by
            cases gs2 with
            | nil => exact hro2.elim
            | cons G3 gs3 => exact ⟨G3, gs3, rfl⟩
          obtain ⟨rfl, hro3⟩ := hro2
          refine w_br (fun _ => ?_) (fun h => absurd (by simp) h)
          have hr2b : H2 rl = some (.lst (nums rs3.reverse ++ [V.int ((G3.length + 1 : Nat) : Int)])) := by rw [hr2]; simp [nums]
          refine ⟨fun σ' H' => ∃ (y4 : Option V), σ' = [some (.ref a), some (.ref rl), some (.int (m2 : Int)), some (.int (n : Int)), y4] ∧ Ex H H' ∧ H' rl = some (.lst (nums rs3.reverse)) ∧ G3 = [], fun σ' H' ⟨y4, h1, h2, h3, h4⟩ => ?_, ?_⟩
          · subst h4
            exact ⟨rs3.length, by simp, rs3, gs3, y4, h1, h2, h3, hro3, hdp3.pop, by simp at hl2; omega, fun r hr => hrs2 r (List.mem_cons_of_mem _ hr), rfl⟩
          · walk_at "go"
            refine w_br (fun c1 => ?_) (fun c1 => ?_)
            · have ll : (nums rs3.reverse).length = rs3.length := by rw [List.length_map, List.length_reverse]
              simp only [List.length_cons] at hl2
              walk_at "go"
              refine ⟨G3.length :: rs3, G3 :: gs3, _, _, _, rfl, (e2.mut hrl).mut hrl, ?_, ⟨rfl, hro3⟩, ⟨hdp3.1, hdp3.2⟩, fun _ G gs' e hG => ?_, by simp only [List.length_cons]; omega, fun r hr => ?_⟩
              · rw [upd_same, show ((G3.length + 1 : Nat) : Int) - 1 = (G3.length : Int) by omega]
                simp [nums]
              · rw [← (List.cons.inj e).1] at hG
                rw [hG] at c1
                simp at c1
              · rcases List.mem_cons.mp hr with rfl | h
                · have := hrs2 _ List.mem_cons_self
                  omega
                · exact hrs2 r (List.mem_cons_of_mem _ h)
            · walk_at "go"
              exact ⟨_, rfl, e2.mut hrl, upd_same, List.length_eq_zero_iff.mp (by omega)⟩
      · walk_at "go"
        refine ⟨_, rfl, .inr (.inl rfl), ?_⟩
        rw [lamV_lam]
        walk_at "go"
        exact ⟨1 :: rs, gs', _, _, _, rfl, e1.mut hrl, by rw [upd_same]; simp [nums], hrw2, hdp2, fun _ => hne2, by simp; omega, fun r hr => by
          rcases List.mem_cons.mp hr with rfl | h
          · omega
          · exact hrs r h⟩
      · walk_at "go"
        exact ⟨2 :: rs, gs', _, _, _, rfl, e1.mut hrl, by rw [upd_same]; simp [nums], hrw2, hdp2, fun _ => hne2, by simp; omega, fun r hr => by
          rcases List.mem_cons.mp hr with rfl | h
          · omega
          · exact hrs r h⟩
    · rintro σ H1 ⟨rs, gs, most, y3, y4, rfl, e1, hr1, hrw, hdp, _⟩
      walk_at "go"
      exact ⟨most, _, _, rfl, e1, hdp.done⟩
theorem head_v24 (g : Tm) : ∃ v, g.enc[0]? = some v ∧ NodeV v ∧ isLamV v = g.isLam := by
  cases g with
  | var n => exact ⟨_, rfl, .inl ⟨_, rfl⟩, lamV_int _⟩
  | lam b => exact ⟨_, rfl, .inr (.inl rfl), lamV_lam⟩
  | app f a => exact ⟨_, rfl, .inr (.inr rfl), lamV_app⟩
theorem w_eqNZ24 {K : PySem.W.Frag} {H : Hp} {Q : VK} {p : Addr} {xs : List V} {x : Str} (z : SeqAt.shaped (.str x) = true) (h : SqT K H p xs) (n : Nds xs) (q : Q (.bl false) H) : rEqD K (.ref p) (.str x) H Q :=
  ⟨_, _, .tup h (dp_nodes n), .str x, shaped_nodes n, z, by simpa [PyData.eqv] using q⟩
def spLDev (K : PySem.W.Frag) (n : Nat) : Sp := fun vs H Q _ => ∃ (a : Addr) (t : Tm), vs = [.ref a] ∧ SqT K H a t.enc ∧ t.enc.length ≤ 1000 ∧ t.tall < n ∧ (t.fullK = true → ∀ H' p, Ex H H' → SqT K H' p t.full.enc → Q (.ref p) H') ∧ (t.fullK = false → ∀ H', Ex H H' → Q (.str "large") H')
theorem ok_ldev {f : Addr} {fd : FuncData} (F : Fun K "_law_develop" "_law_develop" s_law_develop f fd) (T : Txt w K mg tk cl)
    (D1 : Def P w K mg base CX0 1 "_law_is_lam" ["node"] spIsLam) (D2 : Def P w K mg base CX0 2 "_law_end" ["term", "at"] (spEnd K)) (D3 : Def P w K mg base CX0 4 "_law_put" ["term", "value"] (spLawPut K)) (D4 : Def P w K mg base CX0 1 "_law_is_large" ["term"] (spLarge K))
    (g_law_develop : mg "_law_develop" = some (.ref f)) (kp_law_develop : PySem.W.keepIn K (.ref f) = true) (b_law_develop : Binds K fd ["term"] []) : ∀ _ : Nat, FnOk P w K mg base CX0 155 f fd ["term"] (spLDev K 400) := by
  obtain ⟨f1, fd1, g_law_is_lam, kp_law_is_lam, b_law_is_lam, G_law_is_lam⟩ := D1
  obtain ⟨f2, fd2, g_law_end, kp_law_end, b_law_end, G_law_end⟩ := D2
  obtain ⟨f3, fd3, g_law_put, kp_law_put, b_law_put, G_law_put⟩ := D3
  obtain ⟨f4, fd4, g_law_is_large, kp_law_is_large, b_law_is_large, G_law_is_large⟩ := D4
  have rlim : recursionLimit = 1000 := rfl
  have clim : cLine = 9900 := rfl
  have all : ∀ n, n ≤ 400 → FnT P w K mg base (932 - n) (9003 - 3 * n) f fd ["term"] (spLDev K n) := by
    intro n
    induction n with
    | zero =>
      intro _
      refine ⟨fun vs H Q E h => ?_, fun A outer s H g us vs Q E _ _ _ _ _ _ h => ?_⟩
      · obtain ⟨_, _, _, _, _, h, _⟩ := h
        exact absurd h (Nat.not_lt_zero _)
      · obtain ⟨_, _, _, _, _, h, _⟩ := h
        exact absurd h (Nat.not_lt_zero _)
    | succ n ih =>
      intro hn
      have GT := ih (by omega)
      refine fnT_of F sc_law_develop (fun vs H Q E h => ?_) (by omega) (fun cdv A outer s H vs Q E hh dp un h => ?_)
      · obtain ⟨_, _, rfl, _⟩ := h
        rfl
      · obtain ⟨a, t, rfl, hS, hlen, htall, q, qe⟩ := h
        have hr : Room 10 (A.deeper (envOfC "_law_develop" (defScope s_law_develop) s.heap.objs.size f cdv)) := ⟨hh, by show A.depth + 1 + 3 * 10 + 5 < _; omega, by show A.units + 3 + 16 * 10 + 200 < _; omega⟩
        have dd : (A.deeper (envOfC "_law_develop" (defScope s_law_develop) s.heap.objs.size f cdv)).depth ≤ 932 - n := by show A.depth + 1 ≤ _; omega
        have uu : (A.deeper (envOfC "_law_develop" (defScope s_law_develop) s.heap.objs.size f cdv)).units ≤ 9003 - 3 * n := by show A.units + 3 ≤ _; omega
        refine ⟨_, (pss_cons (ps_if (pt_val (pe_callB call_isi (by rfl) T.n_isinstance (by decide +kernel) (pa_cons (pe_ix ix_tup (pv 0) pe_int (fun _ _ => rfl)) (pa_cons (pe_bltn (v := .ty "int") (by rfl) T.n_int (by decide +kernel) rfl) pa_nil)))) (pss_one (ps_ret (pv 0))) pss_nil) (pss_cons (ps_if (pt_val (pe_call G_law_is_lam (hr.mono (by first | decide | omega)) (by rfl) g_law_is_lam kp_law_is_lam b_law_is_lam .nil pass0 (pa_cons (pe_ix ix_tup (pv 0) pe_int (fun _ _ => rfl)) pa_nil))) (pss_cons (ps_set (i := 1) sc_law_develop.nd rfl (.inl rfl) (pe_callT GT hh dd uu (by rfl) g_law_develop kp_law_develop b_law_develop (pa_cons (pe_slice sl_tupA (pv 0) (po_some pe_int) po_none) pa_nil))) (pss_cons (ps_if (PW.pt (pw_or (pt_cmpR (op_eqD hr.units) (pv 1) pe_str (nomark _)) (pw_or1 (pt_cmpR op_gt (pe_callB call_len_seq (by rfl) T.n_len (by decide +kernel) (pa_cons (pv 1) pa_nil)) pe_int (nomark _))))) (pss_one (ps_ret pe_str)) pss_nil) (pss_one (ps_ret (pe_op op_catA (pe_slice sl_tupA (pv 0) po_none (po_some pe_int)) (pv 1)))))) pss_nil) (pss_cons (ps_set (i := 2) sc_law_develop.nd rfl (.inl rfl) (pe_call G_law_end (hr.mono (by first | decide | omega)) (by rfl) g_law_end kp_law_end b_law_end .nil pass0 (pa_cons (pv 0) (pa_cons pe_int pa_nil)))) (pss_cut (ps_set (i := 3) sc_law_develop.nd rfl (.inl rfl) (pe_callT GT hh dd uu (by rfl) g_law_develop kp_law_develop b_law_develop (pa_cons (pe_slice sl_tupA (pv 0) (po_some (pv 2)) po_none) pa_nil))) (pss_cons (ps_set (i := 4) sc_law_develop.nd rfl (.inl rfl) (pe_op op_add pe_int (pe_callTy call_int1 (by rfl) T.n_int (by decide +kernel) (pa_cons (pe_call G_law_is_lam (hr.mono (by first | decide | omega)) (by rfl) g_law_is_lam kp_law_is_lam b_law_is_lam .nil pass0 (pa_cons (pe_ix ix_tup (pv 0) pe_int (fun _ _ => rfl)) pa_nil)) pa_nil)))) (pss_cut (ps_set (i := 5) sc_law_develop.nd rfl (.inl rfl) (pe_callT GT hh dd uu (by rfl) g_law_develop kp_law_develop b_law_develop (pa_cons (pe_slice sl_tupA (pv 0) (po_some (pv 4)) (po_some (pv 2))) pa_nil))) (pss_cons (ps_if (PW.pt (pw_or (pt_cmpR (op_eqD hr.units) (pv 3) pe_str (nomark _)) (pw_or1 (pt_cmpR (op_eqD hr.units) (pv 5) pe_str (nomark _))))) (pss_one (ps_ret pe_str)) pss_nil) (pss_cut (ps_if (pt_cmpR op_eq (pv 4) pe_int (nomark _)) (pss_one (ps_set (i := 6) sc_law_develop.nd rfl (.inl rfl) (pe_call G_law_put (hr.mono (by first | decide | omega)) (by rfl) g_law_put kp_law_put b_law_put .nil pass0 (pa_cons (pv 5) (pa_cons (pv 3) pa_nil))))) (pss_one (ps_set (i := 6) sc_law_develop.nd rfl (.inl rfl) (pe_op op_catA (pe_op op_catA (pe_tup (pa_cons pe_str pa_nil)) (pv 5)) (pv 3))))) (pss_cons (ps_if (pt_val (pe_call G_law_is_large (hr.mono (by first | decide | omega)) (by rfl) g_law_is_large kp_law_is_large b_law_is_large .nil pass0 (pa_cons (pv 6) pa_nil))) (pss_one (ps_ret pe_str)) pss_nil) (pss_one (ps_ret (pv 6)))))))))))), ?_⟩
        refine sl_of (σ2 := [some _, none, none, none, none, none, none]) rfl ?_
        walk_at "st"
        walk_at "go"
        cases t with
        | var n0 =>
          walk_at "go"
          exact q rfl H a (Ex.refl H) hS
        | lam b =>
          walk_at "go"
          have h0 : (Tm.lam b).enc[0]? = some (V.str "lam") := rfl
          refine w_ixT hS (atI_nat (j := 0) h0) ?_
          walk_at "go"
          refine ⟨_, rfl, .inr (.inl rfl), ?_⟩
          rw [lamV_lam]
          walk_at "go"
          intro p1 H1 e1 hp1
          rw [show cutV (Tm.lam b).enc (some 1) none = b.enc from cut_hi _ 1] at hp1
          have hS1 := ex_t e1 hS
          have hal : (Tm.lam b).enc.length = b.enc.length + 1 := rfl
          have tg : (Tm.lam b).tall = b.tall + 1 := rfl
          walk_at "go"
          refine ⟨p1, b, rfl, hp1, by omega, by omega, fun hK H2 p2 e2 hp2 => ?_, fun hK H2 e2 => ?_⟩
          · have hS2 := ex_t e2 hS1
            have hbl := fullK_len b hK
            walk_at "go"
            refine w_eqNZ24 (by decide +kernel) hp2 b.full.nds ?_
            walk_at "go"
            refine w_br (fun c1 => ?_) (fun c1 => ?_)
            · walk_at "go"
              refine qe ?_ H2 (e1.trans e2)
              rw [Tm.fullK, hK, Bool.true_and]
              exact decide_eq_false (by omega)
            · walk_at "go"
              intro p3 H3 e3 hp3
              rw [show cutV (Tm.lam b).enc none (some 1) = [V.str "lam"] from cut_lo _ 1] at hp3
              have hp23 := ex_t e3 hp2
              walk_at "go"
              intro p4 H4 e4 hp4
              refine q ?_ H4 p4 (e1.trans (e2.trans (e3.trans e4))) hp4
              rw [Tm.fullK, hK, Bool.true_and]
              exact decide_eq_true (by omega)
          · walk_at "go"
            refine w_eqZZ (b := true) (by decide +kernel) (by decide +kernel) (by decide +kernel) ?_
            walk_at "go"
            refine qe ?_ H2 (e1.trans e2)
            rw [Tm.fullK, hK]
            rfl
        | app g c =>
          walk_at "go"
          have h0 : (Tm.app g c).enc[0]? = some (V.str "app") := rfl
          refine w_ixT hS (atI_nat (j := 0) h0) ?_
          walk_at "go"
          refine ⟨_, rfl, .inr (.inr rfl), ?_⟩
          rw [lamV_app]
          walk_at "go"
          have hal : (Tm.app g c).enc.length = g.enc.length + c.enc.length + 1 := by simp only [Tm.enc, List.length_cons, List.length_append]
          have d1 : (Tm.app g c).enc.drop 1 = g.enc ++ c.enc := rfl
          have d2 : (Tm.app g c).enc.drop (1 + g.enc.length) = c.enc ++ [] := by rw [← List.drop_drop, d1, List.drop_left, List.append_nil]
          refine ⟨a, (Tm.app g c).enc, 1, g, c.enc, rfl, hS, d1, by omega, ?_⟩
          walk_at "go"
          refine w_cut (M := fun σ' H' => ∃ y3 : V, σ' = [some (.ref a), none, some (.int ((1 + g.enc.length : Nat) : Int)), some y3, none, none, none] ∧ Ex H H' ∧ LV K H' c y3) ?_ ?_
          · walk_at "go"
            intro p1 H1 e1 hp1
            rw [show cutV (Tm.app g c).enc (some ((1 + g.enc.length : Nat) : Int)) none = c.enc by rw [cut_hi, d2, List.append_nil]] at hp1
            have tg : (Tm.app g c).tall = max g.tall c.tall + 1 := rfl
            walk_at "go"
            refine ⟨p1, c, rfl, hp1, by omega, by omega, fun hK H2 p2 e2 hp2 => ?_, fun hK H2 e2 => ?_⟩
            · walk_at "go"
              exact ⟨_, rfl, e1.trans e2, .inl ⟨hK, p2, rfl, hp2⟩⟩
            · walk_at "go"
              exact ⟨_, rfl, e1.trans e2, .inr ⟨hK, rfl⟩⟩
          rintro σ H2 ⟨y3, rfl, e2, lc⟩
          have hS2 := ex_t e2 hS
          obtain ⟨v, hv, hnv, hlv⟩ := head_v24 g
          have h1v : (Tm.app g c).enc[1]? = some v := by
            show (g.enc ++ c.enc)[0]? = some v
            rw [List.getElem?_append_left (List.length_pos_iff.mpr g.enc_ne)]
            exact hv
          walk_at "go"
          refine ⟨v, rfl, hnv, ?_⟩
          rw [hlv]
          walk_at "go"
          have tg : (Tm.app g c).tall = max g.tall c.tall + 1 := rfl
          cases hl : g.isLam with
          | true =>
            obtain ⟨b, hb⟩ : ∃ b, g = .lam b := by
              cases g with
              | lam b => exact ⟨b, rfl⟩
              | var n => cases hl
              | app f x => cases hl
            have tb : g.tall = b.tall + 1 := by rw [hb]; rfl
            have lb : g.enc.length = b.enc.length + 1 := by rw [hb]; rfl
            have d3 : (Tm.app g c).enc.drop 2 = b.enc ++ c.enc := by rw [hb]; rfl
            have kk : (Tm.app g c).fullK = (b.fullK && c.fullK && fitsV (Tm.put c.full 0 b.full).enc) := by rw [hb]; rfl
            have ff : (Tm.app g c).full = Tm.put c.full 0 b.full := by rw [hb]; rfl
            rw [show ((1 : Int) + if (true = true) then 1 else 0) = 2 from rfl]
            walk_at "go"
            refine w_cut (M := fun σ' H' => ∃ y5 : V, σ' = [some (.ref a), none, some (.int ((1 + g.enc.length : Nat) : Int)), some y3, some (.int 2), some y5, none] ∧ Ex H2 H' ∧ LV K H' (b) y5) ?_ ?_
            · walk_at "go"
              intro p1 H3 e3 hp1
              rw [show cutV (Tm.app g c).enc (some 2) (some ((1 + g.enc.length : Nat) : Int)) = b.enc by
                have h := cut_mid (i := 2) (u := b) d3
                rw [show 1 + g.enc.length = 2 + b.enc.length by omega]
                exact h] at hp1
              walk_at "go"
              refine ⟨p1, b, rfl, hp1, by omega, by omega, fun hK H4 p2 e4 hp2 => ?_, fun hK H4 e4 => ?_⟩
              · walk_at "go"
                exact ⟨_, rfl, e3.trans e4, .inl ⟨hK, p2, rfl, hp2⟩⟩
              · walk_at "go"
                exact ⟨_, rfl, e3.trans e4, .inr ⟨hK, rfl⟩⟩
            rintro σ H4 ⟨y5, rfl, e4, lg⟩
            have lc4 := lc.ex e4
            have ee4 := e2.trans e4
            rcases lc4 with ⟨hKc, pc, rfl, hpc⟩ | ⟨hKc, rfl⟩
            rotate_left
            · walk_at "go"
              refine w_eqZZ (b := true) (by decide +kernel) (by decide +kernel) (by decide +kernel) ?_
              walk_at "go"
              exact qe (by rw [kk, hKc, Bool.and_false, Bool.false_and]) H4 ee4
            have hcl := fullK_len c hKc
            walk_at "go"
            refine w_eqNZ24 (by decide +kernel) hpc c.full.nds ?_
            rcases lg with ⟨hKg, pg, rfl, hpg⟩ | ⟨hKg, rfl⟩
            rotate_left
            · walk_at "go"
              refine w_eqZZ (b := true) (by decide +kernel) (by decide +kernel) (by decide +kernel) ?_
              walk_at "go"
              exact qe (by rw [kk, hKg, Bool.false_and, Bool.false_and]) H4 ee4
            have hgl := fullK_len (b) hKg
            walk_at "go"
            refine w_eqNZ24 (by decide +kernel) hpg (b).full.nds ?_
            walk_at "go"
            refine w_cut (M := fun σ' H' => ∃ p6 : Addr, σ' = [some (.ref a), none, some (.int ((1 + g.enc.length : Nat) : Int)), some (.ref pc), some (.int 2), some (.ref pg), some (.ref p6)] ∧ Ex H4 H' ∧ SqT K H' p6 (Tm.app g c).full.enc) ?_ ?_
            · walk_at "go"
              have pm : b.full.enc.length * c.full.enc.length ≤ 1000 * 1000 := Nat.mul_le_mul hgl hcl
              refine ⟨pg, pc, b.full, c.full, rfl, hpg, hpc, by omega, by omega, by omega, fun H5 p5 e5 hp5 => ?_⟩
              walk_at "go"
              exact ⟨p5, rfl, e5, by rw [ff]; exact hp5⟩
            rintro σ H6 ⟨p6, rfl, e6, hp6⟩
            have bnd : (Tm.app g c).full.enc.length ≤ 1000 * 1000 := by
              rw [ff]
              exact Nat.le_trans (Tm.put_len _ _ _) (Nat.mul_le_mul hgl hcl)
            walk_at "go"
            refine ⟨p6, (Tm.app g c).full, rfl, hp6, by omega, fun H7 e7 => ?_⟩
            have ee7 := (ee4.trans e6).trans e7
            have kf : (Tm.app g c).fullK = fitsV (Tm.app g c).full.enc := by rw [kk, hKc, hKg, ff]; rfl
            cases hf : fitsV (Tm.app g c).full.enc with
            | false =>
              walk_at "go"
              exact qe (kf.trans hf) H7 ee7
            | true =>
              walk_at "go"
              exact q (kf.trans hf) H7 p6 ee7 (ex_t e7 hp6)
          | false =>
            obtain ⟨kk, ff⟩ := fullK_app (c := c) hl
            rw [show ((1 : Int) + if (false = true) then 1 else 0) = 1 from rfl]
            walk_at "go"
            refine w_cut (M := fun σ' H' => ∃ y5 : V, σ' = [some (.ref a), none, some (.int ((1 + g.enc.length : Nat) : Int)), some y3, some (.int 1), some y5, none] ∧ Ex H2 H' ∧ LV K H' (g) y5) ?_ ?_
            · walk_at "go"
              intro p1 H3 e3 hp1
              rw [show cutV (Tm.app g c).enc (some 1) (some ((1 + g.enc.length : Nat) : Int)) = g.enc from cut_mid (i := 1) (u := g) d1] at hp1
              walk_at "go"
              refine ⟨p1, g, rfl, hp1, by omega, by omega, fun hK H4 p2 e4 hp2 => ?_, fun hK H4 e4 => ?_⟩
              · walk_at "go"
                exact ⟨_, rfl, e3.trans e4, .inl ⟨hK, p2, rfl, hp2⟩⟩
              · walk_at "go"
                exact ⟨_, rfl, e3.trans e4, .inr ⟨hK, rfl⟩⟩
            rintro σ H4 ⟨y5, rfl, e4, lg⟩
            have lc4 := lc.ex e4
            have ee4 := e2.trans e4
            rcases lc4 with ⟨hKc, pc, rfl, hpc⟩ | ⟨hKc, rfl⟩
            rotate_left
            · walk_at "go"
              refine w_eqZZ (b := true) (by decide +kernel) (by decide +kernel) (by decide +kernel) ?_
              walk_at "go"
              exact qe (by rw [kk, hKc, Bool.and_false, Bool.false_and]) H4 ee4
            have hcl := fullK_len c hKc
            walk_at "go"
            refine w_eqNZ24 (by decide +kernel) hpc c.full.nds ?_
            rcases lg with ⟨hKg, pg, rfl, hpg⟩ | ⟨hKg, rfl⟩
            rotate_left
            · walk_at "go"
              refine w_eqZZ (b := true) (by decide +kernel) (by decide +kernel) (by decide +kernel) ?_
              walk_at "go"
              exact qe (by rw [kk, hKg, Bool.false_and, Bool.false_and]) H4 ee4
            have hgl := fullK_len (g) hKg
            walk_at "go"
            refine w_eqNZ24 (by decide +kernel) hpg (g).full.nds ?_
            walk_at "go"
            refine w_cut (M := fun σ' H' => ∃ p6 : Addr, σ' = [some (.ref a), none, some (.int ((1 + g.enc.length : Nat) : Int)), some (.ref pc), some (.int 1), some (.ref pg), some (.ref p6)] ∧ Ex H4 H' ∧ SqT K H' p6 (Tm.app g c).full.enc) ?_ ?_
            · walk_at "go"
              rw [decide_eq_false (show ¬ V.int 1 = V.int 2 from by simp)]
              walk_at "go"
              intro p1 hp1
              have e5 := Ex.new hp1 (o := .tup [V.str "app"])
              have hp1b : SqT K (upd H4 p1 (.tup [V.str "app"])) p1 [V.str "app"] := SqT.of upd_same
              have hpg5 := ex_t e5 hpg
              have hpc5 := ex_t e5 hpc
              generalize upd H4 p1 (.tup [V.str "app"]) = H5 at *
              walk_at "go"
              intro p3 H7 e7 hp3
              have hpc7 := ex_t e7 hpc5
              walk_at "go"
              intro p4 H8 e8 hp4
              walk_at "go"
              exact ⟨p4, rfl, e5.trans (e7.trans e8), by rw [ff]; simpa [Tm.enc] using hp4⟩
            rintro σ H6 ⟨p6, rfl, e6, hp6⟩
            have bnd : (Tm.app g c).full.enc.length ≤ 2001 := by
              rw [ff]
              simp only [Tm.enc, List.length_cons, List.length_append]
              omega
            walk_at "go"
            refine ⟨p6, (Tm.app g c).full, rfl, hp6, by omega, fun H7 e7 => ?_⟩
            have ee7 := (ee4.trans e6).trans e7
            have kf : (Tm.app g c).fullK = fitsV (Tm.app g c).full.enc := by rw [kk, hKc, hKg, ff]; rfl
            cases hf : fitsV (Tm.app g c).full.enc with
            | false =>
              walk_at "go"
              exact qe (kf.trans hf) H7 ee7
            | true =>
              walk_at "go"
              exact q (kf.trans hf) H7 p6 ee7 (ex_t e7 hp6)
  exact fun _ => (all 400 (Nat.le_refl _)).fn (by omega) (by omega)
end
end Ly
set_option Elab.async false
set_option linter.all false
set_option maxRecDepth 100000
set_option maxHeartbeats 8000000
namespace Ly
open PySem PySem.Spec PyProof.Rows L2 Evl
local macro_rules | `(tactic| walk_at "ne") => `(tactic| first
  | assumption
  | ((refine' Ne.symm ?hq); (case hq => assumption))
  | ((refine' ne_of_none ?nh1 ?nh2); (case nh2 => assumption); (case nh1 => walk_at "hp"))
  | ((refine' Ne.symm (ne_of_none ?nh1 ?nh2)); (case nh2 => assumption); (case nh1 => walk_at "hp")))
local macro_rules | `(tactic| walk_at "hp") => `(tactic| first
  | assumption
  | exact upd_same
  | ((refine' SqL.of ?hq); (case hq => walk_at "hp"))
  | ((refine' SqT.of ?hq); (case hq => walk_at "hp"))
  | ((refine' (upd_ne ?hne).trans ?hrest); (case hne => walk_at "ne"); (case hrest => walk_at "hp"))
  | ((refine' ly_at ?hex ?hh); (case hex => assumption); (case hh => walk_at "hp"))
  | ((refine' ly_atF ?hex ?hnn ?hh); (case hex => assumption); (case hh => walk_at "hp"); (case hnn => walk_at "ne"))
  | ((refine' ex_t ?hex ?hh); (case hh => assumption); (case hex => walk_at "ex"))
  | ((refine' ex_l ?hex ?hh); (case hh => assumption); (case hex => walk_at "ex")))
local macro_rules | `(tactic| walk_at "ex") => `(tactic| first
  | assumption
  | exact Ex.refl _
  | ((refine' ex_new ?xa ?xb); (case xb => assumption); (case xa => walk_at "ex"))
  | ((refine' ex_upd ?xa ?xb); (case xb => walk_at "free"); (case xa => walk_at "ex"))
  | ((refine' Ex.trans ?xa ?xb); (case xb => assumption); (case xa => walk_at "ex")))
local macro_rules | `(tactic| walk_at "free") => `(tactic| first
  | assumption
  | ((refine' fresh_back ?xa ?xb); (case xb => assumption); (case xa => walk_at "ex")))
local macro_rules | `(tactic| walk_at "fr") => `(tactic| first
  | assumption
  | exact Fr.refl _ _
  | ((refine' Fr.own ?hq); (case hq => walk_at "fr"))
  | ((refine' Fr.new ?xa ?xb); (case xb => assumption); (case xa => walk_at "fr"))
  | ((refine' Fr.mut ?xa ?xb); (case xb => assumption); (case xa => walk_at "fr"))
  | ((refine' Fr.trans ?xa ?xb); (case xb => assumption); (case xa => walk_at "fr"))
  | ((refine' Fr.trans ?xa (Fr.ex ?xb)); (case xb => assumption); (case xa => walk_at "fr")))
local macro_rules | `(tactic| walk_at "go1") => `(tactic| first
  | (with_reducible refine' w_seq ?_)
  | (with_reducible refine' w_asg ?_)
  | (with_reducible refine' w_ret ?_)
  | (with_reducible refine' w_drop ?_)
  | (with_reducible refine' w_if ?_)
  | (with_reducible refine' w_next ?_)
  | (with_reducible refine' w_name ?_)
  | (with_reducible refine' w_sub ?_)
  | ((with_reducible refine' w_var ?hv ?_); (case hv => exact rfl))
  | (with_reducible refine' w_c ?_)
  | (with_reducible refine' w_op ?_)
  | (with_reducible refine' w_un ?_)
  | (with_reducible refine' w_ch ?_)
  | (with_reducible refine' w_I0 ?_)
  | ((with_reducible refine' w_I ?hc ?_); (case hc => first | (exact ly_mulL (by decide) (by decide)) | (exact ly_mulR (by decide) (by decide)) | (exact ly_mulL (by omega) (by omega)) | (show (_ : Int) ≠ 0; decide) | (show (_ : Int) ≠ 0; omega) | (exact ⟨by decide, by decide⟩) | (exact ⟨by omega, by omega⟩)))
  | (with_reducible refine' w_U ?_)
  | ((with_reducible refine' w_eq ?hs ?_); (case hs => exact rfl))
  | ((with_reducible refine' w_ne ?hs ?_); (case hs => exact rfl))
  | (with_reducible refine' w_isB ?_)
  | (with_reducible refine' w_notB ?_)
  | (with_reducible refine' w_nil ?_)
  | (with_reducible refine' w_cons ?_)
  | (with_reducible refine' w_tup ?_)
  | (with_reducible refine' w_lst ?_)
  | (with_reducible refine' w_cb ?_)
  | (with_reducible refine' w_call ?_)
  | (with_reducible refine' w_bm ?_)
  | (with_reducible refine' w_bm0 ?_)
  | ((with_reducible refine' w_app ?hh ?hz ?_); (case hh => walk_at "hp"); (case hz => first | exact ly_lt (by omega) | exact ly_lt (by simp only [List.length_append, List.length_map, List.length_cons, List.length_nil]; omega)))
  | ((with_reducible refine' w_popA ?hh ?_); (case hh => walk_at "hp"))
  | ((with_reducible refine' w_ext ?hh ?hh2 ?hz ?_); (case hh => walk_at "hp"); (case hh2 => walk_at "hp"))
  | ((with_reducible refine' w_ixL ?hh ?ha ?_); (case hh => walk_at "hp"); (case ha => first | exact rfl | exact at_map (by omega) | exact atI_last _ _ | ((refine' at_of ?ae ?ah); (case ah => assumption); (case ae => omega))))
  | ((with_reducible refine' w_ixT ?hh ?ha ?_); (case hh => walk_at "hp"); (case ha => first | exact rfl | exact at_map (by omega) | exact atI_last _ _ | ((refine' at_of ?ae ?ah); (case ah => assumption); (case ae => omega))))
  | ((with_reducible refine' w_cat ?hh ?hh2 ?hz ?_); (case hh => walk_at "hp"); (case hh2 => walk_at "hp"))
  | ((with_reducible refine' w_setL ?hh ?ha ?_); (case hh => walk_at "hp"); (case ha => exact rfl))
  | (with_reducible refine' w_test ?_)
  | (with_reducible refine' w_tB ?_)
  | (with_reducible refine' w_bl ?_)
  | (with_reducible refine' w_and ?_)
  | (with_reducible refine' w_or ?_)
  | (with_reducible refine' w_not ?_)
  | (with_reducible refine' w_andV ?_)
  | (with_reducible refine' w_orV ?_)
  | (with_reducible refine' w_notV ?_)
  | (with_reducible refine' w_ifE ?_)
  | (with_reducible refine' w_for ?_)
  | ((with_reducible refine' w_nin ?hh ?_); (case hh => walk_at "hp"))
  | ((with_reducible refine' w_sorted ?hh ?_); (case hh => walk_at "hp"))
  | (with_reducible refine' w_tsadd ?_)
  | ((with_reducible refine' w_tsadd1 ?hh ?_); (case hh => walk_at "hp"))
  | ((with_reducible refine' w_sadd ?hh ?hr ?_); (case hh => walk_at "hp"); (case hr => omega))
  | (with_reducible refine' w_iZ ?_)
  | ((with_reducible refine' w_iZ1 ?hh ?hh2 ?_); (case hh => walk_at "hp"); (case hh2 => walk_at "hp"))
  | (with_reducible refine' w_iS ?_)
  | (with_reducible refine' w_iS1 ?_)
  | ((with_reducible refine' w_gtup ?hh ?hn ?_); (case hh => walk_at "hp"); (case hn => exact rfl))
  | (with_reducible refine' w_gcons ?_)
  | (with_reducible refine' w_gnil ?_)
  | (with_reducible refine' w_js ?_)
  | (with_reducible refine' w_jsn ?_)
  | ((with_reducible refine' w_js1 ?hl ?_); (case hl => decide +kernel))
  | (with_reducible refine' w_fmt ?_)
  | ((with_reducible refine' w_fmt1 ?hl ?_); (case hl => decide +kernel))
  | (with_reducible refine' w_callS ?_)
  | ((with_reducible refine' w_truL ?hh ?_); (case hh => walk_at "hp"))
  | (with_reducible refine' w_lc ?_)
  | (with_reducible refine' w_yes ?_)
  | ((with_reducible refine' w_wipe ?he ?_); (case he => exact rfl))
  | (with_reducible refine' w_iL ?_)
  | (with_reducible refine' w_iT ?_)
  | (with_reducible refine' w_iR ?_)
  | ((with_reducible refine' w_iL1 ?hh ?_); (case hh => walk_at "hp"))
  | ((with_reducible refine' w_iT1 ?hh ?_); (case hh => walk_at "hp"))
  | ((with_reducible refine' w_iR1 ?h1 ?h2 ?_); (case h1 => omega); (case h2 => omega))
  | ((with_reducible refine' w_aug ?hv ?_); (case hv => exact rfl))
  | (with_reducible refine' w_ipI ?_)
  | ((with_reducible refine' w_isi ?hy ?hk ?_); (case hy => walk_at "ty"); (case hk => walk_at "kit"))
  | ((with_reducible refine' w_int ?_))
  | ((with_reducible refine' w_intB ?_))
  | ((with_reducible refine' w_abs ?_))
  | ((with_reducible refine' w_lenL ?hh ?_); (case hh => walk_at "hp"))
  | ((with_reducible refine' w_lenT ?hh ?_); (case hh => walk_at "hp"))
  | ((with_reducible refine' w_tupL ?hh ?_); (case hh => walk_at "hp"))
  | ((with_reducible refine' w_tupT ?hh ?_); (case hh => walk_at "hp"))
  | ((with_reducible refine' w_catA ?hh ?hh2 ?hz ?_); (case hh => walk_at "hp"); (case hh2 => walk_at "hp"); (case hz => walk_at "len"))
  | ((with_reducible refine' w_repB ?hh ?hne ?h2 ?h3 ?hz ?_); (case hh => walk_at "hp"); (case hne => simp); (case h2 => omega); (case h3 => omega); (case hz => exact Nat.le_of_ble_eq_true rfl))
  | ((with_reducible refine' w_eqN ?hh ?hh2 ?n1 ?n2 ?_); (case hh => walk_at "hp"); (case hh2 => walk_at "hp"); (case n1 => walk_at "nd"); (case n2 => walk_at "nd"))
  | ((with_reducible refine' w_neN ?hh ?hh2 ?n1 ?n2 ?_); (case hh => walk_at "hp"); (case hh2 => walk_at "hp"); (case n1 => walk_at "nd"); (case n2 => walk_at "nd"))
  | ((with_reducible refine' w_eqL ?hh ?hh2 ?n1 ?n2 ?_); (case hh => walk_at "hp"); (case hh2 => walk_at "hp"); (case n1 => walk_at "nd"); (case n2 => walk_at "nd"))
  | ((with_reducible refine' w_neL ?hh ?hh2 ?n1 ?n2 ?_); (case hh => walk_at "hp"); (case hh2 => walk_at "hp"); (case n1 => walk_at "nd"); (case n2 => walk_at "nd"))
  | ((with_reducible refine' w_neNon ?hh2 ?n2 ?_); (case hh2 => walk_at "hp"); (case n2 => walk_at "nd"))
  | ((with_reducible refine' w_eqNon ?hh2 ?n2 ?_); (case hh2 => walk_at "hp"); (case n2 => walk_at "nd"))
  | ((with_reducible refine' w_slA ?hh ?_); (case hh => walk_at "hp"))
  | ((with_reducible refine' w_disp ?hz ?_); (case hz => exact sz_of (Nat.le_of_ble_eq_true rfl)))
  | ((with_reducible refine' w_tyL ?hh ?_); (case hh => walk_at "hp"))
  | (with_reducible refine' iteT ?_)
  | (with_reducible refine' iteF ?_)
  | (with_reducible refine' w_nT ?_)
  | (with_reducible refine' w_nn ?_)
  | (with_reducible refine' w_nnT ?_)
  | (with_reducible refine' w_nnR ?_)
  | (with_reducible refine' w_neG ?_)
  | (with_reducible refine' w_eqG ?_)
  | (with_reducible refine' w_neS ?_)
  | (with_reducible refine' w_eqS ?_)
  | (with_reducible refine' w_neSb ?_)
  | (with_reducible refine' w_eqSb ?_)
  | (with_reducible refine' w_deIS ?_)
  | (with_reducible refine' w_deSI ?_)
  | (with_reducible refine' w_deISn ?_)
  | ((with_reducible refine' w_deST ?he ?_); (case he => decide +kernel))
  | ((with_reducible refine' w_deSF ?he ?_); (case he => decide +kernel))
  | ((with_reducible refine' w_deSTn ?he ?_); (case he => decide +kernel))
  | ((with_reducible refine' w_deSFn ?he ?_); (case he => decide +kernel))
  | (with_reducible refine' w_nF ?_)
  | dsimp only [Bool.not_true, Bool.not_false])
local macro_rules | `(tactic| walk_at "ty") => `(tactic| first
  | exact .base (.int _) | exact .base (.str _) | exact .base (.bl _) | exact .base .non
  | ((refine' tyx_t ?hq); (case hq => walk_at "hp")) | ((refine' tyx_l ?hq); (case hq => walk_at "hp")) | ((refine' .base (.tup ?hq)); (case hq => walk_at "hp")) | assumption)
local macro_rules | `(tactic| walk_at "go") => `(tactic| repeat walk_at "go1")
local macro_rules | `(tactic| walk_at "st") => `(tactic| try dsimp only [cxOf, Cx.nox, Cx.wish])
local macro_rules | `(tactic| walk_at "kit") => `(tactic| with_reducible first | exact kit_int_int | exact kit_int_str | exact kit_int_bool | exact kit_int_tuple | exact kit_int_list | exact kit_str_int | exact kit_str_str | exact kit_str_bool | exact kit_str_tuple | exact kit_str_list | exact kit_bool_int | exact kit_bool_str | exact kit_bool_bool | exact kit_bool_tuple | exact kit_bool_list | exact kit_NoneType_int | exact kit_NoneType_str | exact kit_NoneType_bool | exact kit_NoneType_tuple | exact kit_NoneType_list | exact kit_list_int | exact kit_list_str | exact kit_list_bool | exact kit_list_tuple | exact kit_list_list | exact kit_tuple_int | exact kit_tuple_str | exact kit_tuple_bool | exact kit_tuple_tuple | exact kit_tuple_list)
local macro_rules | `(tactic| walk_at "nd") => `(tactic| first
  | assumption
  | exact Tm.nds _
  | exact Nds.nil
  | exact Nds.ofInts _
  | ((refine' Nds.cons ?na ?nb); (case na => first | exact Nds.I _ | exact Nds.L | exact Nds.A); (case nb => walk_at "nd"))
  | ((refine' Nds.app ?na ?nb); (case na => walk_at "nd"); (case nb => walk_at "nd"))
  | ((refine' Nds.rep ?na _); (case na => walk_at "nd")))
local macro_rules | `(tactic| walk_at "len") => `(tactic| first
  | exact ly_sz (by omega)
  | ((simp only [List.length_append, List.length_cons, List.length_nil, List.length_map, PyProof.Rows.lm_len_rep_flat]); exact ly_sz (by omega)))
local macro_rules | `(tactic| walk_at "go1") => `(tactic| first
  | (with_reducible refine' w_kget2 ?_)
  | (with_reducible refine' w_isRN ?_)
  | (with_reducible refine' w_isNN ?_)
  | (with_reducible refine' w_isIN ?_)
  | ((with_reducible refine' w_kg ?hd ?_); (case hd => assumption)))
local macro_rules | `(tactic| walk_at "go1") => `(tactic| first
  | ((with_reducible refine' w_extT ?hh ?hh2 ?hz ?_); (case hh => walk_at "hp"); (case hh2 => walk_at "hp"))
  | ((with_reducible refine' w_I ?hc ?_); (case hc => exact ⟨by decide, by decide, by decide⟩))
  | (with_reducible refine' w_sl ?_)
  | (with_reducible refine' w_noP ?_)
  | (with_reducible refine' w_part ?_)
  | (with_reducible refine' w_part1 ?_)
  | (with_reducible refine' w_it ?_)
  | (with_reducible refine' w_it1 ?_)
  | ((with_reducible refine' w_lenZ ?hz ?_); (case hz => omega))
  | ((with_reducible refine' w_addZb ?hz ?_); (case hz => omega))
  | ((with_reducible refine' w_addZf ?hz ?_); (case hz => omega))
  | ((with_reducible refine' w_addZa ?hz ?_); (case hz => omega))
  | ((with_reducible refine' w_inS ?hh ?_); (case hh => walk_at "hp"))
  | ((with_reducible refine' w_ixT ?hh ?ha ?_); (case hh => assumption); (case ha => exact atI_nat (by assumption))))
local macro_rules | `(tactic| walk_at "go1") => `(tactic| first
  | (with_reducible refine' w_iR2 ?_)
  | ((with_reducible refine' w_iR21 ?h1 ?h2 ?h3 ?h4 ?_); (case h1 => omega); (case h2 => omega); (case h3 => omega); (case h4 => omega))
  | (with_reducible refine' w_nnI ?_)
  | (with_reducible refine' w_max ?_)
  | (with_reducible refine' w_break ?_)
  | (with_reducible refine' w_cont ?_))
section
variable {P : Program} {w : World} {K : PySem.W.Frag} {mg : Str → Option Value} {base : Heap} {tk : Nat → Tok} {cl : Nat → Addr}
def spLDevd (K : PySem.W.Frag) : Sp := fun vs H Q _ => ∃ (a : Addr) (t : Tm) (n : Nat), vs = [.ref a, .int (n : Int)] ∧ SqT K H a t.enc ∧ t.enc.length ≤ 1000 ∧ n ≤ 1000 ∧ (∀ H', Ex H H' → Q (.str "deep") H') ∧
  (∀ v, Tm.dvN n t = some v → ∀ H' p, Ex H H' → SqT K H' p v.enc → Q (.ref p) H') ∧ (Tm.dvN n t = none → ∀ H', Ex H H' → Q (.str "large") H')
theorem ok_ldevd {f : Addr} {fd : FuncData} (F : Fun K "_law_developed" "_law_developed" s_law_developed f fd) (T : Txt w K mg tk cl)
    (D1 : Def P w K mg base CX0 2 "_law_depth" ["term"] (spLDepth K)) (D2 : Def P w K mg base CX0 155 "_law_develop" ["term"] (spLDev K 400)) : FnOk P w K mg base CX0 156 f fd ["term", "times"] (spLDevd K) := by
  obtain ⟨f1, fd1, g_law_depth, kp_law_depth, b_law_depth, G_law_depth⟩ := D1
  obtain ⟨f2, fd2, g_law_develop, kp_law_develop, b_law_develop, G_law_develop⟩ := D2
  refine F.ok sc_law_developed (fun vs H Q E h => ?_) (fun cdv A outer s H vs Q E hr h => ?_)
  · obtain ⟨_, _, _, rfl, _⟩ := h
    rfl
  · obtain ⟨a, t, n, rfl, hS, hlen, hn, qd, q, ql⟩ := h
    refine ⟨_, (pss_cons (ps_for PassesOwn.never rfl (pi_range1 (by rfl) T.n_range (pa_cons (pv 1) pa_nil)) (pg_name (i := 2) sc_law_developed.nd rfl (.inl rfl)) (pss_cons (ps_if (pt_cmpR op_gt (pe_call G_law_depth (hr.mono (by first | decide | omega)) (by rfl) g_law_depth kp_law_depth b_law_depth .nil pass0 (pa_cons (pv 0) pa_nil)) pe_int (nomark _)) (pss_one (ps_ret pe_str)) pss_nil) (pss_cons (ps_set (i := 0) sc_law_developed.nd rfl (.inl rfl) (pe_call G_law_develop (hr.mono (by first | decide | omega)) (by rfl) g_law_develop kp_law_develop b_law_develop .nil pass0 (pa_cons (pv 0) pa_nil))) (pss_one (ps_if (pt_cmpR (op_eqD hr.units) (pv 0) pe_str (nomark _)) (pss_one (ps_ret pe_str)) pss_nil))))) (pss_one (ps_ret (pv 0)))), ?_⟩
    refine sl_of (σ2 := [some _, some _, none]) rfl ?_
    walk_at "st"
    walk_at "go"
    refine for_range (lo := 0) (n := (n : Int).toNat) (fun i σ H' => ∃ (x : Addr) (u : Tm) (y2 : Option V), σ = [some (.ref x), some (.int (n : Int)), y2] ∧ Ex H H' ∧ SqT K H' x u.enc ∧ u.enc.length ≤ 1000 ∧ Tm.dvN n t = Tm.dvN (n - i) u) ⟨a, t, none, rfl, Ex.refl H, hS, hlen, rfl⟩ ?_ ?_
    · rintro i σ H1 hi ⟨x, u, y2, rfl, e1, hx, hul, hd⟩
      walk_at "go"
      refine ⟨x, u, rfl, hx, hul, fun H2 m e2 hm => ?_⟩
      have hx2 := ex_t e2 hx
      walk_at "go"
      refine w_br (fun c1 => ?_) (fun c1 => ?_)
      · walk_at "go"
        exact qd H2 (e1.trans e2)
      · walk_at "go"
        have hi2 : n - i = (n - (i + 1)) + 1 := by omega
        refine ⟨x, u, rfl, hx2, hul, by omega, fun hK H3 p e3 hp => ?_, fun hK H3 e3 => ?_⟩
        · have hpl := fullK_len u hK
          walk_at "go"
          refine w_eqNZ24 (by decide +kernel) hp u.full.nds ?_
          walk_at "go"
          refine ⟨p, u.full, _, rfl, (e1.trans e2).trans e3, hp, hpl, ?_⟩
          rw [hd, hi2, Tm.dvN, if_pos hK]
        · walk_at "go"
          refine w_eqZZ (b := true) (by decide +kernel) (by decide +kernel) (by decide +kernel) ?_
          walk_at "go"
          refine ql ?_ H3 ((e1.trans e2).trans e3)
          rw [hd, hi2, Tm.dvN, if_neg (by rw [hK]; decide)]
    · rintro σ H1 ⟨x, u, y2, rfl, e1, hx, hul, hd⟩
      walk_at "go"
      refine q u ?_ H1 x e1 hx
      rw [hd, Int.toNat_natCast, Nat.sub_self]
      rfl
def spNoText (K : PySem.W.Frag) : Sp := fun vs H Q _ => ∃ (a : Addr) (xs : List V), vs = [.ref a] ∧ (SqT K H a xs ∨ SqL K H a xs) ∧ Q (.ref a) H
theorem ok_notext {f : Addr} {fd : FuncData} {k : Nat} (F : Fun K "_law_no_text" "_law_no_text" s_law_no_text f fd) (T : Txt w K mg tk cl) : FnOk P w K mg base CX0 (k + 1) f fd ["value"] (spNoText K) := by
  refine F.ok sc_law_no_text (fun vs H Q E h => ?_) (fun cdv A outer s H vs Q E hr h => ?_)
  · obtain ⟨a, xs, rfl, _⟩ := h
    rfl
  · obtain ⟨a, xs, rfl, hS, q⟩ := h
    refine ⟨_, (pss_cons (ps_if (pt_val (pe_callB call_isi (by rfl) T.n_isinstance (by decide +kernel) (pa_cons (pv 0) (pa_cons (pe_bltn (v := .ty "str") (by rfl) T.n_str (by decide +kernel) rfl) pa_nil)))) (pss_one (ps_ret (pe_tup (pa_cons pe_str pa_nil)))) pss_nil) (pss_one (ps_ret (pv 0)))), ?_⟩
    refine sl_of (σ2 := [some _]) rfl ?_
    walk_at "st"
    rcases hS with hS | hS
    · walk_at "go"
      exact q
    · walk_at "go"
      exact q
def spTold (K : PySem.W.Frag) : Sp := fun vs H Q _ => ∃ (a : Addr) (t : Tm) (n : Nat), vs = [.ref a, .int (n : Int)] ∧ SqT K H a t.enc ∧ fitsV t.enc = true ∧ n ≤ 1000 ∧
  (∀ v, Tm.dvN n t = some v → ∀ H' p, Ex H H' → SqT K H' p v.enc → Q (.ref p) H') ∧ (Tm.dvN n t = none → ∀ H', Ex H H' → Q (.str "large") H')
theorem ok_told {f : Addr} {fd : FuncData} (F : Fun K "_law_told" "_law_told" s_law_told f fd) (T : Txt w K mg tk cl)
    (D1 : Def P w K mg base (L2.CX P w) 6 "develop" ["term", "times"] (spDevelop K (cl 1))) (D3 : Def P w K mg base CX0 1 "_law_no_text" ["value"] (spNoText K)) : FnOk P w K mg base CX0 7 f fd ["term", "times"] (spTold K) := by
  obtain ⟨f1, fd1, g_develop, kp_develop, b_develop, G_develop⟩ := D1
  obtain ⟨f3, fd3, g_law_no_text, kp_law_no_text, b_law_no_text, G_law_no_text⟩ := D3
  refine F.ok sc_law_told (fun vs H Q E h => ?_) (fun cdv A outer s H vs Q E hr h => ?_)
  · obtain ⟨_, _, _, rfl, _⟩ := h
    rfl
  · obtain ⟨a, t, n, rfl, hS, hfit, hn, q, ql⟩ := h
    refine ⟨_, (pss_one (ps_try_only rfl rfl ⟨rfl, by decide, .inl T.g_TooLarge⟩ takes0 (fun W pn xe tk po => (pss_one (ps_ret (pe_call G_law_no_text (hr.mono (by first | decide | omega)) (by rfl) g_law_no_text kp_law_no_text b_law_no_text .nil pass0 (pa_cons (pe_callS G_develop (hr.mono (by first | decide | omega)) (by rfl) g_develop kp_develop b_develop (fun σ => passAt tk σ) (pa_cons (pv 0) (pa_cons (pv 1) pa_nil))) pa_nil))))) (fun a oe cls d pn hz hf => (pss_one (ps_ret pe_str))))), ?_⟩
    refine sl_of (σ2 := [some _, some _]) rfl ?_
    walk_at "st"
    walk_at "go"
    refine ⟨a, t, n, rfl, hS, hfit, hn, fun v hv H2 p e2 hp => ?_, fun hv H2 e2 => ?_⟩
    · walk_at "go"
      exact ⟨p, _, rfl, .inl hp, q v hv H2 p e2 hp⟩
    · refine ⟨true, T.e_TooLarge_TooLarge, fun _ a1 ha1 => ?_, fun z => nomatch z⟩
      walk_at "go"
      exact ql hv _ e2
end
end Ly
set_option Elab.async false
set_option linter.all false
set_option maxRecDepth 100000
set_option maxHeartbeats 8000000
namespace Ly
open PySem PySem.Spec PyProof.Rows L2 Evl
local macro_rules | `(tactic| walk_at "ne") => `(tactic| first
  | assumption
  | ((refine' Ne.symm ?hq); (case hq => assumption))
  | ((refine' ne_of_none ?nh1 ?nh2); (case nh2 => assumption); (case nh1 => walk_at "hp"))
  | ((refine' Ne.symm (ne_of_none ?nh1 ?nh2)); (case nh2 => assumption); (case nh1 => walk_at "hp")))
local macro_rules | `(tactic| walk_at "hp") => `(tactic| first
  | assumption
  | exact upd_same
  | ((refine' SqL.of ?hq); (case hq => walk_at "hp"))
  | ((refine' SqT.of ?hq); (case hq => walk_at "hp"))
  | ((refine' (upd_ne ?hne).trans ?hrest); (case hne => walk_at "ne"); (case hrest => walk_at "hp"))
  | ((refine' ly_at ?hex ?hh); (case hex => assumption); (case hh => walk_at "hp"))
  | ((refine' ly_atF ?hex ?hnn ?hh); (case hex => assumption); (case hh => walk_at "hp"); (case hnn => walk_at "ne"))
  | ((refine' ex_t ?hex ?hh); (case hh => assumption); (case hex => walk_at "ex"))
  | ((refine' ex_l ?hex ?hh); (case hh => assumption); (case hex => walk_at "ex")))
local macro_rules | `(tactic| walk_at "ex") => `(tactic| first
  | assumption
  | exact Ex.refl _
  | ((refine' ex_new ?xa ?xb); (case xb => assumption); (case xa => walk_at "ex"))
  | ((refine' ex_upd ?xa ?xb); (case xb => walk_at "free"); (case xa => walk_at "ex"))
  | ((refine' Ex.trans ?xa ?xb); (case xb => assumption); (case xa => walk_at "ex")))
local macro_rules | `(tactic| walk_at "free") => `(tactic| first
  | assumption
  | ((refine' fresh_back ?xa ?xb); (case xb => assumption); (case xa => walk_at "ex")))
local macro_rules | `(tactic| walk_at "fr") => `(tactic| first
  | assumption
  | exact Fr.refl _ _
  | ((refine' Fr.own ?hq); (case hq => walk_at "fr"))
  | ((refine' Fr.new ?xa ?xb); (case xb => assumption); (case xa => walk_at "fr"))
  | ((refine' Fr.mut ?xa ?xb); (case xb => assumption); (case xa => walk_at "fr"))
  | ((refine' Fr.trans ?xa ?xb); (case xb => assumption); (case xa => walk_at "fr"))
  | ((refine' Fr.trans ?xa (Fr.ex ?xb)); (case xb => assumption); (case xa => walk_at "fr")))
local macro_rules | `(tactic| walk_at "go1") => `(tactic| first
  | (with_reducible refine' w_seq ?_)
  | (with_reducible refine' w_asg ?_)
  | (with_reducible refine' w_ret ?_)
  | (with_reducible refine' w_drop ?_)
  | (with_reducible refine' w_if ?_)
  | (with_reducible refine' w_next ?_)
  | (with_reducible refine' w_name ?_)
  | (with_reducible refine' w_sub ?_)
  | ((with_reducible refine' w_var ?hv ?_); (case hv => exact rfl))
  | (with_reducible refine' w_c ?_)
  | (with_reducible refine' w_op ?_)
  | (with_reducible refine' w_un ?_)
  | (with_reducible refine' w_ch ?_)
  | (with_reducible refine' w_I0 ?_)
  | ((with_reducible refine' w_I ?hc ?_); (case hc => first | (exact ly_mulL (by decide) (by decide)) | (exact ly_mulR (by decide) (by decide)) | (exact ly_mulL (by omega) (by omega)) | (show (_ : Int) ≠ 0; decide) | (show (_ : Int) ≠ 0; omega) | (exact ⟨by decide, by decide⟩) | (exact ⟨by omega, by omega⟩)))
  | (with_reducible refine' w_U ?_)
  | ((with_reducible refine' w_eq ?hs ?_); (case hs => exact rfl))
  | ((with_reducible refine' w_ne ?hs ?_); (case hs => exact rfl))
  | (with_reducible refine' w_isB ?_)
  | (with_reducible refine' w_notB ?_)
  | (with_reducible refine' w_nil ?_)
  | (with_reducible refine' w_cons ?_)
  | (with_reducible refine' w_tup ?_)
  | (with_reducible refine' w_lst ?_)
  | (with_reducible refine' w_cb ?_)
  | (with_reducible refine' w_call ?_)
  | (with_reducible refine' w_bm ?_)
  | (with_reducible refine' w_bm0 ?_)
  | ((with_reducible refine' w_app ?hh ?hz ?_); (case hh => walk_at "hp"); (case hz => first | exact ly_lt (by omega) | exact ly_lt (by simp only [List.length_append, List.length_map, List.length_cons, List.length_nil]; omega)))
  | ((with_reducible refine' w_popA ?hh ?_); (case hh => walk_at "hp"))
  | ((with_reducible refine' w_ext ?hh ?hh2 ?hz ?_); (case hh => walk_at "hp"); (case hh2 => walk_at "hp"))
  | ((with_reducible refine' w_ixL ?hh ?ha ?_); (case hh => walk_at "hp"); (case ha => first | exact rfl | exact at_map (by omega) | exact atI_last _ _ | ((refine' at_of ?ae ?ah); (case ah => assumption); (case ae => omega))))
  | ((with_reducible refine' w_ixT ?hh ?ha ?_); (case hh => walk_at "hp"); (case ha => first | exact rfl | exact at_map (by omega) | exact atI_last _ _ | ((refine' at_of ?ae ?ah); (case ah => assumption); (case ae => omega))))
  | ((with_reducible refine' w_cat ?hh ?hh2 ?hz ?_); (case hh => walk_at "hp"); (case hh2 => walk_at "hp"))
  | ((with_reducible refine' w_setL ?hh ?ha ?_); (case hh => walk_at "hp"); (case ha => exact rfl))
  | (with_reducible refine' w_test ?_)
  | (with_reducible refine' w_tB ?_)
  | (with_reducible refine' w_bl ?_)
  | (with_reducible refine' w_and ?_)
  | (with_reducible refine' w_or ?_)
  | (with_reducible refine' w_not ?_)
  | (with_reducible refine' w_andV ?_)
  | (with_reducible refine' w_orV ?_)
  | (with_reducible refine' w_notV ?_)
  | (with_reducible refine' w_ifE ?_)
  | (with_reducible refine' w_for ?_)
  | ((with_reducible refine' w_nin ?hh ?_); (case hh => walk_at "hp"))
  | ((with_reducible refine' w_sorted ?hh ?_); (case hh => walk_at "hp"))
  | (with_reducible refine' w_tsadd ?_)
  | ((with_reducible refine' w_tsadd1 ?hh ?_); (case hh => walk_at "hp"))
  | ((with_reducible refine' w_sadd ?hh ?hr ?_); (case hh => walk_at "hp"); (case hr => omega))
  | (with_reducible refine' w_iZ ?_)
  | ((with_reducible refine' w_iZ1 ?hh ?hh2 ?_); (case hh => walk_at "hp"); (case hh2 => walk_at "hp"))
  | (with_reducible refine' w_iS ?_)
  | (with_reducible refine' w_iS1 ?_)
  | ((with_reducible refine' w_gtup ?hh ?hn ?_); (case hh => walk_at "hp"); (case hn => exact rfl))
  | (with_reducible refine' w_gcons ?_)
  | (with_reducible refine' w_gnil ?_)
  | (with_reducible refine' w_js ?_)
  | (with_reducible refine' w_jsn ?_)
  | ((with_reducible refine' w_js1 ?hl ?_); (case hl => decide +kernel))
  | (with_reducible refine' w_fmt ?_)
  | ((with_reducible refine' w_fmt1 ?hl ?_); (case hl => decide +kernel))
  | (with_reducible refine' w_callS ?_)
  | ((with_reducible refine' w_truL ?hh ?_); (case hh => walk_at "hp"))
  | (with_reducible refine' w_lc ?_)
  | (with_reducible refine' w_yes ?_)
  | ((with_reducible refine' w_wipe ?he ?_); (case he => exact rfl))
  | (with_reducible refine' w_iL ?_)
  | (with_reducible refine' w_iT ?_)
  | (with_reducible refine' w_iR ?_)
  | ((with_reducible refine' w_iL1 ?hh ?_); (case hh => walk_at "hp"))
  | ((with_reducible refine' w_iT1 ?hh ?_); (case hh => walk_at "hp"))
  | ((with_reducible refine' w_iR1 ?h1 ?h2 ?_); (case h1 => omega); (case h2 => omega))
  | ((with_reducible refine' w_aug ?hv ?_); (case hv => exact rfl))
  | (with_reducible refine' w_ipI ?_)
  | ((with_reducible refine' w_isi ?hy ?hk ?_); (case hy => walk_at "ty"); (case hk => walk_at "kit"))
  | ((with_reducible refine' w_int ?_))
  | ((with_reducible refine' w_intB ?_))
  | ((with_reducible refine' w_abs ?_))
  | ((with_reducible refine' w_lenL ?hh ?_); (case hh => walk_at "hp"))
  | ((with_reducible refine' w_lenT ?hh ?_); (case hh => walk_at "hp"))
  | ((with_reducible refine' w_tupL ?hh ?_); (case hh => walk_at "hp"))
  | ((with_reducible refine' w_tupT ?hh ?_); (case hh => walk_at "hp"))
  | ((with_reducible refine' w_catA ?hh ?hh2 ?hz ?_); (case hh => walk_at "hp"); (case hh2 => walk_at "hp"); (case hz => walk_at "len"))
  | ((with_reducible refine' w_repB ?hh ?hne ?h2 ?h3 ?hz ?_); (case hh => walk_at "hp"); (case hne => simp); (case h2 => omega); (case h3 => omega); (case hz => exact Nat.le_of_ble_eq_true rfl))
  | ((with_reducible refine' w_eqN ?hh ?hh2 ?n1 ?n2 ?_); (case hh => walk_at "hp"); (case hh2 => walk_at "hp"); (case n1 => walk_at "nd"); (case n2 => walk_at "nd"))
  | ((with_reducible refine' w_neN ?hh ?hh2 ?n1 ?n2 ?_); (case hh => walk_at "hp"); (case hh2 => walk_at "hp"); (case n1 => walk_at "nd"); (case n2 => walk_at "nd"))
  | ((with_reducible refine' w_eqL ?hh ?hh2 ?n1 ?n2 ?_); (case hh => walk_at "hp"); (case hh2 => walk_at "hp"); (case n1 => walk_at "nd"); (case n2 => walk_at "nd"))
  | ((with_reducible refine' w_neL ?hh ?hh2 ?n1 ?n2 ?_); (case hh => walk_at "hp"); (case hh2 => walk_at "hp"); (case n1 => walk_at "nd"); (case n2 => walk_at "nd"))
  | ((with_reducible refine' w_neNon ?hh2 ?n2 ?_); (case hh2 => walk_at "hp"); (case n2 => walk_at "nd"))
  | ((with_reducible refine' w_eqNon ?hh2 ?n2 ?_); (case hh2 => walk_at "hp"); (case n2 => walk_at "nd"))
  | ((with_reducible refine' w_slA ?hh ?_); (case hh => walk_at "hp"))
  | ((with_reducible refine' w_disp ?hz ?_); (case hz => exact sz_of (Nat.le_of_ble_eq_true rfl)))
  | ((with_reducible refine' w_tyL ?hh ?_); (case hh => walk_at "hp"))
  | (with_reducible refine' iteT ?_)
  | (with_reducible refine' iteF ?_)
  | (with_reducible refine' w_nT ?_)
  | (with_reducible refine' w_nn ?_)
  | (with_reducible refine' w_nnT ?_)
  | (with_reducible refine' w_nnR ?_)
  | (with_reducible refine' w_neG ?_)
  | (with_reducible refine' w_eqG ?_)
  | (with_reducible refine' w_neS ?_)
  | (with_reducible refine' w_eqS ?_)
  | (with_reducible refine' w_neSb ?_)
  | (with_reducible refine' w_eqSb ?_)
  | (with_reducible refine' w_deIS ?_)
  | (with_reducible refine' w_deSI ?_)
  | (with_reducible refine' w_deISn ?_)
  | ((with_reducible refine' w_deST ?he ?_); (case he => decide +kernel))
  | ((with_reducible refine' w_deSF ?he ?_); (case he => decide +kernel))
  | ((with_reducible refine' w_deSTn ?he ?_); (case he => decide +kernel))
  | ((with_reducible refine' w_deSFn ?he ?_); (case he => decide +kernel))
  | (with_reducible refine' w_nF ?_)
  | dsimp only [Bool.not_true, Bool.not_false])
local macro_rules | `(tactic| walk_at "ty") => `(tactic| first
  | exact .base (.int _) | exact .base (.str _) | exact .base (.bl _) | exact .base .non
  | ((refine' tyx_t ?hq); (case hq => walk_at "hp")) | ((refine' tyx_l ?hq); (case hq => walk_at "hp")) | ((refine' .base (.tup ?hq)); (case hq => walk_at "hp")) | assumption)
local macro_rules | `(tactic| walk_at "go") => `(tactic| repeat walk_at "go1")
local macro_rules | `(tactic| walk_at "st") => `(tactic| try dsimp only [cxOf, Cx.nox, Cx.wish])
local macro_rules | `(tactic| walk_at "kit") => `(tactic| with_reducible first | exact kit_int_int | exact kit_int_str | exact kit_int_bool | exact kit_int_tuple | exact kit_int_list | exact kit_str_int | exact kit_str_str | exact kit_str_bool | exact kit_str_tuple | exact kit_str_list | exact kit_bool_int | exact kit_bool_str | exact kit_bool_bool | exact kit_bool_tuple | exact kit_bool_list | exact kit_NoneType_int | exact kit_NoneType_str | exact kit_NoneType_bool | exact kit_NoneType_tuple | exact kit_NoneType_list | exact kit_list_int | exact kit_list_str | exact kit_list_bool | exact kit_list_tuple | exact kit_list_list | exact kit_tuple_int | exact kit_tuple_str | exact kit_tuple_bool | exact kit_tuple_tuple | exact kit_tuple_list)
local macro_rules | `(tactic| walk_at "nd") => `(tactic| first
  | assumption
  | exact Tm.nds _
  | exact Nds.nil
  | exact Nds.ofInts _
  | ((refine' Nds.cons ?na ?nb); (case na => first | exact Nds.I _ | exact Nds.L | exact Nds.A); (case nb => walk_at "nd"))
  | ((refine' Nds.app ?na ?nb); (case na => walk_at "nd"); (case nb => walk_at "nd"))
  | ((refine' Nds.rep ?na _); (case na => walk_at "nd")))
local macro_rules | `(tactic| walk_at "len") => `(tactic| first
  | exact ly_sz (by omega)
  | ((simp only [List.length_append, List.length_cons, List.length_nil, List.length_map, PyProof.Rows.lm_len_rep_flat]); exact ly_sz (by omega)))
local macro_rules | `(tactic| walk_at "go1") => `(tactic| first
  | (with_reducible refine' w_kget2 ?_)
  | (with_reducible refine' w_isRN ?_)
  | (with_reducible refine' w_isNN ?_)
  | (with_reducible refine' w_isIN ?_)
  | ((with_reducible refine' w_kg ?hd ?_); (case hd => assumption)))
local macro_rules | `(tactic| walk_at "go1") => `(tactic| first
  | ((with_reducible refine' w_extT ?hh ?hh2 ?hz ?_); (case hh => walk_at "hp"); (case hh2 => walk_at "hp"))
  | ((with_reducible refine' w_I ?hc ?_); (case hc => exact ⟨by decide, by decide, by decide⟩))
  | (with_reducible refine' w_sl ?_)
  | (with_reducible refine' w_noP ?_)
  | (with_reducible refine' w_part ?_)
  | (with_reducible refine' w_part1 ?_)
  | (with_reducible refine' w_it ?_)
  | (with_reducible refine' w_it1 ?_)
  | ((with_reducible refine' w_lenZ ?hz ?_); (case hz => omega))
  | ((with_reducible refine' w_addZb ?hz ?_); (case hz => omega))
  | ((with_reducible refine' w_addZf ?hz ?_); (case hz => omega))
  | ((with_reducible refine' w_addZa ?hz ?_); (case hz => omega))
  | ((with_reducible refine' w_inS ?hh ?_); (case hh => walk_at "hp"))
  | ((with_reducible refine' w_ixT ?hh ?ha ?_); (case hh => assumption); (case ha => exact atI_nat (by assumption))))
local macro_rules | `(tactic| walk_at "go1") => `(tactic| first
  | (with_reducible refine' w_iR2 ?_)
  | ((with_reducible refine' w_iR21 ?h1 ?h2 ?h3 ?h4 ?_); (case h1 => omega); (case h2 => omega); (case h3 => omega); (case h4 => omega))
  | (with_reducible refine' w_nnI ?_)
  | (with_reducible refine' w_max ?_)
  | (with_reducible refine' w_break ?_)
  | (with_reducible refine' w_cont ?_))
section
variable {P : Program} {w : World} {K : PySem.W.Frag} {mg : Str → Option Value} {base : Heap} {tk : Nat → Tok} {cl : Nat → Addr}
theorem fits_wf {t : Tm} (h : t.wf 8) (l : t.enc.length ≤ 600) : fitsV t.enc = true := fits_of (Tm.vars_mono (by omega) (Tm.vars_wf h)) (by omega)
def spLaw (K : PySem.W.Frag) : Sp := fun vs H Q _ => ∃ (a : Addr) (ns : List Int), vs = [.ref a] ∧ SqL K H a (ns.map V.int) ∧ ns.length ≤ 63 ∧ ∀ H', Q (.bl true) H'
theorem ok_law {f : Addr} {fd : FuncData} (F : Fun K "law" "law" s_law f fd) (T : Txt w K mg tk cl)
    (D1 : Def P w K mg base CX0 1 "_law_stream" ["script"] (spStream K)) (D2 : Def P w K mg base CX0 1 "_law_draw" ["stream", "many"] spDraw) (D3 : Def P w K mg base CX0 25 "_law_rich" ["stream", "size"] (spRich K 10))
    (D4 : Def P w K mg base CX0 3 "_law_far" ["stream", "term"] (spFar K)) (D5 : Def P w K mg base CX0 156 "_law_developed" ["term", "times"] (spLDevd K)) (D6 : Def P w K mg base CX0 7 "_law_told" ["term", "times"] (spTold K)) : FnOk P w K mg base CX0 160 f fd ["script"] (spLaw K) := by
  obtain ⟨f1, fd1, g_law_stream, kp_law_stream, b_law_stream, G_law_stream⟩ := D1
  obtain ⟨f2, fd2, g_law_draw, kp_law_draw, b_law_draw, G_law_draw⟩ := D2
  obtain ⟨f3, fd3, g_law_rich, kp_law_rich, b_law_rich, G_law_rich⟩ := D3
  obtain ⟨f4, fd4, g_law_far, kp_law_far, b_law_far, G_law_far⟩ := D4
  obtain ⟨f5, fd5, g_law_developed, kp_law_developed, b_law_developed, G_law_developed⟩ := D5
  obtain ⟨f6, fd6, g_law_told, kp_law_told, b_law_told, G_law_told⟩ := D6
  refine F.ok sc_law (fun vs H Q E h => ?_) (fun cdv A outer s H vs Q E hr h => ?_)
  · obtain ⟨a, ns, rfl, _⟩ := h
    rfl
  · obtain ⟨a, ns, rfl, hS, hlen, q⟩ := h
    refine ⟨_, (pss_cons (ps_set (i := 1) sc_law.nd rfl (.inl rfl) (pe_call G_law_stream (hr.mono (by first | decide | omega)) (by rfl) g_law_stream kp_law_stream b_law_stream .nil pass0 (pa_cons (pv 0) pa_nil))) (pss_cons (ps_set (i := 2) sc_law.nd rfl (.inl rfl) (pe_call G_law_rich (hr.mono (by first | decide | omega)) (by rfl) g_law_rich kp_law_rich b_law_rich .nil pass0 (pa_cons (pv 1) (pa_cons (pe_op op_add pe_int (pe_call G_law_draw (hr.mono (by first | decide | omega)) (by rfl) g_law_draw kp_law_draw b_law_draw .nil pass0 (pa_cons (pv 1) (pa_cons pe_int pa_nil)))) pa_nil)))) (pss_cons (ps_set (i := 2) sc_law.nd rfl (.inl rfl) (pe_call G_law_far (hr.mono (by first | decide | omega)) (by rfl) g_law_far kp_law_far b_law_far .nil pass0 (pa_cons (pv 1) (pa_cons (pv 2) pa_nil)))) (pss_cons (ps_set (i := 3) sc_law.nd rfl (.inl rfl) (pe_call G_law_draw (hr.mono (by first | decide | omega)) (by rfl) g_law_draw kp_law_draw b_law_draw .nil pass0 (pa_cons (pv 1) (pa_cons (pe_ix ix_list (pe_lst (pa_cons pe_int (pa_cons pe_int (pa_cons pe_int (pa_cons pe_int pa_nil))))) (pe_call G_law_draw (hr.mono (by first | decide | omega)) (by rfl) g_law_draw kp_law_draw b_law_draw .nil pass0 (pa_cons (pv 1) (pa_cons pe_int pa_nil))) (fun _ _ => rfl)) pa_nil)))) (pss_cons (ps_set (i := 4) sc_law.nd rfl (.inl rfl) (pe_call G_law_developed (hr.mono (by first | decide | omega)) (by rfl) g_law_developed kp_law_developed b_law_developed .nil pass0 (pa_cons (pv 2) (pa_cons (pv 3) pa_nil)))) (pss_one (ps_ret (pe_or (pe_cmpR (op_eqD hr.units) (pv 4) pe_str (nomark _)) (pe_one (pe_and (pe_cmpR (op_eqD hr.units) (pe_call G_law_told (hr.mono (by first | decide | omega)) (by rfl) g_law_told kp_law_told b_law_told .nil pass0 (pa_cons (pv 2) (pa_cons (pv 3) pa_nil))) (pv 4) (nomark _)) (pe_one (pe_cmpR (op_eqD hr.units) (pe_call G_law_told (hr.mono (by first | decide | omega)) (by rfl) g_law_told kp_law_told b_law_told .nil pass0 (pa_cons (pv 2) (pa_cons pe_int pa_nil))) (pv 2) (nomark _))))))))))))), ?_⟩
    refine sl_of (σ2 := [some _, none, none, none, none]) rfl ?_
    walk_at "st"
    walk_at "go"
    refine ⟨a, ns, rfl, hS, hlen, fun H1 s1 l e1 hs1 st1 => ?_⟩
    generalize (⟨l, ns, 0, 0, mixOf ns⟩ : Stm) = m0 at *
    walk_at "go"
    refine ⟨s1, m0, 6, rfl, st1, by decide, by decide, fun H2 fr2 st2 => ?_⟩
    have v2 := m0.val_lt (n := 6) (by decide)
    generalize m0.val 6 = n1 at *
    generalize m0.next 6 = m1 at *
    walk_at "go"
    refine ⟨s1, m1, (2 + n1).toNat, by rw [Int.toNat_of_nonneg (by omega)]; rfl, st2, by omega, by omega, by omega, fun H3 p0 m2 t0 fr3 st3 hp0 hw htl => ?_⟩
    have htl0 : t0.enc.length ≤ 600 := by omega
    have hfit0 := fits_wf hw htl0
    clear fr2 fr3 st2 v2 e1 st1 hS hs1
    walk_at "go"
    refine ⟨s1, p0, m2, t0, rfl, st3, hp0, by omega, fun H4 pt m3 t fr4 st4 hpt htl4 hfit => ?_⟩
    have htl : t.enc.length ≤ 600 := by omega
    have hf := hfit hfit0
    clear fr4 st3 hp0 hw htl4 hfit
    walk_at "go"
    intro p5 hp5
    have e5 := Ex.new hp5 (o := .lst [V.int 6, V.int 6, V.int 6, V.int 13])
    have hl5 : upd H4 p5 (.lst [V.int 6, V.int 6, V.int 6, V.int 13]) p5 = some (.lst [V.int 6, V.int 6, V.int 6, V.int 13]) := upd_same
    have hpt5 := ex_t e5 hpt
    have st5 := st4.ex e5
    have nd5 : p5 ≠ s1 := fun z => by
      rw [z, st4.2.1] at hp5
      cases hp5
    generalize upd H4 p5 (.lst [V.int 6, V.int 6, V.int 6, V.int 13]) = H5 at *
    walk_at "go"
    refine ⟨s1, m3, 4, rfl, st5, by decide, by decide, fun H6 fr6 st6 => ?_⟩
    have v6 := m3.val_lt (n := 4) (by decide)
    generalize m3.val 4 = n4 at *
    generalize m3.next 4 = m4 at *
    have hpt6 := fr_t fr6 st5.2.1 hpt5
    have hl6 := fr6 _ _ nd5 hl5
    obtain ⟨tm, ht, htm0, htl⟩ : ∃ tm : Int, atI ([.int 6, .int 6, .int 6, .int 13] : List V) n4 = some (.int tm) ∧ 0 < tm ∧ tm ≤ 13 := by
      obtain h | h | h | h : n4 = 0 ∨ n4 = 1 ∨ n4 = 2 ∨ n4 = 3 := by omega
      · exact ⟨6, by rw [h]; rfl, by decide, by decide⟩
      · exact ⟨6, by rw [h]; rfl, by decide, by decide⟩
      · exact ⟨6, by rw [h]; rfl, by decide, by decide⟩
      · exact ⟨13, by rw [h]; rfl, by decide, by decide⟩
    clear e5 hl5 hpt5 st4 fr6 st5 hpt
    walk_at "go"
    refine w_ixL (SqL.of hl6) ht ?_
    walk_at "go"
    refine ⟨s1, m4, tm, rfl, st6, htm0, by omega, fun H6b fr6b st6b => ?_⟩
    have v6b := m4.val_lt (n := tm) htm0
    generalize m4.val tm = n5 at *
    generalize m4.next tm = m5 at *
    have hpt6b := fr_t fr6b st6.2.1 hpt6
    obtain ⟨times, rfl⟩ : ∃ times : Nat, n5 = (times : Int) := ⟨n5.toNat, by omega⟩
    clear hpt6
    have hpt6 := hpt6b
    walk_at "go"
    refine ⟨pt, t, times, rfl, hpt6, by omega, by omega, fun H7 e7 => ?_, fun v hv H7 pd e7 hpd => ?_, fun hv H7 e7 => ?_⟩
    · walk_at "go"
      refine w_eqZZ (b := true) (by decide +kernel) (by decide +kernel) (by decide +kernel) ?_
      walk_at "go"
      exact q _
    · have hpt7 := ex_t e7 hpt6
      walk_at "go"
      refine w_eqNZ24 (by decide +kernel) hpd v.nds ?_
      walk_at "go"
      refine ⟨pt, t, times, rfl, hpt7, hf, by omega, fun v2 hv2 H8 p8 e8 hp8 => ?_, fun hv2 => ?_⟩
      · rw [hv] at hv2
        cases hv2
        have hpt8 := ex_t e8 hpt7
        have hpd8 := ex_t e8 hpd
        walk_at "go"
        refine ⟨pt, t, 0, rfl, hpt8, hf, by decide, fun v3 hv3 H9 p9 e9 hp9 => ?_, fun hv3 => nomatch hv3⟩
        cases hv3
        have hpt9 := ex_t e9 hpt8
        walk_at "go"
        rw [decide_eq_true rfl]
        exact q _
      · rw [hv] at hv2
        cases hv2
    · have hpt7 := ex_t e7 hpt6
      walk_at "go"
      refine w_eqZZ (b := false) (by decide +kernel) (by decide +kernel) (by decide +kernel) ?_
      walk_at "go"
      refine ⟨pt, t, times, rfl, hpt7, hf, by omega, fun v2 hv2 => ?_, fun hv2 H8 e8 => ?_⟩
      · rw [hv] at hv2
        cases hv2
      · have hpt8 := ex_t e8 hpt7
        walk_at "go"
        refine w_eqZZ (b := true) (by decide +kernel) (by decide +kernel) (by decide +kernel) ?_
        walk_at "go"
        refine ⟨pt, t, 0, rfl, hpt8, hf, by decide, fun v3 hv3 H9 p9 e9 hp9 => ?_, fun hv3 => nomatch hv3⟩
        cases hv3
        have hpt9 := ex_t e9 hpt8
        walk_at "go"
        rw [decide_eq_true rfl]
        exact q _
end
end Ly
set_option Elab.async false
set_option linter.all false
set_option maxRecDepth 100000
set_option maxHeartbeats 8000000
namespace Ly
open PySem PySem.Spec PyProof.Rows L2 Evl

-- endR _law_term ok_sterm 14:13 _law_draw
-- endR _law_rich ok_rich 25:10 _law_draw _law_closed_term _law_term
-- endR _law_develop ok_ldev 155:400 _law_is_lam _law_end _law_put _law_is_large
theorem all_mk {l : PySem.W.OpenLaw} {w : World} {K : PySem.W.Frag} {h : Heap} {mg : Str → Option Value} {fa f1 f2 f3 f4 f5 f6 f7 f8 f9 f10 f11 f12 f13 f14 f15 f16 f17 f18 f19 f20 f21 f22 f23 f24 f25 f26 f27 f28 f29 f30 f31 f32 cc0 cc1 : Addr} (X : K.In h) (G : h.Ns mainGlobals mg) (hfa : mg "law" = some (.ref fa))
    {od1 an1 od2 an2 od3 an3 od4 an4 od5 an5 od6 an6 od7 an7 od8 an8 od9 an9 od10 an10 od11 an11 od12 an12 od13 an13 od14 an14 od15 an15 od16 an16 od17 an17 od18 an18 od19 an19 od20 an20 od21 an21 od22 an22 od23 an23 od24 an24 od25 an25 od26 an26 od27 an27 od28 an28 od29 an29 od30 an30 od31 an31 od32 an32 : Option Addr} {sl1 sl2 sl3 sl4 sl5 sl6 sl7 sl8 sl9 sl10 sl11 sl12 sl13 sl14 sl15 sl16 sl17 sl18 sl19 sl20 sl21 sl22 sl23 sl24 sl25 sl26 sl27 sl28 sl29 sl30 sl31 sl32 : Array (Option Value)} {oc1 kV1 dc1 pm1 cd1 ct1 oc2 kV2 dc2 pm2 cd2 ct2 oc3 kV3 dc3 pm3 cd3 ct3 oc4 kV4 dc4 pm4 cd4 ct4 oc5 kV5 dc5 pm5 cd5 ct5 oc6 kV6 dc6 pm6 cd6 ct6 oc7 kV7 dc7 pm7 cd7 ct7 oc8 kV8 dc8 pm8 cd8 ct8 oc9 kV9 dc9 pm9 cd9 ct9 oc10 kV10 dc10 pm10 cd10 ct10 oc11 kV11 dc11 pm11 cd11 ct11 oc12 kV12 dc12 pm12 cd12 ct12 oc13 kV13 dc13 pm13 cd13 ct13 oc14 kV14 dc14 pm14 cd14 ct14 oc15 kV15 dc15 pm15 cd15 ct15 oc16 kV16 dc16 pm16 cd16 ct16 oc17 kV17 dc17 pm17 cd17 ct17 oc18 kV18 dc18 pm18 cd18 ct18 oc19 kV19 dc19 pm19 cd19 ct19 oc20 kV20 dc20 pm20 cd20 ct20 oc21 kV21 dc21 pm21 cd21 ct21 oc22 kV22 dc22 pm22 cd22 ct22 oc23 kV23 dc23 pm23 cd23 ct23 oc24 kV24 dc24 pm24 cd24 ct24 oc25 kV25 dc25 pm25 cd25 ct25 oc26 kV26 dc26 pm26 cd26 ct26 oc27 kV27 dc27 pm27 cd27 ct27 oc28 kV28 dc28 pm28 cd28 ct28 oc29 kV29 dc29 pm29 cd29 ct29 oc30 kV30 dc30 pm30 cd30 ct30 oc31 kV31 dc31 pm31 cd31 ct31 oc32 kV32 dc32 pm32 cd32 ct32 : Value} {t0 t1 : Tok}
    (a1 : PySem.W.nsIn K mainGlobals "_law_draw" = some (some (.ref f1))) (l1 : K.lookup f1 = some ⟨oc1, od1, .func (PySem.W.fnOf "_law_draw" "_law_draw" (defArgs s_law_draw) (defBody s_law_draw) (defScope s_law_draw) .none kV1 dc1 pm1 an1 cd1 ct1), sl1⟩) (c1 : PySem.W.codeIn K cd1 "_law_draw" = true) (k1 : PySem.W.keepIn K (.ref f1) = true)
    (a2 : PySem.W.nsIn K mainGlobals "_law_stream" = some (some (.ref f2))) (l2 : K.lookup f2 = some ⟨oc2, od2, .func (PySem.W.fnOf "_law_stream" "_law_stream" (defArgs s_law_stream) (defBody s_law_stream) (defScope s_law_stream) .none kV2 dc2 pm2 an2 cd2 ct2), sl2⟩) (c2 : PySem.W.codeIn K cd2 "_law_stream" = true) (k2 : PySem.W.keepIn K (.ref f2) = true)
    (a3 : PySem.W.nsIn K mainGlobals "_law_is_lam" = some (some (.ref f3))) (l3 : K.lookup f3 = some ⟨oc3, od3, .func (PySem.W.fnOf "_law_is_lam" "_law_is_lam" (defArgs s_law_is_lam) (defBody s_law_is_lam) (defScope s_law_is_lam) .none kV3 dc3 pm3 an3 cd3 ct3), sl3⟩) (c3 : PySem.W.codeIn K cd3 "_law_is_lam" = true) (k3 : PySem.W.keepIn K (.ref f3) = true)
    (a4 : PySem.W.nsIn K mainGlobals "_law_end" = some (some (.ref f4))) (l4 : K.lookup f4 = some ⟨oc4, od4, .func (PySem.W.fnOf "_law_end" "_law_end" (defArgs s_law_end) (defBody s_law_end) (defScope s_law_end) .none kV4 dc4 pm4 an4 cd4 ct4), sl4⟩) (c4 : PySem.W.codeIn K cd4 "_law_end" = true) (k4 : PySem.W.keepIn K (.ref f4) = true)
    (a5 : PySem.W.nsIn K mainGlobals "_law_depths" = some (some (.ref f5))) (l5 : K.lookup f5 = some ⟨oc5, od5, .func (PySem.W.fnOf "_law_depths" "_law_depths" (defArgs s_law_depths) (defBody s_law_depths) (defScope s_law_depths) .none kV5 dc5 pm5 an5 cd5 ct5), sl5⟩) (c5 : PySem.W.codeIn K cd5 "_law_depths" = true) (k5 : PySem.W.keepIn K (.ref f5) = true)
    (a6 : PySem.W.nsIn K mainGlobals "_law_lift" = some (some (.ref f6))) (l6 : K.lookup f6 = some ⟨oc6, od6, .func (PySem.W.fnOf "_law_lift" "_law_lift" (defArgs s_law_lift) (defBody s_law_lift) (defScope s_law_lift) .none kV6 dc6 pm6 an6 cd6 ct6), sl6⟩) (c6 : PySem.W.codeIn K cd6 "_law_lift" = true) (k6 : PySem.W.keepIn K (.ref f6) = true)
    (a7 : PySem.W.nsIn K mainGlobals "_law_put" = some (some (.ref f7))) (l7 : K.lookup f7 = some ⟨oc7, od7, .func (PySem.W.fnOf "_law_put" "_law_put" (defArgs s_law_put) (defBody s_law_put) (defScope s_law_put) .none kV7 dc7 pm7 an7 cd7 ct7), sl7⟩) (c7 : PySem.W.codeIn K cd7 "_law_put" = true) (k7 : PySem.W.keepIn K (.ref f7) = true)
    (a8 : PySem.W.nsIn K mainGlobals "_law_term" = some (some (.ref f8))) (l8 : K.lookup f8 = some ⟨oc8, od8, .func (PySem.W.fnOf "_law_term" "_law_term" (defArgs s_law_term) (defBody s_law_term) (defScope s_law_term) .none kV8 dc8 pm8 an8 cd8 ct8), sl8⟩) (c8 : PySem.W.codeIn K cd8 "_law_term" = true) (k8 : PySem.W.keepIn K (.ref f8) = true)
    (a9 : PySem.W.nsIn K mainGlobals "_law_closed_term" = some (some (.ref f9))) (l9 : K.lookup f9 = some ⟨oc9, od9, .func (PySem.W.fnOf "_law_closed_term" "_law_closed_term" (defArgs s_law_closed_term) (defBody s_law_closed_term) (defScope s_law_closed_term) .none kV9 dc9 pm9 an9 cd9 ct9), sl9⟩) (c9 : PySem.W.codeIn K cd9 "_law_closed_term" = true) (k9 : PySem.W.keepIn K (.ref f9) = true)
    (a10 : PySem.W.nsIn K mainGlobals "_law_rich" = some (some (.ref f10))) (l10 : K.lookup f10 = some ⟨oc10, od10, .func (PySem.W.fnOf "_law_rich" "_law_rich" (defArgs s_law_rich) (defBody s_law_rich) (defScope s_law_rich) .none kV10 dc10 pm10 an10 cd10 ct10), sl10⟩) (c10 : PySem.W.codeIn K cd10 "_law_rich" = true) (k10 : PySem.W.keepIn K (.ref f10) = true)
    (a11 : PySem.W.nsIn K mainGlobals "_law_is_large" = some (some (.ref f11))) (l11 : K.lookup f11 = some ⟨oc11, od11, .func (PySem.W.fnOf "_law_is_large" "_law_is_large" (defArgs s_law_is_large) (defBody s_law_is_large) (defScope s_law_is_large) .none kV11 dc11 pm11 an11 cd11 ct11), sl11⟩) (c11 : PySem.W.codeIn K cd11 "_law_is_large" = true) (k11 : PySem.W.keepIn K (.ref f11) = true)
    (a12 : PySem.W.nsIn K mainGlobals "_law_far" = some (some (.ref f12))) (l12 : K.lookup f12 = some ⟨oc12, od12, .func (PySem.W.fnOf "_law_far" "_law_far" (defArgs s_law_far) (defBody s_law_far) (defScope s_law_far) .none kV12 dc12 pm12 an12 cd12 ct12), sl12⟩) (c12 : PySem.W.codeIn K cd12 "_law_far" = true) (k12 : PySem.W.keepIn K (.ref f12) = true)
    (a13 : PySem.W.nsIn K mainGlobals "check_size" = some (some (.ref f13))) (l13 : K.lookup f13 = some ⟨oc13, od13, .func (PySem.W.fnOf "check_size" "check_size" (defArgs s_check_size) (defBody s_check_size) (defScope s_check_size) .none kV13 dc13 pm13 an13 cd13 ct13), sl13⟩) (c13 : PySem.W.codeIn K cd13 "check_size" = true) (k13 : PySem.W.keepIn K (.ref f13) = true)
    (a14 : PySem.W.nsIn K mainGlobals "checked" = some (some (.ref f14))) (l14 : K.lookup f14 = some ⟨oc14, od14, .func (PySem.W.fnOf "checked" "checked" (defArgs s_checked) (defBody s_checked) (defScope s_checked) .none kV14 dc14 pm14 an14 cd14 ct14), sl14⟩) (c14 : PySem.W.codeIn K cd14 "checked" = true) (k14 : PySem.W.keepIn K (.ref f14) = true)
    (a15 : PySem.W.nsIn K mainGlobals "depths" = some (some (.ref f15))) (l15 : K.lookup f15 = some ⟨oc15, od15, .func (PySem.W.fnOf "depths" "depths" (defArgs s_depths) (defBody s_depths) (defScope s_depths) .none kV15 dc15 pm15 an15 cd15 ct15), sl15⟩) (c15 : PySem.W.codeIn K cd15 "depths" = true) (k15 : PySem.W.keepIn K (.ref f15) = true)
    (a16 : PySem.W.nsIn K mainGlobals "stands_free" = some (some (.ref f16))) (l16 : K.lookup f16 = some ⟨oc16, od16, .func (PySem.W.fnOf "stands_free" "stands_free" (defArgs s_stands_free) (defBody s_stands_free) (defScope s_stands_free) .none kV16 dc16 pm16 an16 cd16 ct16), sl16⟩) (c16 : PySem.W.codeIn K cd16 "stands_free" = true) (k16 : PySem.W.keepIn K (.ref f16) = true)
    (a17 : PySem.W.nsIn K mainGlobals "lifted_nodes" = some (some (.ref f17))) (l17 : K.lookup f17 = some ⟨oc17, od17, .func (PySem.W.fnOf "lifted_nodes" "lifted_nodes" (defArgs s_lifted_nodes) (defBody s_lifted_nodes) (defScope s_lifted_nodes) .none kV17 dc17 pm17 an17 cd17 ct17), sl17⟩) (c17 : PySem.W.codeIn K cd17 "lifted_nodes" = true) (k17 : PySem.W.keepIn K (.ref f17) = true)
    (a18 : PySem.W.nsIn K mainGlobals "put" = some (some (.ref f18))) (l18 : K.lookup f18 = some ⟨oc18, od18, .func (PySem.W.fnOf "put" "put" (defArgs s_put) (defBody s_put) (defScope s_put) .none kV18 dc18 pm18 an18 cd18 ct18), sl18⟩) (c18 : PySem.W.codeIn K cd18 "put" = true) (k18 : PySem.W.keepIn K (.ref f18) = true)
    (a19 : PySem.W.nsIn K mainGlobals "is_redex" = some (some (.ref f19))) (l19 : K.lookup f19 = some ⟨oc19, od19, .func (PySem.W.fnOf "is_redex" "is_redex" (defArgs s_is_redex) (defBody s_is_redex) (defScope s_is_redex) .none kV19 dc19 pm19 an19 cd19 ct19), sl19⟩) (c19 : PySem.W.codeIn K cd19 "is_redex" = true) (k19 : PySem.W.keepIn K (.ref f19) = true)
    (a20 : PySem.W.nsIn K mainGlobals "redex_indexes" = some (some (.ref f20))) (l20 : K.lookup f20 = some ⟨oc20, od20, .func (PySem.W.fnOf "redex_indexes" "redex_indexes" (defArgs s_redex_indexes) (defBody s_redex_indexes) (defScope s_redex_indexes) .none kV20 dc20 pm20 an20 cd20 ct20), sl20⟩) (c20 : PySem.W.codeIn K cd20 "redex_indexes" = true) (k20 : PySem.W.keepIn K (.ref f20) = true)
    (a21 : PySem.W.nsIn K mainGlobals "put_origins" = some (some (.ref f21))) (l21 : K.lookup f21 = some ⟨oc21, od21, .func (PySem.W.fnOf "put_origins" "put_origins" (defArgs s_put_origins) (defBody s_put_origins) (defScope s_put_origins) .none kV21 dc21 pm21 an21 cd21 ct21), sl21⟩) (c21 : PySem.W.codeIn K cd21 "put_origins" = true) (k21 : PySem.W.keepIn K (.ref f21) = true)
    (a22 : PySem.W.nsIn K mainGlobals "all_redexes" = some (some (.ref f22))) (l22 : K.lookup f22 = some ⟨oc22, od22, .func (PySem.W.fnOf "all_redexes" "all_redexes" (defArgs s_all_redexes) (defBody s_all_redexes) (defScope s_all_redexes) .none kV22 dc22 pm22 an22 cd22 ct22), sl22⟩) (c22 : PySem.W.codeIn K cd22 "all_redexes" = true) (k22 : PySem.W.keepIn K (.ref f22) = true)
    (a23 : PySem.W.nsIn K mainGlobals "joined" = some (some (.ref f23))) (l23 : K.lookup f23 = some ⟨oc23, od23, .func (PySem.W.fnOf "joined" "joined" (defArgs s_joined) (defBody s_joined) (defScope s_joined) .none kV23 dc23 pm23 an23 cd23 ct23), sl23⟩) (c23 : PySem.W.codeIn K cd23 "joined" = true) (k23 : PySem.W.keepIn K (.ref f23) = true)
    (a24 : PySem.W.nsIn K mainGlobals "contracted" = some (some (.ref f24))) (l24 : K.lookup f24 = some ⟨oc24, od24, .func (PySem.W.fnOf "contracted" "contracted" (defArgs s_contracted) (defBody s_contracted) (defScope s_contracted) .none kV24 dc24 pm24 an24 cd24 ct24), sl24⟩) (c24 : PySem.W.codeIn K cd24 "contracted" = true) (k24 : PySem.W.keepIn K (.ref f24) = true)
    (a25 : PySem.W.nsIn K mainGlobals "reduced" = some (some (.ref f25))) (l25 : K.lookup f25 = some ⟨oc25, od25, .func (PySem.W.fnOf "reduced" "reduced" (defArgs s_reduced) (defBody s_reduced) (defScope s_reduced) .none kV25 dc25 pm25 an25 cd25 ct25), sl25⟩) (c25 : PySem.W.codeIn K cd25 "reduced" = true) (k25 : PySem.W.keepIn K (.ref f25) = true)
    (a26 : PySem.W.nsIn K mainGlobals "develop" = some (some (.ref f26))) (l26 : K.lookup f26 = some ⟨oc26, od26, .func (PySem.W.fnOf "develop" "develop" (defArgs s_develop) (defBody s_develop) (defScope s_develop) .none kV26 dc26 pm26 an26 cd26 ct26), sl26⟩) (c26 : PySem.W.codeIn K cd26 "develop" = true) (k26 : PySem.W.keepIn K (.ref f26) = true)
    (a27 : PySem.W.nsIn K mainGlobals "_law_depth" = some (some (.ref f27))) (l27 : K.lookup f27 = some ⟨oc27, od27, .func (PySem.W.fnOf "_law_depth" "_law_depth" (defArgs s_law_depth) (defBody s_law_depth) (defScope s_law_depth) .none kV27 dc27 pm27 an27 cd27 ct27), sl27⟩) (c27 : PySem.W.codeIn K cd27 "_law_depth" = true) (k27 : PySem.W.keepIn K (.ref f27) = true)
    (a28 : PySem.W.nsIn K mainGlobals "_law_develop" = some (some (.ref f28))) (l28 : K.lookup f28 = some ⟨oc28, od28, .func (PySem.W.fnOf "_law_develop" "_law_develop" (defArgs s_law_develop) (defBody s_law_develop) (defScope s_law_develop) .none kV28 dc28 pm28 an28 cd28 ct28), sl28⟩) (c28 : PySem.W.codeIn K cd28 "_law_develop" = true) (k28 : PySem.W.keepIn K (.ref f28) = true)
    (a29 : PySem.W.nsIn K mainGlobals "_law_developed" = some (some (.ref f29))) (l29 : K.lookup f29 = some ⟨oc29, od29, .func (PySem.W.fnOf "_law_developed" "_law_developed" (defArgs s_law_developed) (defBody s_law_developed) (defScope s_law_developed) .none kV29 dc29 pm29 an29 cd29 ct29), sl29⟩) (c29 : PySem.W.codeIn K cd29 "_law_developed" = true) (k29 : PySem.W.keepIn K (.ref f29) = true)
    (a30 : PySem.W.nsIn K mainGlobals "_law_no_text" = some (some (.ref f30))) (l30 : K.lookup f30 = some ⟨oc30, od30, .func (PySem.W.fnOf "_law_no_text" "_law_no_text" (defArgs s_law_no_text) (defBody s_law_no_text) (defScope s_law_no_text) .none kV30 dc30 pm30 an30 cd30 ct30), sl30⟩) (c30 : PySem.W.codeIn K cd30 "_law_no_text" = true) (k30 : PySem.W.keepIn K (.ref f30) = true)
    (a31 : PySem.W.nsIn K mainGlobals "_law_told" = some (some (.ref f31))) (l31 : K.lookup f31 = some ⟨oc31, od31, .func (PySem.W.fnOf "_law_told" "_law_told" (defArgs s_law_told) (defBody s_law_told) (defScope s_law_told) .none kV31 dc31 pm31 an31 cd31 ct31), sl31⟩) (c31 : PySem.W.codeIn K cd31 "_law_told" = true) (k31 : PySem.W.keepIn K (.ref f31) = true)
    (a32 : PySem.W.nsIn K mainGlobals "law" = some (some (.ref f32))) (l32 : K.lookup f32 = some ⟨oc32, od32, .func (PySem.W.fnOf "law" "law" (defArgs s_law) (defBody s_law) (defScope s_law) .none kV32 dc32 pm32 an32 cd32 ct32), sl32⟩) (c32 : PySem.W.codeIn K cd32 "law" = true) (k32 : PySem.W.keepIn K (.ref f32) = true)
    (z_int : PySem.W.nsIn K mainGlobals "int" = some none)
    (z_list : PySem.W.nsIn K mainGlobals "list" = some none)
    (z_len : PySem.W.nsIn K mainGlobals "len" = some none)
    (z_abs : PySem.W.nsIn K mainGlobals "abs" = some none)
    (z_isinstance : PySem.W.nsIn K mainGlobals "isinstance" = some none)
    (z_tuple : PySem.W.nsIn K mainGlobals "tuple" = some none)
    (z_range : PySem.W.nsIn K mainGlobals "range" = some none)
    (z_zip : PySem.W.nsIn K mainGlobals "zip" = some none)
    (z_reversed : PySem.W.nsIn K mainGlobals "reversed" = some none)
    (z_str : PySem.W.nsIn K mainGlobals "str" = some none)
    (z_max : PySem.W.nsIn K mainGlobals "max" = some none)
    (z_enumerate : PySem.W.nsIn K mainGlobals "enumerate" = some none)
    (z_ValueError : PySem.W.nsIn K mainGlobals "ValueError" = some none)
    (g_MOST_NODES : PySem.W.nsIn K mainGlobals "MOST_NODES" = some (some (.int 1000 t0)))
    (g_MOST_VARIABLE : PySem.W.nsIn K mainGlobals "MOST_VARIABLE" = some (some (.int 1000000 t1)))
    (e_LyditeError : PySem.W.nsIn K mainGlobals "LyditeError" = some (some (.ref cc0)))
    (e_TooLarge : PySem.W.nsIn K mainGlobals "TooLarge" = some (some (.ref cc1)))
    (y_t_LyditeError : PySem.W.typeIn K (.ref cc0) = some (.type "type"))
    (y_h3_LyditeError : PySem.W.hasDictIn K cc0 = true)
    (y_x_TooLarge : PySem.W.excIn K cc1 [.type "ValueError", .type "Exception", .type "BaseException", .type "object"] "ValueError.__new__" = true)
    (y_k_TooLarge : PySem.W.keepIn K (.ref cc1) = true)
    (y_b_TooLarge : PySem.W.subIn K (.ref cc1) (.type "BaseException") = some true)
    (y_t_TooLarge : PySem.W.typeIn K (.ref cc1) = some (.type "type"))
    (y_s0_TooLarge : PySem.W.subIn K (.ref cc1) (.ref cc0) = some true)
    (y_sv_TooLarge : PySem.W.subIn K (.ref cc1) (.type "ValueError") = some true)
    (y_s1_TooLarge : PySem.W.subIn K (.ref cc1) (.ref cc1) = some true)
    (y_h1_TooLarge : PySem.W.findIn K (.ref cc1) "__getattribute__" = some (some (.builtin "BaseException.__getattribute__")))
    (y_h2_TooLarge : PySem.W.findIn K (.ref cc1) "__getattr__" = some none)
    (y_h3_TooLarge : PySem.W.hasDictIn K cc1 = true)
    (y_h4_TooLarge : PySem.W.findIn K (.ref cc1) "__class__" = some (some (.builtin "object.__class__")))
    (y_h7_TooLarge : PySem.W.mroIn K cc1 (.type "object") = some true)
    (y_h5_TooLarge : PySem.W.specialIn K (.builtin "object.__class__") "__get__" = some (some (.builtin "getset_descriptor.__get__")))
    (y_h6_TooLarge : PySem.W.takesIn K (.builtin "object.__class__") = some true)
    : ∃ fd : FuncData, (∀ (s : Shared) (v : Value), BindsTo s fd ⟨[v], []⟩ [("script", v)]) ∧ ∀ base : Heap, K.In base → base.Ns mainGlobals mg → FnOk l.prog w K mg base CX0 160 fa fd ["script"] (spLaw K) := by
  have e := hfa.symm.trans (PySem.W.mg_of X G a32)
  cases e
  have T : Txt w K mg (fun n => match n with | 0 => t0 | _ => t1) (fun n => match n with | 0 => cc0 | _ => cc1) := ⟨PySem.W.mg_none_of X G z_int, PySem.W.mg_none_of X G z_list, PySem.W.mg_none_of X G z_len, PySem.W.mg_none_of X G z_abs, PySem.W.mg_none_of X G z_isinstance, PySem.W.mg_none_of X G z_tuple, PySem.W.mg_none_of X G z_range, PySem.W.mg_none_of X G z_zip, PySem.W.mg_none_of X G z_reversed, PySem.W.mg_none_of X G z_str, PySem.W.mg_none_of X G z_max, PySem.W.mg_none_of X G z_enumerate, PySem.W.mg_of X G g_MOST_NODES, PySem.W.mg_of X G g_MOST_VARIABLE, PySem.W.mg_none_of X G z_ValueError, PySem.W.mg_of X G e_LyditeError, y_t_LyditeError, y_h3_LyditeError, PySem.W.mg_of X G e_TooLarge, y_x_TooLarge, y_k_TooLarge, y_b_TooLarge, y_t_TooLarge, y_s0_TooLarge, y_sv_TooLarge, y_s1_TooLarge, y_h1_TooLarge, y_h2_TooLarge, y_h3_TooLarge, y_h4_TooLarge, y_h7_TooLarge, y_h5_TooLarge, y_h6_TooLarge⟩
  exact ⟨PySem.W.fnOf "law" "law" (defArgs s_law) (defBody s_law) (defScope s_law) .none kV32 dc32 pm32 an32 cd32 ct32, fun s v => .of_eq rfl, fun base _ _ => by
    have F1 := fun_mk (st := s_law_draw) l1 c1 k1
    have D1 := Def.of (P := l.prog) (w := w) (base := base) (k := 1) (PySem.W.mg_of X G a1) k1 (F1.binds (ps := ["stream", "many"]) fun _ _ _ _ _ _ us hl => match us, hl with | [_, _], _ => rfl) (ok_draw F1 T)
    have F2 := fun_mk (st := s_law_stream) l2 c2 k2
    have D2 := Def.of (P := l.prog) (w := w) (base := base) (k := 1) (PySem.W.mg_of X G a2) k2 (F2.binds (ps := ["script"]) fun _ _ _ _ _ _ us hl => match us, hl with | [_], _ => rfl) (ok_stream F2 T)
    have F3 := fun_mk (st := s_law_is_lam) l3 c3 k3
    have D3 := Def.of (P := l.prog) (w := w) (base := base) (k := 1) (PySem.W.mg_of X G a3) k3 (F3.binds (ps := ["node"]) fun _ _ _ _ _ _ us hl => match us, hl with | [_], _ => rfl) (ok_islam F3 T)
    have F4 := fun_mk (st := s_law_end) l4 c4 k4
    have D4 := Def.of (P := l.prog) (w := w) (base := base) (k := 2) (PySem.W.mg_of X G a4) k4 (F4.binds (ps := ["term", "at"]) fun _ _ _ _ _ _ us hl => match us, hl with | [_, _], _ => rfl) (ok_send F4 T D3)
    have F5 := fun_mk (st := s_law_depths) l5 c5 k5
    have D5 := Def.of (P := l.prog) (w := w) (base := base) (k := 2) (PySem.W.mg_of X G a5) k5 (F5.binds (ps := ["term"]) fun _ _ _ _ _ _ us hl => match us, hl with | [_], _ => rfl) (ok_sdepths F5 T D3)
    have F6 := fun_mk (st := s_law_lift) l6 c6 k6
    have D6 := Def.of (P := l.prog) (w := w) (base := base) (k := 3) (PySem.W.mg_of X G a6) k6 (F6.binds (ps := ["term", "count"]) fun _ _ _ _ _ _ us hl => match us, hl with | [_, _], _ => rfl) (ok_slift F6 T D5)
    have F7 := fun_mk (st := s_law_put) l7 c7 k7
    have D7 := Def.of (P := l.prog) (w := w) (base := base) (k := 4) (PySem.W.mg_of X G a7) k7 (F7.binds (ps := ["term", "value"]) fun _ _ _ _ _ _ us hl => match us, hl with | [_, _], _ => rfl) (ok_sput F7 T D5 D6)
    have F8 := fun_mk (st := s_law_term) l8 c8 k8
    have D8 := Def.of (P := l.prog) (w := w) (base := base) (k := 14) (PySem.W.mg_of X G a8) k8 (F8.binds (ps := ["stream", "size", "depth"]) fun _ _ _ _ _ _ us hl => match us, hl with | [_, _, _], _ => rfl) (ok_sterm F8 T D1 (PySem.W.mg_of X G a8) k8 (F8.binds (ps := ["stream", "size", "depth"]) fun _ _ _ _ _ _ us hl => match us, hl with | [_, _, _], _ => rfl) 13)
    have F9 := fun_mk (st := s_law_closed_term) l9 c9 k9
    have D9 := Def.of (P := l.prog) (w := w) (base := base) (k := 2) (PySem.W.mg_of X G a9) k9 (F9.binds (ps := ["stream"]) fun _ _ _ _ _ _ us hl => match us, hl with | [_], _ => rfl) (ok_closed F9 T D1)
    have F10 := fun_mk (st := s_law_rich) l10 c10 k10
    have D10 := Def.of (P := l.prog) (w := w) (base := base) (k := 25) (PySem.W.mg_of X G a10) k10 (F10.binds (ps := ["stream", "size"]) fun _ _ _ _ _ _ us hl => match us, hl with | [_, _], _ => rfl) (ok_rich F10 T D1 D9 D8 (PySem.W.mg_of X G a10) k10 (F10.binds (ps := ["stream", "size"]) fun _ _ _ _ _ _ us hl => match us, hl with | [_, _], _ => rfl) 10)
    have F11 := fun_mk (st := s_law_is_large) l11 c11 k11
    have D11 := Def.of (P := l.prog) (w := w) (base := base) (k := 1) (PySem.W.mg_of X G a11) k11 (F11.binds (ps := ["term"]) fun _ _ _ _ _ _ us hl => match us, hl with | [_], _ => rfl) (ok_large F11 T)
    have F12 := fun_mk (st := s_law_far) l12 c12 k12
    have D12 := Def.of (P := l.prog) (w := w) (base := base) (k := 3) (PySem.W.mg_of X G a12) k12 (F12.binds (ps := ["stream", "term"]) fun _ _ _ _ _ _ us hl => match us, hl with | [_, _], _ => rfl) (ok_far F12 T D1 D5)
    have F13 := fun_mk (st := s_check_size) l13 c13 k13
    have D13 := Def.of (P := l.prog) (w := w) (base := base) (k := 1) (PySem.W.mg_of X G a13) k13 (F13.binds (ps := ["size"]) fun _ _ _ _ _ _ us hl => match us, hl with | [_], _ => rfl) (ok_check_size F13 T)
    have F14 := fun_mk (st := s_checked) l14 c14 k14
    have D14 := Def.of (P := l.prog) (w := w) (base := base) (k := 2) (PySem.W.mg_of X G a14) k14 (F14.binds (ps := ["term"]) fun _ _ _ _ _ _ us hl => match us, hl with | [_], _ => rfl) (ok_checked F14 T D13)
    have F15 := fun_mk (st := s_depths) l15 c15 k15
    have D15 := Def.of (P := l.prog) (w := w) (base := base) (k := 1) (PySem.W.mg_of X G a15) k15 (F15.binds (ps := ["term"]) fun _ _ _ _ _ _ us hl => match us, hl with | [_], _ => rfl) (ok_depths F15 T)
    have F16 := fun_mk (st := s_stands_free) l16 c16 k16
    have D16 := Def.of (P := l.prog) (w := w) (base := base) (k := 1) (PySem.W.mg_of X G a16) k16 (F16.binds (ps := ["node", "depth"]) fun _ _ _ _ _ _ us hl => match us, hl with | [_, _], _ => rfl) (ok_stands_free F16 T)
    have F17 := fun_mk (st := s_lifted_nodes) l17 c17 k17
    have D17 := Def.of (P := l.prog) (w := w) (base := base) (k := 2) (PySem.W.mg_of X G a17) k17 (F17.binds (ps := ["term", "count"]) fun _ _ _ _ _ _ us hl => match us, hl with | [_, _], _ => rfl) (ok_lifted F17 T D15 D16)
    have F18 := fun_mk (st := s_put) l18 c18 k18
    have D18 := Def.of (P := l.prog) (w := w) (base := base) (k := 3) (PySem.W.mg_of X G a18) k18 (F18.binds (ps := ["term", "value"]) fun _ _ _ _ _ _ us hl => match us, hl with | [_, _], _ => rfl) (ok_put F18 T D15 D16 D17 D13 D14)
    have F19 := fun_mk (st := s_is_redex) l19 c19 k19
    have D19 := Def.of (P := l.prog) (w := w) (base := base) (k := 1) (PySem.W.mg_of X G a19) k19 (F19.binds (ps := ["term", "at"]) fun _ _ _ _ _ _ us hl => match us, hl with | [_, _], _ => rfl) (ok_is_redex F19 T)
    have F20 := fun_mk (st := s_redex_indexes) l20 c20 k20
    have D20 := Def.of (P := l.prog) (w := w) (base := base) (k := 2) (PySem.W.mg_of X G a20) k20 (F20.binds (ps := ["term"]) fun _ _ _ _ _ _ us hl => match us, hl with | [_], _ => rfl) (ok_redix F20 T D19)
    have F21 := fun_mk (st := s_put_origins) l21 c21 k21
    have D21 := Def.of (P := l.prog) (w := w) (base := base) (k := 2) (PySem.W.mg_of X G a21) k21 (F21.binds (ps := ["term", "value"]) fun _ _ _ _ _ _ us hl => match us, hl with | [_, _], _ => rfl) (ok_puto F21 T D15)
    have F22 := fun_mk (st := s_all_redexes) l22 c22 k22
    have D22 := Def.of (P := l.prog) (w := w) (base := base) (k := 3) (PySem.W.mg_of X G a22) k22 (F22.binds (ps := ["term"]) fun _ _ _ _ _ _ us hl => match us, hl with | [_], _ => rfl) (ok_allred F22 T D20)
    have F23 := fun_mk (st := s_joined) l23 c23 k23
    have D23 := Def.of (P := l.prog) (w := w) (base := base) (k := 2) (PySem.W.mg_of X G a23) k23 (F23.binds (ps := ["head", "parts"]) fun _ _ _ _ _ _ us hl => match us, hl with | [_, _], _ => rfl) (ok_djoined F23 T D13)
    have F24 := fun_mk (st := s_contracted) l24 c24 k24
    have D24 := Def.of (P := l.prog) (w := w) (base := base) (k := 4) (PySem.W.mg_of X G a24) k24 (F24.binds (ps := ["function", "argument"]) fun _ _ _ _ _ _ us hl => match us, hl with | [_, _], _ => rfl) (ok_contr F24 T D18 D21)
    have F25 := fun_mk (st := s_reduced) l25 c25 k25
    have D25 := Def.of (P := l.prog) (w := w) (base := base) (k := 5) (PySem.W.mg_of X G a25) k25 (F25.binds (ps := ["term", "chosen"]) fun _ _ _ _ _ _ us hl => match us, hl with | [_, _], _ => rfl) (ok_reduced F25 T D24 D23 D14)
    have F26 := fun_mk (st := s_develop) l26 c26 k26
    have D26 := Def.of (P := l.prog) (w := w) (base := base) (k := 6) (PySem.W.mg_of X G a26) k26 (F26.binds (ps := ["term", "times"]) fun _ _ _ _ _ _ us hl => match us, hl with | [_, _], _ => rfl) (ok_develop F26 T D25 D22 D14)
    have F27 := fun_mk (st := s_law_depth) l27 c27 k27
    have D27 := Def.of (P := l.prog) (w := w) (base := base) (k := 2) (PySem.W.mg_of X G a27) k27 (F27.binds (ps := ["term"]) fun _ _ _ _ _ _ us hl => match us, hl with | [_], _ => rfl) (ok_ldepth24 F27 T D3)
    have F28 := fun_mk (st := s_law_develop) l28 c28 k28
    have D28 := Def.of (P := l.prog) (w := w) (base := base) (k := 155) (PySem.W.mg_of X G a28) k28 (F28.binds (ps := ["term"]) fun _ _ _ _ _ _ us hl => match us, hl with | [_], _ => rfl) (ok_ldev F28 T D3 D4 D7 D11 (PySem.W.mg_of X G a28) k28 (F28.binds (ps := ["term"]) fun _ _ _ _ _ _ us hl => match us, hl with | [_], _ => rfl) 400)
    have F29 := fun_mk (st := s_law_developed) l29 c29 k29
    have D29 := Def.of (P := l.prog) (w := w) (base := base) (k := 156) (PySem.W.mg_of X G a29) k29 (F29.binds (ps := ["term", "times"]) fun _ _ _ _ _ _ us hl => match us, hl with | [_, _], _ => rfl) (ok_ldevd F29 T D27 D28)
    have F30 := fun_mk (st := s_law_no_text) l30 c30 k30
    have D30 := Def.of (P := l.prog) (w := w) (base := base) (k := 1) (PySem.W.mg_of X G a30) k30 (F30.binds (ps := ["value"]) fun _ _ _ _ _ _ us hl => match us, hl with | [_], _ => rfl) (ok_notext F30 T)
    have F31 := fun_mk (st := s_law_told) l31 c31 k31
    have D31 := Def.of (P := l.prog) (w := w) (base := base) (k := 7) (PySem.W.mg_of X G a31) k31 (F31.binds (ps := ["term", "times"]) fun _ _ _ _ _ _ us hl => match us, hl with | [_, _], _ => rfl) (ok_told F31 T D26 D30)
    have F32 := fun_mk (st := s_law) l32 c32 k32
    exact ok_law F32 T D2 D1 D10 D12 D29 D31⟩
theorem walk {l : PySem.W.OpenLaw} {q : Program} {loose : List Str} {XP : (Str → Option Value) → Heap → Prop} {YP : World → Heap → Prop} {d : DefRec} {K : Params → PySem.W.Frag} (hn : l.most = some 63) (hdf : d.params.defaults = [])
    (hY : ∀ (w : World) (h : Heap), YP w h → (K w.params).In h)
    (F : ∀ (w : World) (mg : Str → Option Value) (fa : Addr) (h : Heap), (K w.params).In h → h.Ns mainGlobals mg → mg d.name = some (.ref fa) →
      ∃ fd : FuncData, (∀ (s : Shared) (u : Value), BindsTo s fd ⟨[u], []⟩ [("script", u)]) ∧ ∀ base : Heap, (K w.params).In base → base.Ns mainGlobals mg → FnOk l.prog w (K w.params) mg base CX0 160 fa fd ["script"] (spLaw (K w.params))) :
    PySem.W.WalkO q loose XP YP l.row.toRowW d [] (fun f vs => PySem.call f vs) :=
  L2.walk_of (n := 63) (k := 160) (x := "script") (CX := fun _ => CX0) (sp := fun w => spLaw (K w.params)) hn (by decide) hdf ⟨rfl, by decide, by decide⟩ hY F (fun _ _ a ns hl _ hS => ⟨a, ns, rfl, hS, hl, fun _ => rfl⟩) fun _ _ _ _ _ z => z
end Ly
open PySem PySem.W PyProof.Rows in
set_option maxRecDepth 100000 in
set_option maxHeartbeats 0 in
theorem PySem.Challenge.cw_lydite_k24_developments_holds : PySem.Challenge.rw_lydite_k24_developments.Holds := by
  w_on; o_law; k_head; (case hw => w_witness2)
  k_fill
  refine Ly.walk (l := PySem.Challenge.rw_lydite_k24_developments) rfl rfl (fun w h Y => PySem.W.kIn_of Y) ?F
  case F =>
    intro w mg fa h KX G hmg
    refine' Ly.all_mk KX G hmg ?a1 ?l1 ?c1 ?k1 ?a2 ?l2 ?c2 ?k2 ?a3 ?l3 ?c3 ?k3 ?a4 ?l4 ?c4 ?k4 ?a5 ?l5 ?c5 ?k5 ?a6 ?l6 ?c6 ?k6 ?a7 ?l7 ?c7 ?k7 ?a8 ?l8 ?c8 ?k8 ?a9 ?l9 ?c9 ?k9 ?a10 ?l10 ?c10 ?k10 ?a11 ?l11 ?c11 ?k11 ?a12 ?l12 ?c12 ?k12 ?a13 ?l13 ?c13 ?k13 ?a14 ?l14 ?c14 ?k14 ?a15 ?l15 ?c15 ?k15 ?a16 ?l16 ?c16 ?k16 ?a17 ?l17 ?c17 ?k17 ?a18 ?l18 ?c18 ?k18 ?a19 ?l19 ?c19 ?k19 ?a20 ?l20 ?c20 ?k20 ?a21 ?l21 ?c21 ?k21 ?a22 ?l22 ?c22 ?k22 ?a23 ?l23 ?c23 ?k23 ?a24 ?l24 ?c24 ?k24 ?a25 ?l25 ?c25 ?k25 ?a26 ?l26 ?c26 ?k26 ?a27 ?l27 ?c27 ?k27 ?a28 ?l28 ?c28 ?k28 ?a29 ?l29 ?c29 ?k29 ?a30 ?l30 ?c30 ?k30 ?a31 ?l31 ?c31 ?k31 ?a32 ?l32 ?c32 ?k32 ?z_int ?z_list ?z_len ?z_abs ?z_isinstance ?z_tuple ?z_range ?z_zip ?z_reversed ?z_str ?z_max ?z_enumerate ?z_ValueError ?g_MOST_NODES ?g_MOST_VARIABLE ?e_LyditeError ?e_TooLarge ?y_t_LyditeError ?y_h3_LyditeError ?y_x_TooLarge ?y_k_TooLarge ?y_b_TooLarge ?y_t_TooLarge ?y_s0_TooLarge ?y_sv_TooLarge ?y_s1_TooLarge ?y_h1_TooLarge ?y_h2_TooLarge ?y_h3_TooLarge ?y_h4_TooLarge ?y_h7_TooLarge ?y_h5_TooLarge ?y_h6_TooLarge
    (case e_LyditeError => k_is)
    (case e_TooLarge => k_is)
    (case a1 => k_is)
    (case l1 => k_is)
    (case c1 => k_is)
    (case k1 => k_is)
    (case a2 => k_is)
    (case l2 => k_is)
    (case c2 => k_is)
    (case k2 => k_is)
    (case a3 => k_is)
    (case l3 => k_is)
    (case c3 => k_is)
    (case k3 => k_is)
    (case a4 => k_is)
    (case l4 => k_is)
    (case c4 => k_is)
    (case k4 => k_is)
    (case a5 => k_is)
    (case l5 => k_is)
    (case c5 => k_is)
    (case k5 => k_is)
    (case a6 => k_is)
    (case l6 => k_is)
    (case c6 => k_is)
    (case k6 => k_is)
    (case a7 => k_is)
    (case l7 => k_is)
    (case c7 => k_is)
    (case k7 => k_is)
    (case a8 => k_is)
    (case l8 => k_is)
    (case c8 => k_is)
    (case k8 => k_is)
    (case a9 => k_is)
    (case l9 => k_is)
    (case c9 => k_is)
    (case k9 => k_is)
    (case a10 => k_is)
    (case l10 => k_is)
    (case c10 => k_is)
    (case k10 => k_is)
    (case a11 => k_is)
    (case l11 => k_is)
    (case c11 => k_is)
    (case k11 => k_is)
    (case a12 => k_is)
    (case l12 => k_is)
    (case c12 => k_is)
    (case k12 => k_is)
    (case a13 => k_is)
    (case l13 => k_is)
    (case c13 => k_is)
    (case k13 => k_is)
    (case a14 => k_is)
    (case l14 => k_is)
    (case c14 => k_is)
    (case k14 => k_is)
    (case a15 => k_is)
    (case l15 => k_is)
    (case c15 => k_is)
    (case k15 => k_is)
    (case a16 => k_is)
    (case l16 => k_is)
    (case c16 => k_is)
    (case k16 => k_is)
    (case a17 => k_is)
    (case l17 => k_is)
    (case c17 => k_is)
    (case k17 => k_is)
    (case a18 => k_is)
    (case l18 => k_is)
    (case c18 => k_is)
    (case k18 => k_is)
    (case a19 => k_is)
    (case l19 => k_is)
    (case c19 => k_is)
    (case k19 => k_is)
    (case a20 => k_is)
    (case l20 => k_is)
    (case c20 => k_is)
    (case k20 => k_is)
    (case a21 => k_is)
    (case l21 => k_is)
    (case c21 => k_is)
    (case k21 => k_is)
    (case a22 => k_is)
    (case l22 => k_is)
    (case c22 => k_is)
    (case k22 => k_is)
    (case a23 => k_is)
    (case l23 => k_is)
    (case c23 => k_is)
    (case k23 => k_is)
    (case a24 => k_is)
    (case l24 => k_is)
    (case c24 => k_is)
    (case k24 => k_is)
    (case a25 => k_is)
    (case l25 => k_is)
    (case c25 => k_is)
    (case k25 => k_is)
    (case a26 => k_is)
    (case l26 => k_is)
    (case c26 => k_is)
    (case k26 => k_is)
    (case a27 => k_is)
    (case l27 => k_is)
    (case c27 => k_is)
    (case k27 => k_is)
    (case a28 => k_is)
    (case l28 => k_is)
    (case c28 => k_is)
    (case k28 => k_is)
    (case a29 => k_is)
    (case l29 => k_is)
    (case c29 => k_is)
    (case k29 => k_is)
    (case a30 => k_is)
    (case l30 => k_is)
    (case c30 => k_is)
    (case k30 => k_is)
    (case a31 => k_is)
    (case l31 => k_is)
    (case c31 => k_is)
    (case k31 => k_is)
    (case a32 => k_is)
    (case l32 => k_is)
    (case c32 => k_is)
    (case k32 => k_is)
    (case z_int => k_is)
    (case z_list => k_is)
    (case z_len => k_is)
    (case z_abs => k_is)
    (case z_isinstance => k_is)
    (case z_tuple => k_is)
    (case z_range => k_is)
    (case z_zip => k_is)
    (case z_reversed => k_is)
    (case z_str => k_is)
    (case z_max => k_is)
    (case z_enumerate => k_is)
    (case z_ValueError => k_is)
    (case g_MOST_NODES => k_is)
    (case g_MOST_VARIABLE => k_is)
    (case y_t_LyditeError => k_is)
    (case y_h3_LyditeError => k_is)
    (case y_x_TooLarge => k_exc)
    (case y_k_TooLarge => k_is)
    (case y_b_TooLarge => k_is)
    (case y_t_TooLarge => k_is)
    (case y_s0_TooLarge => k_is)
    (case y_sv_TooLarge => k_is)
    (case y_s1_TooLarge => k_is)
    (case y_h1_TooLarge => k_is)
    (case y_h2_TooLarge => k_is)
    (case y_h3_TooLarge => k_is)
    (case y_h4_TooLarge => k_is)
    (case y_h7_TooLarge => k_is)
    (case y_h5_TooLarge => k_is)
    (case y_h6_TooLarge => k_is)
