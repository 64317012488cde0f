import PyProof.Rows.All
import Wide.All
import OpenK.AllK
import Wide.FinOn
import HandS.ForMost
import HandS.IsInst
import HandS.Style
import HandS.Walk
import HandS.TupMul
import HandS.TupAny
import HandS.Evl
import HandS.Strs
import HandS.SortInts
import PyProof.P3Eq
import HandS.ForExc
import HandS.ExcIs
import HandS.FStr
import HandS.RaiseMore
import KE.GoesMore
import KE.GoesEnum
import HandS.Rev
import HandS.Dict
import HandS.More
import HandS.Iter
import HandS.CallLocal
import HandS.Comp
import HandS.HotCalls
import HandS.ExcCtx
import HandS.SuiteRaise
import HandS.WordsExc
import HandS.Conv
import HandS.SetKeys
import PySem.Challenge.RW_lydite_k70_renamed_and_instances
import HandS.Codes
import HandS.RevTup
set_option Elab.async false
set_option linter.all false
set_option maxRecDepth 100000
/-! Ly: one rule a reading, and three small searchers (heap, apartness, frame). -/
namespace Ly
open PySem PySem.Spec PyProof.Rows L2 Evl

section
variable {K : PySem.W.Frag} {σ : L2.St} {H H' H0 : Hp} {Q : VK} {D : Ends} {ta tb tc te to : TE} {tA : TA} {t u : TT} {s1 s2 : TS} {g : TG}
theorem w_var {i : Nat} {v : V} (h : σ[i]? = some (some v)) (q : Q v H) : tVar i σ H Q := ⟨v, h, q⟩
theorem w_c {v : V} (q : Q v H) : tC v σ H Q := q
theorem w_op {r : R2} (h : ta σ H fun x H1 => tb σ H1 fun y H2 => r x y H2 Q) : tOp r ta tb σ H Q := h
theorem w_un {r : V → Hp → VK → Prop} (h : ta σ H fun x H1 => r x H1 Q) : tUn r ta σ H Q := h
theorem w_I0 {f : Int → Int → V} {i j : Int} (q : Q (f i j) H) : rI0 f (.int i) (.int j) H Q := ⟨i, j, rfl, rfl, q⟩
theorem w_I {C : Int → Int → Prop} {f : Int → Int → V} {i j : Int} (c : C i j) (q : Q (f i j) H) : rI C f (.int i) (.int j) H Q := ⟨i, j, rfl, rfl, c, q⟩
theorem w_U {f : Int → V} {i : Int} (q : Q (f i) H) : rU f (.int i) H Q := ⟨i, rfl, q⟩
theorem w_eq {x y : V} (s : scal x y = true) (q : Q (.bl (decide (x = y))) H) : rEq x y H Q := ⟨s, q⟩
theorem w_ne {x y : V} (s : scal x y = true) (q : Q (.bl (!decide (x = y))) H) : rNe x y H Q := ⟨s, q⟩
theorem w_isB {a b : Bool} (q : Q (.bl (decide (a = b))) H) : rIsB (.bl a) (.bl b) H Q := ⟨a, b, rfl, rfl, q⟩
theorem w_notB {a b : Bool} (q : Q (.bl (!decide (a = b))) H) : rNotB (.bl a) (.bl b) H Q := ⟨a, b, rfl, rfl, q⟩
theorem w_nil {R : List V → Hp → Prop} (q : R [] H) : tNil σ H R := q
theorem w_cons {R : List V → Hp → Prop} {tr : TA} (h : ta σ H fun x H1 => tr σ H1 fun xs H2 => R (x :: xs) H2) : tCons ta tr σ H R := h
theorem w_tup (h : tA σ H fun xs H1 => xs.length ≤ sizeLine ∧ ∀ p, H1 p = none → Q (.ref p) (upd H1 p (.tup xs))) : tTup tA σ H Q := h
theorem w_lst (h : tA σ H fun xs H1 => xs.length ≤ sizeLine ∧ ∀ p, H1 p = none → Q (.ref p) (upd H1 p (.lst xs))) : tLst tA σ H Q := h
theorem w_cb {r : List V → Hp → VK → Prop} (h : tA σ H fun vs H1 => r vs H1 Q) : tCB r tA σ H Q := h
theorem w_call {sp : Sp} {dvs : List V} {E : XK} (h : tA σ H fun vs H1 => sp (vs ++ dvs) H1 Q E) : tCall sp dvs E tA σ H Q := h
theorem w_isi {x : V} {n : String} {t : Value} {b : Bool} (h : TyX K H x t) (k : PySem.W.kitOne K t (.type n) = some b) (q : Q (.bl b) H) : rIsi K [x, .ty n] H Q :=
  ⟨x, .ty n, t, .type n, b, rfl, .ty n, h, k, q⟩
theorem w_bm {T : String} {r : V → List V → Hp → VK → Prop} (h : to σ H fun x H1 => tyV K T x H1 ∧ tA σ H1 fun xs H2 => r x xs H2 Q) : tBM K T r to tA σ H Q := h
theorem w_bm0 {T : String} {r : V → List V → Hp → VK → Prop} (h : to σ H fun x H1 => tyV K T x H1 ∧ r x [] H1 Q) : tBM0 K T r to σ H Q := h
theorem w_app {l : Addr} {xs : List V} {y : V} (h : H l = some (.lst xs)) (z : xs.length < sizeLine) (q : Q .non (upd H l (.lst (xs ++ [y])))) : rAppend (.ref l) [y] H Q := ⟨l, xs, y, rfl, rfl, h, z, q⟩
theorem w_pop {l : Addr} {xs : List V} {y : V} (h : H l = some (.lst xs)) (z : xs[xs.length - 1]? = some y) (q : Q y (upd H l (.lst xs.dropLast))) : rPop (.ref l) [] H Q := ⟨l, xs, y, rfl, rfl, h, z, q⟩
theorem w_popA {l : Addr} {xs : List V} {y : V} (h : H l = some (.lst (xs ++ [y]))) (q : Q y (upd H l (.lst xs))) : rPop (.ref l) [] H Q :=
  ⟨l, xs ++ [y], y, rfl, rfl, h, by simp, by rw [List.dropLast_concat]; exact q⟩
theorem w_sadd {w : World} {a : Addr} {k : Int} {S : Int → Bool} {n : Nat} (h : H a = some (SetO w a S n)) (r : n + 1 < 4096) (q : Q .non (upd H a (SetO w a (fun j => S j || decide (j = k)) (if S k = true then n else n + 1)))) : rSAdd w (.ref a) [.int k] H Q := ⟨a, k, S, n, rfl, rfl, h, r, q⟩
theorem w_tsadd {w : World} (h : ta σ H fun x H1 => (∃ a S n, x = V.ref a ∧ H1 a = some (SetO w a S n)) ∧ tA σ H1 fun xs H2 => rSAdd w x xs H2 Q) : tSAdd w ta tA σ H Q := h
theorem w_tsadd1 {w : World} {a : Addr} {S : Int → Bool} {n : Nat} {B : Prop} (h : H a = some (SetO w a S n)) (q : B) : (∃ b S' n', V.ref a = V.ref b ∧ H b = some (SetO w b S' n')) ∧ B := ⟨⟨a, S, n, rfl, h⟩, q⟩
theorem w_ext {l b : Addr} {xs zs : List V} (h : H l = some (.lst xs)) (h2 : H b = some (.lst zs)) (z : xs.length + zs.length ≤ sizeLine) (q : Q .non (upd H l (.lst (xs ++ zs)))) : rExtend (.ref l) [.ref b] H Q := ⟨l, b, xs, zs, rfl, rfl, h, h2, z, q⟩
theorem w_ixL {p : Addr} {xs : List V} {i : Int} {v : V} (h : SqL K H p xs) (a : atI xs i = some v) (q : Q v H) : rIxL K (.ref p) (.int i) H Q := ⟨p, xs, i, v, rfl, rfl, h, a, q⟩
theorem w_ixT {p : Addr} {xs : List V} {i : Int} {v : V} (h : SqT K H p xs) (a : atI xs i = some v) (q : Q v H) : rIxT K (.ref p) (.int i) H Q := ⟨p, xs, i, v, rfl, rfl, h, a, q⟩
theorem w_cat {a b : Addr} {xs ys : List V} (h : H a = some (.lst xs)) (h2 : H b = some (.lst ys)) (z : xs.length + ys.length ≤ sizeLine) (q : ∀ p, H p = none → Q (.ref p) (upd H p (.lst (xs ++ ys)))) : rCat (.ref a) (.ref b) H Q := ⟨a, b, xs, ys, rfl, rfl, h, h2, z, q⟩
theorem w_test {R : Bool → Hp → Prop} (h : te σ H fun x H1 => ∃ k, x = .bl k ∧ R k H1) : tTest te σ H R := h
theorem w_tB {R : Bool → Hp → Prop} (h : te σ H fun x H1 => ∃ k, x = .bl k ∧ R k H1) : tB te σ H R := h
theorem w_bl {A : Bool → Prop} {k : Bool} (h : A k) : ∃ c, V.bl k = .bl c ∧ A c := ⟨k, rfl, h⟩
theorem w_and {R : Bool → Hp → Prop} (h : t σ H fun c H1 => if c = true then u σ H1 R else R false H1) : tAnd t u σ H R := h
theorem w_or {R : Bool → Hp → Prop} (h : t σ H fun c H1 => if c = true then R true H1 else u σ H1 R) : tOr t u σ H R := h
theorem w_not {R : Bool → Hp → Prop} (h : t σ H fun c H1 => R (!c) H1) : tNot t σ H R := h
theorem w_andV (h : ta σ H fun x H1 => ∃ c, x = .bl c ∧ if c = true then tb σ H1 Q else Q (.bl false) H1) : tAndV ta tb σ H Q := h
theorem w_orV (h : ta σ H fun x H1 => ∃ c, x = .bl c ∧ if c = true then Q (.bl true) H1 else tb σ H1 Q) : tOrV ta tb σ H Q := h
theorem w_notV (h : ta σ H fun x H1 => ∃ c, x = .bl c ∧ Q (.bl (!c)) H1) : tNotV ta σ H Q := h
theorem w_ifE (h : t σ H fun c H1 => if c = true then ta σ H1 Q else tb σ H1 Q) : tIf t ta tb σ H Q := h
theorem w_ch {r r' : R2} (h : ta σ H fun x H1 => tb σ H1 fun y H2 => r x y H2 fun z H3 => ∃ k, z = .bl k ∧ (if k = true then tc σ H3 fun w' H4 => r' y w' H4 Q else Q (.bl false) H3)) : tChain r r' ta tb tc σ H Q := h
-- statements
theorem sl_of {t : TS} {D : Ends} {σ σ2 : L2.St} {H : Hp} (e : σ = σ2) (h : t D σ2 H) : t D σ H := by
  rw [e]
  exact h
theorem w_seq (h : s1 { D with nx := s2 D } σ H) : tSeq s1 s2 D σ H := h
theorem w_cut {M : L2.St → Hp → Prop} (h : s1 { D with nx := M } σ H) (q : ∀ σ' H', M σ' H' → s2 D σ' H') : tCut s1 s2 D σ H := ⟨M, h, q⟩
theorem w_while (W : Nat → L2.St → Hp → Prop) (m0 : Nat) (h0 : W m0 σ H) (hs : ∀ m σ H, W m σ H → t σ H fun b H1 => if b = true then ∃ N : L2.St → Hp → Prop, (∀ σ' H', N σ' H' → ∃ m', m' < m ∧ W m' σ' H') ∧ s1 { D with nx := N, ct := N, bk := D.nx } σ H1 else D.nx σ H1) : tWhile t s1 D σ H := ⟨W, ⟨m0, h0⟩, hs⟩
theorem w_truL {l : Addr} {xs : List V} {A : Bool → Prop} (h : SqL K H l xs) (q : A (!xs.isEmpty)) : ∃ k, TruV K (.ref l) H k ∧ A k := ⟨_, .inl ⟨xs, h, rfl⟩, q⟩
theorem w_next (h : D.nx σ H) : tNext D σ H := h
theorem w_drop (h : te σ H fun _ H1 => D.nx σ H1) : tDrop te D σ H := h
theorem w_ret (h : te σ H D.rt) : tRet te D σ H := h
theorem w_asg (h : te σ H fun x H1 => g x σ H1 D.nx) : tAsg te g D σ H := h
theorem w_if (h : t σ H fun b H1 => if b = true then s1 D σ H1 else s2 D σ H1) : tIfS t s1 s2 D σ H := h
theorem w_name {v : V} {i : Nat} {R : L2.St → Hp → Prop} (h : R (σ.set i (some v)) H) : gName i v σ H R := h
theorem w_sub {v : V} {st : TSet} {R : L2.St → Hp → Prop} (h : ta σ H fun o H1 => tb σ H1 fun i H2 => st o i v H2 fun H3 => R σ H3) : gSub ta tb st v σ H R := h
theorem w_setL {R : Hp → Prop} {p : Addr} {xs : List V} {k : Int} {j : Nat} {v : V} (h : H p = some (.lst xs)) (a : ixN xs.length k = some j) (q : R (upd H p (.lst (xs.set j v)))) : rSetL (.ref p) (.int k) v H R := ⟨p, xs, k, j, rfl, rfl, h, a, q⟩
theorem w_aug {i : Nat} {x : V} {ti : TIp} (h : σ[i]? = some (some x)) (q : te σ H fun y H1 => ti x y H1 fun z H2 => D.nx (σ.set i (some z)) H2) : tAug i te ti D σ H := ⟨x, h, q⟩
theorem w_ipI {f : Int → Int → Int} {i j : Int} (q : Q (.int (f i j)) H) : ipI f (.int i) (.int j) H Q := ⟨i, j, rfl, rfl, q⟩
end

/-! ### what a for walks -/
def ForB (J : It) (g : TG) (tb : TS) (D : Ends) (σ : L2.St) (H1 : Hp) : Prop := ∃ W : Nat → Nat → L2.St → Hp → Prop, (∃ m, W 0 m σ H1) ∧ ∀ i m σ H, W i m σ H →
  (J.stop i H ∧ D.nx σ H) ∨ (J.go i H ∧ ∃ N : L2.St → Hp → Prop, (∀ σ' H', N σ' H' → ∃ m', m' < m ∧ W (i + 1) m' σ' H') ∧ ∀ x H', J.yld i H x H' → g x σ H' fun σ2 H2 => tb { D with nx := N, ct := N, bk := D.nx } σ2 H2)
def LcB (J : It) (g : TG) (tt : TT) (te : TE) (vs : List Nat) (Q : VK) (σ : L2.St) (H1 : Hp) (Dl : Addr) : Prop := ∃ W : Nat → Nat → Hp → Prop, (∃ m, W 0 m (upd H1 Dl (.lst []))) ∧ ∀ i m H, W i m H →
  (J.stop i H ∧ Q (.ref Dl) H) ∨ (J.go i H ∧ ∃ Nx : Hp → Prop, (∀ H', Nx H' → ∃ m', m' < m ∧ W (i + 1) m' H') ∧ ∀ x H', J.yld i H x H' → g x (wipe σ vs) H' fun σ2 H2 => wipe σ2 vs = wipe σ vs ∧ tt σ2 H2 fun b H3 =>
    if b = true then te σ2 H3 fun y H4 => ∃ acc, H4 Dl = some (.lst acc) ∧ acc.length < sizeLine ∧ Nx (upd H4 Dl (.lst (acc ++ [y]))) else Nx H3)
section
variable {K : PySem.W.Frag} {σ : L2.St} {H : Hp} {D : Ends} {ta tb : TE} {tA : TA} {g : TG} {s1 : TS} {wi : TI} {R : It → Hp → Prop}
theorem w_for (h : wi σ H fun J H1 => ForB J g s1 D σ H1) : tFor wi g s1 D σ H := h
theorem w_iL (h : ta σ H fun x H1 => ∃ a, x = .ref a ∧ (∃ xs, SqL K H1 a xs) ∧ R (Itl K a) H1) : iList K ta σ H R := h
theorem w_iL1 {a : Addr} {xs : List V} {B : Addr → Prop} (h : SqL K H a xs) (q : B a) : ∃ b, V.ref a = .ref b ∧ (∃ ys, SqL K H b ys) ∧ B b := ⟨a, rfl, ⟨xs, h⟩, q⟩
theorem w_iT (h : ta σ H fun x H1 => ∃ a, x = .ref a ∧ (∃ xs, SqT K H1 a xs) ∧ R (Itt K a) H1) : iTup K ta σ H R := h
theorem w_iT1 {a : Addr} {xs : List V} {B : Addr → Prop} (h : SqT K H a xs) (q : B a) : ∃ b, V.ref a = .ref b ∧ (∃ ys, SqT K H b ys) ∧ B b := ⟨a, rfl, ⟨xs, h⟩, q⟩
theorem w_iR (h : tA σ H fun vs H1 => ∃ j : Int, vs = [.int j] ∧ -(2 ^ 62) ≤ j ∧ j < 2 ^ 62 ∧ R (Itr 0 j.toNat) H1) : iRng1 tA σ H R := h
theorem w_iR1 {j : Int} {B : Int → Prop} (h1 : -(2 ^ 62) ≤ j) (h2 : j < 2 ^ 62) (q : B j) : ∃ k, [V.int j] = [V.int k] ∧ -(2 ^ 62) ≤ k ∧ k < 2 ^ 62 ∧ B k := ⟨j, rfl, h1, h2, q⟩
theorem w_yes {R : Bool → Hp → Prop} (h : R true H) : tYes σ H R := h
theorem w_wipe {σ2 : L2.St} {vs : List Nat} {B : Prop} (e : wipe σ2 vs = wipe σ vs) (q : B) : wipe σ2 vs = wipe σ vs ∧ B := ⟨e, q⟩
theorem w_lc {tt : TT} {te : TE} {vs : List Nat} {Q : VK} (h : wi σ H fun J H1 => ∀ Dl, H1 Dl = none → LcB J g tt te vs Q σ H1 Dl) : tLc wi g tt te vs σ H Q := h
end

/-! ### frames: all that H knows, but the object at s -/
def Fr (s : Addr) (H H' : Hp) : Prop := ∀ a o, a ≠ s → H a = some o → H' a = some o
section
variable {K : PySem.W.Frag} {H H' H0 H1 H2 : Hp} {a p s : Addr} {o : HO} {xs ys : List V}
theorem Fr.refl (s : Addr) (H : Hp) : Fr s H H := fun _ _ _ h => h
theorem Fr.ex (e : Ex H H') : Fr s H H' := fun a o _ h => e a o h
theorem Fr.trans (a : Fr s H H1) (b : Fr s H1 H2) : Fr s H H2 := fun x o n h => b x o n (a x o n h)
theorem Fr.new (e : Fr s H H') (h : H' p = none) : Fr s H (upd H' p o) := fun x u n ha => by
  have q := e x u n ha
  rw [upd_ne (ne_of_none q h)]
  exact q
theorem Fr.mut (e : Fr s H H') (h : H p = none) : Fr s H (upd H' p o) := fun x u n ha => by
  rw [upd_ne (ne_of_none ha h)]
  exact e x u n ha
theorem Fr.own (e : Fr s H H') : Fr s H (upd H' s o) := fun x u n ha => by
  rw [upd_ne n]
  exact e x u n ha
theorem Fr.free (e : Fr s H H') (hs : H s = some o) (h : H' p = none) (h2 : p ≠ s) : H p = none := by
  cases q : H p with
  | none => rfl
  | some u =>
    rw [e p u h2 q] at h
    cases h
theorem fr_t (e : Fr s H H') (hs : H s = some (.lst ys)) (h : SqT K H a xs) : SqT K H' a xs := by
  rcases h with (h | ⟨ob, h⟩) | h
  · exact .inl (.inl (e a _ (fun z => by rw [z, hs] at h; cases h) h))
  · exact .inl (.inr ⟨ob, e a _ (fun z => by rw [z, hs] at h; cases h) h⟩)
  · exact .inr h
theorem ex_upd (e : Ex H H') (h : H p = none) : Ex H (upd H' p o) := e.mut h
theorem ex_new (e : Ex H H') (h : H' p = none) : Ex H (upd H' p o) := e.trans (Ex.new h)
theorem ly_at (e : Ex H H') (h : H a = some o) : H' a = some o := e a o h
theorem ly_atF (e : Fr s H H') (n : a ≠ s) (h : H a = some o) : H' a = some o := e a o n h
theorem ly_mulL {i j : Int} (h1 : -(2 ^ 64) < i) (h2 : i < 2 ^ 64) : CMul i j := .inl ⟨h1, h2⟩
theorem ly_mulR {i j : Int} (h1 : -(2 ^ 64) < j) (h2 : j < 2 ^ 64) : CMul i j := .inr ⟨h1, h2⟩
end
/-! ### built-in calls -/
section
variable {K : PySem.W.Frag} {H : Hp} {Q : VK} {p : Addr} {xs : List V}
theorem w_int {i : Int} {A : Int → Prop} {B : Prop} (q : A i) : (∃ j, [V.int i] = [V.int j] ∧ A j) ∨ B := .inl ⟨i, rfl, q⟩
theorem w_intB {k : Bool} {A : Prop} {B : Bool → Prop} (q : B k) : A ∨ ∃ c, [V.bl k] = [V.bl c] ∧ B c := .inr ⟨k, rfl, q⟩
theorem w_abs {i : Int} {A : Int → Prop} (q : A i) : ∃ j, [V.int i] = [V.int j] ∧ A j := ⟨i, rfl, q⟩
theorem w_lenL {A : Addr → List V → Prop} (h : SqL K H p xs) (q : A p xs) : ∃ a ys, [V.ref p] = [V.ref a] ∧ (SqL K H a ys ∨ SqT K H a ys) ∧ A a ys := ⟨p, xs, rfl, .inl h, q⟩
theorem w_lenT {A : Addr → List V → Prop} (h : SqT K H p xs) (q : A p xs) : ∃ a ys, [V.ref p] = [V.ref a] ∧ (SqL K H a ys ∨ SqT K H a ys) ∧ A a ys := ⟨p, xs, rfl, .inr h, q⟩
theorem w_tupL {A B : Addr → List V → Prop} (h : SqL K H p xs) (q : A p xs) : ∃ a ys, [V.ref p] = [V.ref a] ∧ ((SqL K H a ys ∧ A a ys) ∨ (SqT K H a ys ∧ B a ys)) := ⟨p, xs, rfl, .inl ⟨h, q⟩⟩
theorem w_tupT {A B : Addr → List V → Prop} (h : SqT K H p xs) (q : B p xs) : ∃ a ys, [V.ref p] = [V.ref a] ∧ ((SqL K H a ys ∧ A a ys) ∨ (SqT K H a ys ∧ B a ys)) := ⟨p, xs, rfl, .inr ⟨h, q⟩⟩
theorem w_nT {A B : Prop} (h : B) : if (!true) = true then A else B := iteF h
theorem w_nF {A B : Prop} (h : A) : if (!false) = true then A else B := iteT h
theorem w_br {c A B : Prop} [Decidable c] (h1 : c → A) (h2 : ¬ c → B) : if decide c = true then A else B := ite2 (fun h => h1 (of_decide_eq_true h)) (fun h => h2 (fun z => h (decide_eq_true z)))
theorem w_deIS {i : Int} {x : Str} {A B : Prop} (h : B) : if decide (V.int i = V.str x) = true then A else B := iteF h
theorem w_deSI {i : Int} {x : Str} {A B : Prop} (h : B) : if decide (V.str x = V.int i) = true then A else B := iteF h
theorem w_deST {x y : Str} {A B : Prop} (e : x = y) (h : A) : if decide (V.str x = V.str y) = true then A else B := by
  rw [decide_eq_true (by rw [e])]
  exact iteT h
theorem w_deSF {x y : Str} {A B : Prop} (e : x ≠ y) (h : B) : if decide (V.str x = V.str y) = true then A else B := by
  rw [decide_eq_false (fun z => e (V.str.inj z))]
  exact iteF h
theorem w_deISn {i : Int} {x : Str} {A B : Prop} (h : A) : if (!decide (V.int i = V.str x)) = true then A else B := iteT h
theorem w_deSTn {x y : Str} {A B : Prop} (e : x = y) (h : B) : if (!decide (V.str x = V.str y)) = true then A else B := by
  rw [decide_eq_true (by rw [e])]
  exact iteF h
theorem w_deSFn {x y : Str} {A B : Prop} (e : x ≠ y) (h : A) : if (!decide (V.str x = V.str y)) = true then A else B := by
  rw [decide_eq_false (fun z => e (V.str.inj z))]
  exact iteT h
theorem w_neS {x : V} {A B : Prop} (h : B) : if (!decide (x = x)) = true then A else B := by
  rw [decide_eq_true rfl]
  exact iteF h
theorem w_eqS {x : V} {A B : Prop} (h : A) : if decide (x = x) = true then A else B := by
  rw [decide_eq_true rfl]
  exact iteT h
theorem w_neSb {x : Bool} {A B : Prop} (h : B) : if (!decide (x = x)) = true then A else B := by
  rw [decide_eq_true rfl]
  exact iteF h
theorem w_eqSb {x : Bool} {A B : Prop} (h : A) : if decide (x = x) = true then A else B := by
  rw [decide_eq_true rfl]
  exact iteT h
theorem w_neG {α : Type} {x : α} [Decidable (x = x)] {A B : Prop} (h : B) : if (!decide (x = x)) = true then A else B := by
  rw [decide_eq_true rfl]
  exact iteF h
theorem w_eqG {α : Type} {x : α} [Decidable (x = x)] {A B : Prop} (h : A) : if decide (x = x) = true then A else B := by
  rw [decide_eq_true rfl]
  exact iteT h
theorem w_nn {B : Prop} (q : B) : V.non = V.non ∧ B := ⟨rfl, q⟩
theorem w_nnT {A B : Prop} (h : B) : if (!decide (V.non = V.non)) = true then A else B := iteF h
theorem w_nnR {a : Addr} {A B : Prop} (h : A) : if (!decide (V.ref a = V.non)) = true then A else B := iteT h
theorem w_brI {i j : Int} {A B : Prop} (h1 : i = j → A) (h2 : i ≠ j → B) : if decide (V.int i = V.int j) = true then A else B := w_br (fun h => h1 (V.int.inj h)) (fun h => h2 (fun z => h (by rw [z])))
theorem w_brS {i j : Str} {A B : Prop} (h1 : i = j → A) (h2 : i ≠ j → B) : if decide (V.str i = V.str j) = true then A else B := w_br (fun h => h1 (V.str.inj h)) (fun h => h2 (fun z => h (by rw [z])))
theorem w_brIn {i j : Int} {A B : Prop} (h1 : i ≠ j → A) (h2 : i = j → B) : if (!decide (V.int i = V.int j)) = true then A else B := by
  by_cases e : i = j
  · rw [e, decide_eq_true rfl]
    exact iteF (h2 e)
  · rw [decide_eq_false (fun z => e (V.int.inj z))]
    exact iteT (h1 e)
theorem w_brSn {i j : Str} {A B : Prop} (h1 : i ≠ j → A) (h2 : i = j → B) : if (!decide (V.str i = V.str j)) = true then A else B := by
  by_cases e : i = j
  · rw [e, decide_eq_true rfl]
    exact iteF (h2 e)
  · rw [decide_eq_false (fun z => e (V.str.inj z))]
    exact iteT (h1 e)
theorem w_disp {R : Addr → Prop} (z : xs.length ≤ sizeLine) (q : ∀ p, H p = none → R p) : xs.length ≤ sizeLine ∧ ∀ p, H p = none → R p := ⟨z, q⟩
theorem w_tyL {R : Prop} (h : SqL K H p xs) (q : R) : tyV K "list" (.ref p) H ∧ R := ⟨.inl ⟨rfl, xs, h⟩, q⟩
end
/-! ### errors -/
theorem kcls_mk {K : PySem.W.Frag} {t : Value} {C : Addr} {r : Bool} (d : PySem.W.hasDictIn K C = true) (ty : PySem.W.typeIn K (.ref C) = some (.type "type")) (s : PySem.W.subIn K t (.ref C) = some r) : PySem.W.kitCls K t (.ref C) = some r := by
  have h : ((PySem.W.clsIn K C).isSome && PySem.W.typeIn K (.ref C) == some (.type "type")) = true := by
    obtain ⟨cd, hc, _⟩ := PySem.W.any_some d
    rw [hc, ty]
    simp
  show (if ((PySem.W.clsIn K C).isSome && PySem.W.typeIn K (.ref C) == some (.type "type")) = true then PySem.W.subIn K t (.ref C) else none) = some r
  rw [if_pos h, s]
theorem kitOne_mk {K : PySem.W.Frag} {t : Value} {C : Addr} (d : PySem.W.hasDictIn K C = true) (ty : PySem.W.typeIn K (.ref C) = some (.type "type")) (s : PySem.W.subIn K t (.ref C) = some true) : PySem.W.kitOne K t (.ref C) = some true := by
  unfold PySem.W.kitOne
  split
  · rfl
  · exact kcls_mk d ty s
theorem kitVE {K : PySem.W.Frag} {C : Addr} (s : PySem.W.subIn K (.ref C) (.type "ValueError") = some true) : PySem.W.kitOne K (.ref C) (.type "ValueError") = some true := by
  have m : PySem.W.kitMeta "ValueError" = true := by decide +kernel
  show (if (Value.ref C == Value.type "ValueError") = true then some true else if PySem.W.kitMeta "ValueError" = true then PySem.W.subIn K (.ref C) (.type "ValueError") else none) = some true
  rw [if_pos m, s]
  split <;> rfl
theorem exm_mk {K : PySem.W.Frag} {t : Value} {C : Addr} {r : Bool} (b : PySem.W.subIn K (.ref C) (.type "BaseException") = some true) (d : PySem.W.hasDictIn K C = true) (ty : PySem.W.typeIn K (.ref C) = some (.type "type")) (s : PySem.W.subIn K t (.ref C) = some r) : PySem.W.exmOne K t (.ref C) = some r := by
  unfold PySem.W.exmOne
  rw [b]
  simp [kcls_mk d ty s]
theorem call_isEa {X : Cx} {a : Addr} {oe : Obj} {cls : Value} {d : Option Addr} {pn : List (Addr × Obj)} (hz : Zc cls d oe) (hf : ∃ vs, oe.data = .fields vs) :
    CallR (X.suite a ((a, oe) :: pn)) (.builtin "isinstance") (fun xs H Q => ∃ D, cls = .ref D ∧ d = none ∧ ExcC X.K D ∧ rIsE X.K D a xs H Q) := by
  intro pins s σ H xs us Q I r ⟨D, e1, e2, C, h⟩
  subst e1 e2
  exact call_isE C hz hf pins s σ H xs us Q I r h
section
variable {K : PySem.W.Frag} {σ : L2.St} {H : Hp} {Q : VK} {te : TE} {tA : TA}
theorem w_js {ts : List TE} {acc : Str} {R : Str → Hp → Prop} (h : te σ H fun x H1 => ∃ y : Str, x = .str y ∧ (acc ++ y).length ≤ sizeLine ∧ tJs ts (acc ++ y) σ H1 R) : tJs (te :: ts) acc σ H R := h
theorem w_jsn {acc : Str} {R : Str → Hp → Prop} (h : R acc H) : tJs [] acc σ H R := h
theorem w_js1 {z acc : Str} {A : Str → Prop} (hl : (acc ++ z).length ≤ sizeLine) (q : A z) : ∃ y : Str, V.str z = .str y ∧ (acc ++ y).length ≤ sizeLine ∧ A y := ⟨z, rfl, hl, q⟩
theorem w_fmt (h : te σ H fun x H1 => (∃ y : Str, x = .str y ∧ y.length ≤ sizeLine ∧ Q (.str y) H1) ∨ ∃ i : Int, x = .int i ∧ i.natAbs.log2 < 1920 ∧ Q (.str (toString i)) H1) : tFmt te σ H Q := h
theorem w_fmt1 {i : Int} {A : Prop} {B : Int → Prop} (hl : i.natAbs.log2 < 1920) (q : B i) : A ∨ ∃ j : Int, V.int i = .int j ∧ j.natAbs.log2 < 1920 ∧ B j := .inr ⟨i, rfl, hl, q⟩
theorem w_callS {sp : Sp} {E : L2.St → XK} (h : tA σ H fun vs H1 => sp vs H1 Q (E σ)) : tCallS sp E tA σ H Q := h
end
/-! ### tuples that come: some tuple of these items -/
section
variable {K : PySem.W.Frag} {H H' : Hp} {Q : VK} {a b p : Addr} {xs ys : List V}
theorem w_catA (h : SqT K H a xs) (h2 : SqT K H b ys) (z : xs.length + ys.length ≤ sizeLine) (q : ∀ p H', Ex H H' → SqT K H' p (xs ++ ys) → Q (.ref p) H') : rCatA K (.ref a) (.ref b) H Q :=
  ⟨a, b, xs, ys, rfl, rfl, h, h2, z, fun e => q b H (Ex.refl H) (by rw [e]; exact h2), fun _ e => q a H (Ex.refl H) (by rw [e, List.append_nil]; exact h), fun _ _ p hp => q p _ (Ex.new hp) (SqT.of upd_same)⟩
theorem w_slA {lo hi : Option Int} (h : SqT K H a xs) (q : ∀ p H', Ex H H' → SqT K H' p (cutV xs lo hi) → Q (.ref p) H') : rSlA K (.ref a) lo hi H Q := by
  refine ⟨a, xs, rfl, h, fun e => q a H (Ex.refl H) ?_, fun _ p hp => q p _ (Ex.new hp) (SqT.of upd_same)⟩
  unfold cutV
  rw [e.1, e.2]
  simpa using h
theorem tyx_t (h : SqT K H a xs) : TyX K H (.ref a) (.type "tuple") := by
  rcases h with (h | ⟨o, h⟩) | ⟨o, _, _, h, c, _⟩
  · exact .base (.tup h)
  · exact .fTuple h
  · exact .kTuple h c
theorem tyx_l (h : SqL K H a xs) : TyX K H (.ref a) (.type "list") := by
  rcases h with (h | ⟨o, h⟩) | ⟨o, _, _, h, c, _⟩
  · exact .base (.lst h)
  · exact .base (.frz h)
  · exact .kList h c
end
/-! ### tuple * int -/
set_option maxHeartbeats 4000000 in
theorem mul_one_meets (l : Addr) (items : Array Value) (n : Nat) (di : Option Addr) (ss : Array (Option Value)) (u : Tok) :
    Meets (Builtin.«tuple.__mul__» ⟨[.ref l, .int 1 u], []⟩) (fun _ R s => s.heap.get? l = some { cls := .type "tuple", dict := di, data := .seq items n, slots := ss } ∧ R (.ok (.ret (Value.ref l))) s) :=
  .of_wp fun prog w A R s ⟨hl, h⟩ => by
    obtain ⟨hp, g, d, tk, os⟩ := s
    have idx := AutoSeq1.idx_int
    have c1 : (items.isEmpty || (1 : Int) == 1) = true := by simp
    have c0 : (decide ((1 : Int) < -(2 ^ 63)) || decide ((1 : Int) ≥ 2 ^ 63)) = false := by decide
    wp_walk using wpAny_loadPart' hl
    repeat (first
      | (refine wpAny_ite_false (decide_eq_false (fun z => by rw [c0] at z; cases z)) ?_; wp_walk using wpAny_loadPart' hl)
      | (refine wpAny_ite_true (decide_eq_true (by simp)) ?_; wp_walk using wpAny_loadPart' hl))
    exact ⟨_, rfl, h⟩
set_option maxHeartbeats 4000000 in
theorem mul_zero_meets (l : Addr) (items : Array Value) (n : Nat) (di : Option Addr) (ss : Array (Option Value)) (u : Tok) (em : items.isEmpty = false) :
    Meets (Builtin.«tuple.__mul__» ⟨[.ref l, .int 0 u], []⟩) (fun _ R s => s.heap.get? l = some { cls := .type "tuple", dict := di, data := .seq items n, slots := ss } ∧
      R (.ok (.ret (Value.ref s.heap.objs.size))) { s with heap := s.heap.push { cls := Value.type "tuple", data := Data.seq #[] }, toks := s.toks }) :=
  .of_wp fun prog w A R s ⟨hl, h⟩ => by
    obtain ⟨hp, g, d, tk, os⟩ := s
    have idx := AutoSeq1.idx_int
    have c1 : (items.isEmpty || (0 : Int) == 1) = false := by rw [em]; rfl
    have c2 : (decide ((0 : Int) ≤ 0) || items.isEmpty) = true := by simp
    have c0 : (decide ((0 : Int) < -(2 ^ 63)) || decide ((0 : Int) ≥ 2 ^ 63)) = false := by decide
    wp_walk using wpAny_loadPart' hl
    repeat (first
      | (refine wpAny_ite_false (decide_eq_false (fun z => by rw [c0] at z; cases z)) ?_; wp_walk using wpAny_loadPart' hl)
      | (refine wpAny_ite_false (decide_eq_false (fun z => by rw [c1] at z; cases z)) ?_; wp_walk using wpAny_loadPart' hl)
      | (refine wpAny_ite_true (decide_eq_true c2) ?_; wp_walk using wpAny_loadPart' hl))
    exact ⟨_, rfl, h⟩
def rRepB (K : PySem.W.Frag) : R2 := fun x y H Q => ∃ (l : Addr) (k : Int) (xs : List V), x = .ref l ∧ y = .int k ∧ SqT K H l xs ∧ xs ≠ [] ∧ 0 ≤ k ∧ k ≤ 3000 ∧ xs.length ≤ 1000 ∧ (k = 1 → Q (.ref l) H) ∧ (k ≠ 1 → ∀ p, H p = none → Q (.ref p) (upd H p (.tup (List.replicate k.toNat xs).flatten)))
theorem op_repB {X : Cx} : OpR X (binaryOp .Mult) (rRepB X.K) := by
  intro pins s σ H x y v u Q I rx ry ⟨l, k, xs, ex, ey, hT, hne, k0, k3, hz, q1, q⟩
  subst ex ey
  cases rx
  obtain ⟨tt, eu⟩ := ry
  subst eu
  obtain ⟨its, r, ⟨⟨cl, di, da, ss⟩, hob, hcl, n, hda⟩, _⟩ := I.tuple hT
  simp only at hcl hda
  subst hcl hda
  have el : its.length = xs.length := r.length.symm
  have es : its.toArray.size = xs.length := by rw [List.size_toArray, el]
  have pos : 0 < xs.length := List.length_pos_iff.mpr hne
  have em : its.toArray.isEmpty = false := by
    rw [Array.isEmpty_eq_false_iff_exists_mem]
    obtain ⟨a0, ha0⟩ := List.exists_mem_of_length_pos (l := its) (by omega)
    exact ⟨a0, by simpa using ha0⟩
  have big : k.toNat * xs.length ≤ 3000 * 1000 := Nat.mul_le_mul (by omega) hz
  have prod : ((its.toArray.size : Nat) : Int) * k = ((k.toNat * xs.length : Nat) : Int) := by
    rw [es, Int.natCast_mul, Int.toNat_of_nonneg (by omega), Int.mul_comm]
  have fl : (List.replicate k.toNat its).flatten.length = k.toNat * xs.length := by rw [PyProof.Rows.lm_len_rep_flat, el]
  have sl := sizeLine_eq
  have d0 : (decide (k < -(2 ^ 63)) || decide (k ≥ 2 ^ 63)) = false := by simp; omega
  refine wpAny_binaryOp_repeat_ref (T := "tuple") (U := "int") (by decide) ⟨_, hob, rfl⟩ (fun z => typeIs_int z k tt) noFill_tuple_mul F.fills_int_mul F.slot_int_rmul repeat_tuple F.slot_int_index.lookup (call_meets F.slot_int_rmul (typeIs_int s k tt) F.entry_int_rmul (F.args_int_rmul_2 _ _)
    (int_rmul_tuple k tt l its.toArray n di ss) ⟨hob, rfl, ⟨_, hob, rfl⟩, ?_⟩)
  have made : ∀ (xs2 : List V) (us : List Value), Vals xs2 us → xs2.length ≤ 3000000 → (∀ p, H p = none → Q (.ref p) (upd H p (.tup xs2))) → EP X pins σ Q (.ref s.heap.objs.size) { s with heap := s.heap.push { cls := Value.type "tuple", data := Data.seq us.toArray }, toks := s.toks } := fun xs2 us rv hlen q2 =>
    ⟨.ref s.heap.objs.size, _, I.laid (t' := s.toks) (o := .tup xs2) (fun _ _ z => Heap.get?_push_of_some _ z) (Nat.le_refl _) ⟨by omega, _, rv, IsTup.new _ _⟩, rfl, q2 _ (I.hok.fresh (Nat.le_refl _))⟩
  by_cases h1 : k = 1
  · subst h1
    exact call_meets F.slot_tuple_mul ⟨_, hob, rfl⟩ F.entry_tuple_mul (F.args_tuple_mul_2 _ _) (mul_one_meets l its.toArray n di ss tt) ⟨hob, .ref l, H, I, rfl, q1 rfl⟩
  · by_cases h2 : k = 0
    · subst h2
      exact call_meets F.slot_tuple_mul ⟨_, hob, rfl⟩ F.entry_tuple_mul (F.args_tuple_mul_2 _ _) (mul_zero_meets l its.toArray n di ss tt em) ⟨hob, made [] [] .nil (by simp) (q h1)⟩
    · have d1 : (its.toArray.isEmpty || k == 1) = false := by rw [em]; simp; omega
      have d2 : (decide (k ≤ 0) || its.toArray.isEmpty) = false := by rw [em]; simp; omega
      have d4 : Builtin.Tuple.tupleTooMany (((its.toArray.size : Nat) : Int) * k) = false := by
        rw [prod]
        unfold Builtin.Tuple.tupleTooMany
        exact decide_eq_false (by omega)
      have tm : Meets _ _ := tuple_mulW l its.toArray n di ss k tt d0 d1 d2 (by rw [prod]; omega) d4 (by rw [size_rep, List.size_toArray, fl]; omega)
      refine call_meets F.slot_tuple_mul ⟨_, hob, rfl⟩ F.entry_tuple_mul (F.args_tuple_mul_2 _ _) tm ⟨hob, ?_⟩
      rw [size_rep]
      exact made _ _ (r.rep k.toNat) (by rw [PyProof.Rows.lm_len_rep_flat]; omega) (q h1)
theorem w_repB {K : PySem.W.Frag} {H : Hp} {Q : VK} {l : Addr} {k : Int} {xs : List V} (h : SqT K H l xs) (hne : xs ≠ []) (h2 : 0 ≤ k) (h3 : k ≤ 3000) (hz : xs.length ≤ 1000) (q : ∀ p H', Ex H H' → SqT K H' p (List.replicate k.toNat xs).flatten → Q (.ref p) H') : rRepB K (.ref l) (.int k) H Q := by
  refine ⟨l, k, xs, rfl, rfl, h, hne, h2, h3, hz, fun e => q l H (Ex.refl H) ?_, fun _ p hp => q p _ (Ex.new hp) (SqT.of upd_same)⟩
  subst e
  simpa using h
/-! ### the rules with the written part given -/
section
variable {X : Cx} {K : PySem.W.Frag}
theorem ix_listK (e : X.K = K) : IxR X (rIxL K) := by
  rw [← e]
  exact ix_list
theorem ix_tupK (e : X.K = K) : IxR X (rIxT K) := by
  rw [← e]
  exact ix_tup
theorem call_len_seqK (e : X.K = K) : CallR X (.builtin "len") (fun xs H Q => ∃ p ys, xs = [.ref p] ∧ (SqL K H p ys ∨ SqT K H p ys) ∧ Q (.int ys.length) H) := by
  rw [← e]
  exact call_len_seq
theorem op_catAK (e : X.K = K) : OpR X (binaryOp .Add) (rCatA K) := by
  rw [← e]
  exact op_catA
theorem op_repBK (e : X.K = K) : OpR X (binaryOp .Mult) (rRepB K) := by
  rw [← e]
  exact op_repB
theorem sl_tupAK (e : X.K = K) : SlR X (rSlA K) := by
  rw [← e]
  exact sl_tupA
end
/-! ### kinds that stay: lists stay lists, tuples stay what they are -/
def Kp (H H' : Hp) : Prop := (∀ a xs, H a = some (.lst xs) → ∃ ys, H' a = some (.lst ys)) ∧ ∀ a xs, H a = some (.tup xs) → H' a = some (.tup xs)
section
variable {K : PySem.W.Frag} {H H' H1 : Hp} {a s l : Addr} {xs ys : List V}
theorem Kp.refl (H : Hp) : Kp H H := ⟨fun _ xs h => ⟨xs, h⟩, fun _ _ h => h⟩
theorem Kp.trans (e : Kp H H1) (f : Kp H1 H') : Kp H H' := ⟨fun a xs h => by
  obtain ⟨ys, h1⟩ := e.1 a xs h
  exact f.1 a ys h1, fun a xs h => f.2 a xs (e.2 a xs h)⟩
theorem Kp.ex (e : Ex H H') : Kp H H' := ⟨fun a xs h => ⟨xs, e a _ h⟩, fun a xs h => e a _ h⟩
theorem Kp.fr (e : Fr s H H') (h : H s = some (.lst xs)) (h2 : H' s = some (.lst ys)) : Kp H H' := ⟨fun a zs q => by
  by_cases z : a = s
  · rw [z]
    exact ⟨_, h2⟩
  · exact ⟨_, e a _ z q⟩, fun a zs q => e a _ (fun z => by rw [z, h] at q; cases q) q⟩
theorem Kp.put (h : H l = some (.lst xs)) : Kp H (upd H l (.lst ys)) := ⟨fun a zs q => by
  by_cases z : a = l
  · rw [z]
    exact ⟨_, upd_same⟩
  · exact ⟨zs, by rw [upd_ne z]; exact q⟩, fun a zs q => by
  rw [upd_ne (fun z => by rw [z, h] at q; cases q)]
  exact q⟩
/-- the values of the law that asks is_term -/
inductive Kd (H : Hp) : V → Prop
  | int (i : Int) : Kd H (.int i)
  | str (x : Str) : Kd H (.str x)
  | bl (b : Bool) : Kd H (.bl b)
  | non : Kd H .non
  | lst {a : Addr} {xs : List V} (h : H a = some (.lst xs)) : Kd H (.ref a)
  | tup {a : Addr} {xs : List V} (h : H a = some (.tup xs)) : Kd H (.ref a)
theorem Kd.mono {v : V} (h : Kd H v) (e : Kp H H') : Kd H' v := by
  cases h with
  | int i => exact .int i
  | str x => exact .str x
  | bl b => exact .bl b
  | non => exact .non
  | lst h =>
    obtain ⟨ys, h⟩ := e.1 _ _ h
    exact .lst h
  | tup h => exact .tup (e.2 _ _ h)
end
theorem Kd.ty {H : Hp} {v : V} (h : Kd H v) (K : PySem.W.Frag) : ∃ n, TyX K H v (.type n) ∧ n = (match v with | .int _ => "int" | .str _ => "str" | .bl _ => "bool" | .non => "NoneType" | _ => n) := by
  cases h with
  | int i => exact ⟨_, .base (.int i), rfl⟩
  | str i => exact ⟨_, .base (.str i), rfl⟩
  | bl i => exact ⟨_, .base (.bl i), rfl⟩
  | non => exact ⟨_, .base .non, rfl⟩
  | lst h => exact ⟨_, .base (.lst h), rfl⟩
  | tup h => exact ⟨_, .base (.tup h), rfl⟩
theorem qeq {Q : VK} {H : Hp} {b c : Bool} (q : Q (.bl b) H) (e : b = c) : Q (.bl c) H := by
  rw [← e]
  exact q
theorem all_nil {H : Hp} : ∀ x ∈ ([] : List V), Kd H x := fun x h => absurd h (by simp)
theorem all_cons {H : Hp} {v : V} {xs : List V} (h : Kd H v) (t : ∀ x ∈ xs, Kd H x) : ∀ x ∈ v :: xs, Kd H x := fun x hx => by
  rcases List.mem_cons.mp hx with e | e
  · rw [e]
    exact h
  · exact t x e
theorem all_app {H : Hp} {xs ys : List V} (h : ∀ x ∈ xs, Kd H x) (t : ∀ x ∈ ys, Kd H x) : ∀ x ∈ xs ++ ys, Kd H x := fun x hx => by
  rcases List.mem_append.mp hx with e | e
  · exact h x e
  · exact t x e
theorem all_kp {H H' : Hp} {xs : List V} (h : ∀ x ∈ xs, Kd H x) (e : Kp H H') : ∀ x ∈ xs, Kd H' x := fun x hx => (h x hx).mono e
theorem at_in {xs : List V} {i : Int} (h0 : 0 ≤ i) (h1 : i < xs.length) : ∃ v, atI xs i = some v ∧ v ∈ xs := by
  have h2 : i.toNat < xs.length := by omega
  refine ⟨xs[i.toNat], at_of (j := i.toNat) (by omega) (List.getElem?_eq_getElem h2), List.getElem_mem h2⟩
/-! ### isinstance of built-in values -/
section
variable {K : PySem.W.Frag}
theorem kit_int_int : PySem.W.kitOne K (.type "int") (.type "int") = some true := kit_ty (by decide +kernel)
theorem kit_int_str : PySem.W.kitOne K (.type "int") (.type "str") = some false := kit_ty (by decide +kernel)
theorem kit_int_bool : PySem.W.kitOne K (.type "int") (.type "bool") = some false := kit_ty (by decide +kernel)
theorem kit_int_tuple : PySem.W.kitOne K (.type "int") (.type "tuple") = some false := kit_ty (by decide +kernel)
theorem kit_int_list : PySem.W.kitOne K (.type "int") (.type "list") = some false := kit_ty (by decide +kernel)
theorem kit_str_int : PySem.W.kitOne K (.type "str") (.type "int") = some false := kit_ty (by decide +kernel)
theorem kit_str_str : PySem.W.kitOne K (.type "str") (.type "str") = some true := kit_ty (by decide +kernel)
theorem kit_str_bool : PySem.W.kitOne K (.type "str") (.type "bool") = some false := kit_ty (by decide +kernel)
theorem kit_str_tuple : PySem.W.kitOne K (.type "str") (.type "tuple") = some false := kit_ty (by decide +kernel)
theorem kit_str_list : PySem.W.kitOne K (.type "str") (.type "list") = some false := kit_ty (by decide +kernel)
theorem kit_bool_int : PySem.W.kitOne K (.type "bool") (.type "int") = some true := kit_ty (by decide +kernel)
theorem kit_bool_str : PySem.W.kitOne K (.type "bool") (.type "str") = some false := kit_ty (by decide +kernel)
theorem kit_bool_bool : PySem.W.kitOne K (.type "bool") (.type "bool") = some true := kit_ty (by decide +kernel)
theorem kit_bool_tuple : PySem.W.kitOne K (.type "bool") (.type "tuple") = some false := kit_ty (by decide +kernel)
theorem kit_bool_list : PySem.W.kitOne K (.type "bool") (.type "list") = some false := kit_ty (by decide +kernel)
theorem kit_NoneType_int : PySem.W.kitOne K (.type "NoneType") (.type "int") = some false := kit_ty (by decide +kernel)
theorem kit_NoneType_str : PySem.W.kitOne K (.type "NoneType") (.type "str") = some false := kit_ty (by decide +kernel)
theorem kit_NoneType_bool : PySem.W.kitOne K (.type "NoneType") (.type "bool") = some false := kit_ty (by decide +kernel)
theorem kit_NoneType_tuple : PySem.W.kitOne K (.type "NoneType") (.type "tuple") = some false := kit_ty (by decide +kernel)
theorem kit_NoneType_list : PySem.W.kitOne K (.type "NoneType") (.type "list") = some false := kit_ty (by decide +kernel)
theorem kit_list_int : PySem.W.kitOne K (.type "list") (.type "int") = some false := kit_ty (by decide +kernel)
theorem kit_list_str : PySem.W.kitOne K (.type "list") (.type "str") = some false := kit_ty (by decide +kernel)
theorem kit_list_bool : PySem.W.kitOne K (.type "list") (.type "bool") = some false := kit_ty (by decide +kernel)
theorem kit_list_tuple : PySem.W.kitOne K (.type "list") (.type "tuple") = some false := kit_ty (by decide +kernel)
theorem kit_list_list : PySem.W.kitOne K (.type "list") (.type "list") = some true := kit_ty (by decide +kernel)
theorem kit_tuple_int : PySem.W.kitOne K (.type "tuple") (.type "int") = some false := kit_ty (by decide +kernel)
theorem kit_tuple_str : PySem.W.kitOne K (.type "tuple") (.type "str") = some false := kit_ty (by decide +kernel)
theorem kit_tuple_bool : PySem.W.kitOne K (.type "tuple") (.type "bool") = some false := kit_ty (by decide +kernel)
theorem kit_tuple_tuple : PySem.W.kitOne K (.type "tuple") (.type "tuple") = some true := kit_ty (by decide +kernel)
theorem kit_tuple_list : PySem.W.kitOne K (.type "tuple") (.type "list") = some false := kit_ty (by decide +kernel)
end
/-- a def that may be called by its name -/
def Def (P : Program) (w : World) (K : PySem.W.Frag) (mg : Str → Option Value) (base : Heap) (CX : CXT) (k : Nat) (x : Str) (ps : List Str) (sp : Sp) : Prop :=
  ∃ (f : Addr) (fd : FuncData), mg x = some (.ref f) ∧ PySem.W.keepIn K (.ref f) = true ∧ Binds K fd ps [] ∧ FnOk P w K mg base CX k f fd ps sp
theorem Def.of {P : Program} {w : World} {K : PySem.W.Frag} {mg : Str → Option Value} {base : Heap} {CX : CXT} {k : Nat} {x : Str} {ps : List Str} {sp : Sp} {f : Addr} {fd : FuncData} (g : mg x = some (.ref f)) (kp : PySem.W.keepIn K (.ref f) = true) (b : Binds K fd ps []) (G : FnOk P w K mg base CX k f fd ps sp) : Def P w K mg base CX k x ps sp := ⟨f, fd, g, kp, b, G⟩
theorem drop_at {α : Type} {xs : List α} {i : Nat} {x : α} (h : xs[i]? = some x) : xs.drop i = x :: xs.drop (i + 1) := by
  obtain ⟨h1, rfl⟩ := List.getElem?_eq_some_iff.mp h
  exact List.drop_eq_getElem_cons h1
/-! ### nodes and terms, as values -/
def isVarV : V → Bool
  | .int i => decide (0 ≤ i) && decide (i ≤ 1000000)
  | _ => false
def isNodeV : V → Bool
  | .str x => decide (x = "lam") || decide (x = "app")
  | v => isVarV v
def pcV (v : V) : Int := if v = .str "app" then 2 else if v = .str "lam" then 1 else 0
def scanV : Int → List V → Bool
  | m, [] => decide (m = 0)
  | m, v :: r => if m = 0 ∨ isNodeV v = false then false else scanV (m + (pcV v - 1)) r
def isTermV (xs : List V) : Bool := decide (xs.length ≤ 1000) && scanV 1 xs
/-! ### terms -/
inductive Tm where
  | var (n : Nat)
  | lam (b : Tm)
  | app (f a : Tm)
def Tm.enc : Tm → List V
  | .var n => [.int n]
  | .lam b => .str "lam" :: b.enc
  | .app f a => .str "app" :: (f.enc ++ a.enc)
/-- its free variables are below d -/
def Tm.wf : Nat → Tm → Prop
  | d, .var n => n < d
  | d, .lam b => b.wf (d + 1)
  | d, .app f a => f.wf d ∧ a.wf d
def encs (ts : List Tm) : List V := (ts.map Tm.enc).flatten
/-- whatever terms stand for what waits (the last one first), the whole is a term -/
def Comp (loose : Nat) (nodes : List V) (wait : List Nat) : Prop := ∀ ts : List Tm, ts.length = wait.length → (∀ p ∈ ts.zip wait.reverse, p.1.wf (p.2 + loose)) → ∃ t : Tm, t.wf loose ∧ t.enc = nodes ++ encs ts
theorem Comp.start (loose : Nat) : Comp loose [] [0] := fun ts hl hw => by
  match ts, hl with
  | [t], _ =>
    refine ⟨t, ?_, by simp [encs]⟩
    have := hw (t, 0) (by simp)
    simpa using this
theorem Comp.done {loose : Nat} {nodes : List V} (h : Comp loose nodes []) : ∃ t : Tm, t.wf loose ∧ t.enc = nodes := by
  obtain ⟨t, h1, h2⟩ := h [] rfl (by simp)
  exact ⟨t, h1, by rw [h2]; simp [encs]⟩
theorem Comp.var {loose : Nat} {nodes : List V} {wait : List Nat} {d n : Nat} (h : Comp loose nodes (wait ++ [d])) (hn : n < d + loose) : Comp loose (nodes ++ [.int n]) wait := fun ts hl hw => by
  obtain ⟨t, h1, h2⟩ := h (.var n :: ts) (by simp [hl]) (fun p hp => by
    rw [List.reverse_append] at hp
    rcases List.mem_cons.mp hp with e | e
    · subst e
      exact hn
    · exact hw p e)
  exact ⟨t, h1, by rw [h2]; simp [encs, Tm.enc]⟩
theorem Comp.lam {loose : Nat} {nodes : List V} {wait : List Nat} {d : Nat} (h : Comp loose nodes (wait ++ [d])) : Comp loose (nodes ++ [.str "lam"]) (wait ++ [d + 1]) := fun ts hl hw => by
  match ts, hl with
  | [], hl => simp at hl
  | b :: r, hl =>
    rw [List.reverse_append] at hw
    obtain ⟨t, h1, h2⟩ := h (.lam b :: r) (by simpa using hl) (fun p hp => by
      rw [List.reverse_append] at hp
      rcases List.mem_cons.mp hp with e | e
      · subst e
        have := hw (b, d + 1) (by simp)
        show b.wf (d + loose + 1)
        have e2 : d + loose + 1 = d + 1 + loose := by omega
        rw [e2]
        exact this
      · exact hw p (List.mem_cons_of_mem _ e))
    exact ⟨t, h1, by rw [h2]; simp [encs, Tm.enc]⟩
theorem Comp.app {loose : Nat} {nodes : List V} {wait : List Nat} {d : Nat} (h : Comp loose nodes (wait ++ [d])) : Comp loose (nodes ++ [.str "app"]) (wait ++ [d] ++ [d]) := fun ts hl hw => by
  match ts, hl with
  | [], hl => simp at hl
  | [_], hl => simp at hl
  | f :: a :: r, hl =>
    rw [List.reverse_append, List.reverse_append] at hw
    obtain ⟨t, h1, h2⟩ := h (.app f a :: r) (by simpa using hl) (fun p hp => by
      rw [List.reverse_append] at hp
      rcases List.mem_cons.mp hp with e | e
      · subst e
        exact ⟨hw (f, d) (by simp), hw (a, d) (by simp)⟩
      · exact hw p (List.mem_cons_of_mem _ (List.mem_cons_of_mem _ e)))
    exact ⟨t, h1, by rw [h2]; simp [encs, Tm.enc]⟩
def Flat (xs : List V) : Prop := ∀ x ∈ xs, (∃ i, x = .int i) ∨ ∃ s, x = .str s
theorem Flat.kd {xs : List V} (h : Flat xs) (H : Hp) : ∀ x ∈ xs, Kd H x := fun x hx => by
  rcases h x hx with ⟨i, rfl⟩ | ⟨s, rfl⟩
  · exact .int i
  · exact .str s
theorem Flat.app {xs ys : List V} (h : Flat xs) (t : Flat ys) : Flat (xs ++ ys) := fun x hx => by
  rcases List.mem_append.mp hx with e | e
  · exact h x e
  · exact t x e
theorem Flat.rep {xs : List V} (h : Flat xs) (n : Nat) : Flat (List.replicate n xs).flatten := fun x hx => by
  obtain ⟨l, h1, h2⟩ := List.mem_flatten.mp hx
  rw [(List.mem_replicate.mp h1).2] at h2
  exact h x h2
theorem Flat.one (x : V) (h : (∃ i, x = .int i) ∨ ∃ s, x = .str s) : Flat [x] := fun y hy => by
  rw [List.mem_singleton.mp hy]
  exact h
theorem Flat.two (x z : V) (h : (∃ i, x = .int i) ∨ ∃ s, x = .str s) (h2 : (∃ i, z = .int i) ∨ ∃ s, z = .str s) : Flat [x, z] := fun y hy => by
  rcases List.mem_cons.mp hy with e | e
  · rw [e]
    exact h
  · rw [List.mem_singleton.mp e]
    exact h2
theorem Flat.cons {x : V} {xs : List V} (h : (∃ i, x = .int i) ∨ ∃ s, x = .str s) (t : Flat xs) : Flat (x :: xs) := fun y hy => by
  rcases List.mem_cons.mp hy with e | e
  · rw [e]
    exact h
  · exact t y e
theorem Flat.nil : Flat [] := fun x h => absurd h (by simp)
theorem Tm.flat : ∀ t : Tm, Flat t.enc
  | .var n => Flat.one _ (.inl ⟨_, rfl⟩)
  | .lam b => Flat.cons (.inr ⟨_, rfl⟩) b.flat
  | .app f a => Flat.cons (.inr ⟨_, rfl⟩) (f.flat.app a.flat)
/-- no variable too great -/
def okV : V → Bool
  | .int i => decide (i ≤ 1000000)
  | _ => true
def fitsV (xs : List V) : Bool := decide (xs.length ≤ 1000) && xs.all okV
/-! ### nodes compared -/
def Nds (xs : List V) : Prop := ∀ x ∈ xs, (∃ i, x = .int i) ∨ x = .str "lam" ∨ x = .str "app"
theorem Nds.flat {xs : List V} (h : Nds xs) : Flat xs := fun x hx => by
  rcases h x hx with e | e | e
  · exact .inl e
  · exact .inr ⟨_, e⟩
  · exact .inr ⟨_, e⟩
theorem Nds.nil : Nds [] := fun x h => absurd h (by simp)
theorem Nds.app {xs ys : List V} (h : Nds xs) (t : Nds ys) : Nds (xs ++ ys) := fun x hx => by
  rcases List.mem_append.mp hx with e | e
  · exact h x e
  · exact t x e
theorem Nds.cons {x : V} {xs : List V} (h : (∃ i, x = .int i) ∨ x = .str "lam" ∨ x = .str "app") (t : Nds xs) : Nds (x :: xs) := fun y hy => by
  rcases List.mem_cons.mp hy with e | e
  · rw [e]
    exact h
  · exact t y e
theorem Nds.rep {xs : List V} (h : Nds xs) (n : Nat) : Nds (List.replicate n xs).flatten := fun x hx => by
  obtain ⟨l, h1, h2⟩ := List.mem_flatten.mp hx
  rw [(List.mem_replicate.mp h1).2] at h2
  exact h x h2
theorem Nds.tail {x : V} {xs : List V} (h : Nds (x :: xs)) : Nds xs := fun y hy => h y (List.mem_cons_of_mem _ hy)
theorem Nds.take {xs : List V} (h : Nds xs) (n : Nat) : Nds (xs.take n) := fun x hx => h x (List.mem_of_mem_take hx)
theorem Nds.drop {xs : List V} (h : Nds xs) (n : Nat) : Nds (xs.drop n) := fun x hx => h x (List.mem_of_mem_drop hx)
theorem Nds.I (i : Int) : (∃ j, V.int i = .int j) ∨ V.int i = .str "lam" ∨ V.int i = .str "app" := .inl ⟨i, rfl⟩
theorem Nds.L : (∃ j, V.str "lam" = .int j) ∨ V.str "lam" = .str "lam" ∨ V.str "lam" = .str "app" := .inr (.inl rfl)
theorem Nds.A : (∃ j, V.str "app" = .int j) ∨ V.str "app" = .str "lam" ∨ V.str "app" = .str "app" := .inr (.inr rfl)
theorem Tm.nds : ∀ t : Tm, Nds t.enc
  | .var n => Nds.cons (Nds.I _) Nds.nil
  | .lam b => Nds.cons Nds.L b.nds
  | .app f a => Nds.cons Nds.A (f.nds.app a.nds)
def dv : V → PyData
  | .int i => .int i
  | .str x => .str x
  | _ => .none
theorem eqv_nodes : ∀ {xs ys : List V}, Nds xs → Nds ys → PyData.eqvAll (xs.map dv) (ys.map dv) = decide (xs = ys)
  | [], [], _, _ => by simp [PyData.eqvAll]
  | [], _ :: _, _, _ => by simp [PyData.eqvAll]
  | _ :: _, [], _, _ => by simp [PyData.eqvAll]
  | x :: xs, y :: ys, h, k => by
    have ih := eqv_nodes h.tail k.tail
    have hxy : PyData.eqv (dv x) (dv y) = decide (x = y) := by
      rcases h x List.mem_cons_self with ⟨i, rfl⟩ | rfl | rfl <;> rcases k y List.mem_cons_self with ⟨j, rfl⟩ | rfl | rfl <;> simp [dv, PyData.eqv] <;> first | (rw [Bool.eq_iff_iff]; simp) | decide +kernel
    rw [List.map_cons, List.map_cons, PyData.eqvAll, ih, hxy]
    simp
theorem lay_nodes : ∀ {xs : List V}, Nds xs → PyData.canLayAll0 (xs.map dv) = true
  | [], _ => rfl
  | x :: xs, h => by
    have ih := lay_nodes h.tail
    have hx : (dv x).canLay0 = true := by
      rcases h x List.mem_cons_self with ⟨i, rfl⟩ | rfl | rfl
      · rfl
      · decide +kernel
      · decide +kernel
    rw [List.map_cons, PyData.canLayAll0, hx, ih]
    rfl
theorem dp_nodes {K : PySem.W.Frag} {H : Hp} : ∀ {xs : List V}, Nds xs → DpAll K H xs (xs.map dv)
  | [], _ => .nil
  | x :: xs, h => by
    refine .cons ?_ (dp_nodes h.tail)
    rcases h x List.mem_cons_self with ⟨i, rfl⟩ | rfl | rfl
    · exact .int i
    · exact .str _
    · exact .str _
theorem depth_atom (x : V) : (dv x).depth ≤ 1 := by
  cases x <;> simp [dv, PyData.depth]
theorem depth_all : ∀ xs : List V, PyData.depthAll (xs.map dv) ≤ 1
  | [] => by simp [PyData.depthAll]
  | x :: xs => by
    have h1 := depth_atom x
    have h2 := depth_all xs
    simp only [List.map_cons, PyData.depthAll]
    omega
theorem depth_nodes {xs : List V} : (PyData.tuple (xs.map dv)).depth ≤ 2 := by
  have h := depth_all xs
  simp only [PyData.depth]
  omega
theorem shaped_nodes {xs : List V} (h : Nds xs) : SeqAt.shaped (.tuple (xs.map dv)) = true := by
  have h1 : (PyData.tuple (xs.map dv)).canLay0 = true := lay_nodes h
  have h2 := depth_nodes (xs := xs)
  unfold SeqAt.shaped
  rw [h1, Bool.true_and]
  exact decide_eq_true (by omega)
section
variable {K : PySem.W.Frag} {H : Hp} {Q : VK} {a b : Addr} {xs ys : List V}
theorem w_eqN (h : SqT K H a xs) (k : SqT K H b ys) (n : Nds xs) (m : Nds ys) (q : Q (.bl (decide (xs = ys))) H) : rEqD K (.ref a) (.ref b) H Q :=
  ⟨_, _, .tup h (dp_nodes n), .tup k (dp_nodes m), shaped_nodes n, shaped_nodes m, by rw [PyData.eqv, eqv_nodes n m]; exact q⟩
theorem w_neN (h : SqT K H a xs) (k : SqT K H b ys) (n : Nds xs) (m : Nds ys) (q : Q (.bl (!decide (xs = ys))) H) : rNeD K (.ref a) (.ref b) H Q :=
  ⟨_, _, .tup h (dp_nodes n), .tup k (dp_nodes m), shaped_nodes n, shaped_nodes m, by rw [PyData.eqv, eqv_nodes n m]; exact q⟩
theorem w_neNon (k : SqT K H b ys) (m : Nds ys) (q : Q (.bl true) H) : rNeD K .non (.ref b) H Q :=
  ⟨_, _, .non, .tup k (dp_nodes m), by decide, shaped_nodes m, q⟩
theorem w_eqNon (k : SqT K H b ys) (m : Nds ys) (q : Q (.bl false) H) : rEqD K .non (.ref b) H Q :=
  ⟨_, _, .non, .tup k (dp_nodes m), by decide, shaped_nodes m, q⟩
end
theorem ly_lt {n : Nat} (h : n < 15000000) : n < sizeLine := by
  rw [sizeLine_eq]
  omega
theorem ly_sz {n : Nat} (h : n ≤ 16000000) : n ≤ sizeLine := by
  rw [sizeLine_eq]
  omega
def Tm.lamN : Nat → Tm → Tm
  | 0, t => t
  | n + 1, t => .lam (Tm.lamN n t)
def Tm.rowN (c : Nat) : Nat → Tm → Tm
  | 0, t => t
  | n + 1, t => .app (.var c) (Tm.rowN c n t)
theorem Tm.enc_lamN (n : Nat) (t : Tm) : (Tm.lamN n t).enc = (List.replicate n [V.str "lam"]).flatten ++ t.enc := by
  induction n with
  | zero => rfl
  | succ n ih =>
    show V.str "lam" :: (Tm.lamN n t).enc = _
    rw [ih, List.replicate_succ]
    rfl
theorem Tm.enc_rowN (c n : Nat) (t : Tm) : (Tm.rowN c n t).enc = (List.replicate n [V.str "app", V.int c]).flatten ++ t.enc := by
  induction n with
  | zero => rfl
  | succ n ih =>
    show V.str "app" :: ([V.int c] ++ (Tm.rowN c n t).enc) = _
    rw [ih, List.replicate_succ]
    rfl
/-- the greatest variable is at most M -/
def Tm.vars (M : Nat) : Tm → Prop
  | .var n => n ≤ M
  | .lam b => b.vars M
  | .app f a => f.vars M ∧ a.vars M
theorem Tm.vars_lamN {M n : Nat} {t : Tm} (h : t.vars M) : (Tm.lamN n t).vars M := by
  induction n with
  | zero => exact h
  | succ n ih => exact ih
theorem Tm.vars_rowN {M c n : Nat} {t : Tm} (hc : c ≤ M) (h : t.vars M) : (Tm.rowN c n t).vars M := by
  induction n with
  | zero => exact h
  | succ n ih => exact ⟨hc, ih⟩
theorem Tm.vars_mono {M N : Nat} (hm : M ≤ N) : ∀ {t : Tm}, t.vars M → t.vars N
  | .var n, h => Nat.le_trans h hm
  | .lam b, h => Tm.vars_mono hm (t := b) h
  | .app f a, h => ⟨Tm.vars_mono hm (t := f) h.1, Tm.vars_mono hm (t := a) h.2⟩
theorem Tm.vars_wf : ∀ {t : Tm} {d : Nat}, t.wf d → t.vars (d + t.enc.length)
  | .var n, d, h => by
    show n ≤ d + 1
    have : n < d := h
    omega
  | .lam b, d, h => by
    have := Tm.vars_wf (t := b) (d := d + 1) h
    exact Tm.vars_mono (by simp [Tm.enc]; omega) this
  | .app f a, d, h => by
    have h1 := Tm.vars_wf (t := f) h.1
    have h2 := Tm.vars_wf (t := a) h.2
    exact ⟨Tm.vars_mono (by simp [Tm.enc]; omega) h1, Tm.vars_mono (by simp [Tm.enc]; omega) h2⟩
theorem pcV_lam : pcV (.str "lam") = 1 := by decide +kernel
theorem pcV_app : pcV (.str "app") = 2 := by decide +kernel
theorem pcV_int (i : Int) : pcV (.int i) = 0 := rfl
theorem node_lam : isNodeV (.str "lam") = true := by decide +kernel
theorem node_app : isNodeV (.str "app") = true := by decide +kernel
theorem node_int {i : Int} (h : 0 ≤ i) (h2 : i ≤ 1000000) : isNodeV (.int i) = true := by simp [isNodeV, isVarV, h, h2]
theorem scan_enc : ∀ (t : Tm), t.vars 1000000 → ∀ (k : Int) (r : List V), 0 ≤ k → scanV (k + 1) (t.enc ++ r) = scanV k r
  | .var n, h, k, r, hk => by
    have h : n ≤ 1000000 := h
    show scanV (k + 1) (V.int n :: r) = _
    have e : k + 1 + (0 - 1) = k := by omega
    rw [scanV, if_neg (by rw [node_int (by omega) (by omega)]; simp; omega), pcV_int, e]
  | .lam b, h, k, r, hk => by
    show scanV (k + 1) (V.str "lam" :: (b.enc ++ r)) = _
    have e : k + 1 + (1 - 1) = k + 1 := by omega
    rw [scanV, if_neg (by rw [node_lam]; simp; omega), pcV_lam, e]
    exact scan_enc b h k r hk
  | .app f a, h, k, r, hk => by
    show scanV (k + 1) (V.str "app" :: (f.enc ++ a.enc ++ r)) = _
    have e : k + 1 + (2 - 1) = k + 1 + 1 := by omega
    rw [scanV, if_neg (by rw [node_app]; simp; omega), pcV_app, e, List.append_assoc, scan_enc f h.1 (k + 1) _ (by omega)]
    exact scan_enc a h.2 k r hk
theorem scan_tm {t : Tm} (h : t.vars 1000000) : scanV 1 t.enc = true := by
  have := scan_enc t h 0 [] (by omega)
  rw [List.append_nil] at this
  rw [show (1 : Int) = 0 + 1 from rfl, this]
  rfl
theorem ok_vars : ∀ {t : Tm}, t.vars 1000000 → t.enc.all okV = true
  | .var n, h => by
    have h : n ≤ 1000000 := h
    simp [Tm.enc, okV]
    omega
  | .lam b, h => by
    have := ok_vars (t := b) h
    simp only [Tm.enc, List.all_cons, this]
    rfl
  | .app f a, h => by
    have h1 := ok_vars (t := f) h.1
    have h2 := ok_vars (t := a) h.2
    simp only [Tm.enc, List.all_cons, List.all_append, h1, h2]
    rfl
/-! ### the depths of a term's places -/
def Tm.deps : Nat → Tm → List Nat
  | d, .var _ => [d]
  | d, .lam b => d :: b.deps (d + 1)
  | d, .app f a => d :: (f.deps d ++ a.deps d)
theorem Tm.deps_len : ∀ (t : Tm) (d : Nat), (t.deps d).length = t.enc.length
  | .var _, _ => rfl
  | .lam b, d => by simp [Tm.deps, Tm.enc, Tm.deps_len b]
  | .app f a, d => by simp [Tm.deps, Tm.enc, Tm.deps_len f, Tm.deps_len a]
theorem Tm.enc_ne : ∀ t : Tm, t.enc ≠ []
  | .var _ => by simp [Tm.enc]
  | .lam _ => by simp [Tm.enc]
  | .app _ _ => by simp [Tm.enc]
def depss : List Tm → List Nat → List Nat
  | t :: ts, d :: ds => t.deps d ++ depss ts ds
  | _, _ => []
theorem encs_cons (t : Tm) (ts : List Tm) : encs (t :: ts) = t.enc ++ encs ts := by simp [encs]
theorem encs_nil {ts : List Tm} (h : encs ts = []) : ts = [] := by
  cases ts with
  | nil => rfl
  | cons t r =>
    rw [encs_cons] at h
    exact absurd (List.append_eq_nil_iff.mp h).1 t.enc_ne
/-- in the midst of a walk over a term's nodes: what is left are the terms ts, whose depths wait (the last one first) -/
def DInv (t : Tm) (i : Nat) (found ds : List Nat) : Prop := ∃ ts : List Tm, t.enc.drop i = encs ts ∧ ts.length = ds.length ∧ t.deps 0 = found ++ depss ts ds.reverse
theorem DInv.start (t : Tm) : DInv t 0 [] [0] := ⟨[t], by simp [encs], rfl, by simp [depss]⟩
theorem DInv.done {t : Tm} {found ds : List Nat} (h : DInv t t.enc.length found ds) : found = t.deps 0 := by
  obtain ⟨ts, h1, h2, h3⟩ := h
  rw [List.drop_length] at h1
  have e := encs_nil h1.symm
  subst e
  rw [h3]
  simp [depss]
theorem DInv.step {t : Tm} {i : Nat} {found ds : List Nat} {v : V} (h : DInv t i found ds) (hv : t.enc[i]? = some v) : ∃ r d, ds = r ++ [d] ∧
    ((∃ n : Nat, v = .int n ∧ DInv t (i + 1) (found ++ [d]) r) ∨ (v = .str "lam" ∧ DInv t (i + 1) (found ++ [d]) (r ++ [d + 1])) ∨ (v = .str "app" ∧ DInv t (i + 1) (found ++ [d]) (r ++ [d] ++ [d]))) := by
  obtain ⟨ts, h1, h2, h3⟩ := h
  rw [drop_at hv] at h1
  match ts, h1, h2, h3 with
  | [], h1, _, _ => cases h1
  | t1 :: r1, h1, h2, h3 =>
    have hne : ds ≠ [] := fun e => by
      rw [e] at h2
      cases h2
    refine ⟨ds.dropLast, ds.getLast hne, (List.dropLast_concat_getLast hne).symm, ?_⟩
    generalize hr : ds.dropLast = r at *
    generalize hd : ds.getLast hne = d at *
    have hds : ds = r ++ [d] := by rw [← hr, ← hd]; exact (List.dropLast_concat_getLast hne).symm
    subst hds
    rw [List.reverse_append] at h3
    have h3 : t.deps 0 = found ++ (t1.deps d ++ depss r1 r.reverse) := h3
    have hl : r1.length = r.length := by simpa using h2
    rw [encs_cons] at h1
    cases t1 with
    | var n =>
      have h1 : v :: t.enc.drop (i + 1) = V.int n :: encs r1 := h1
      injection h1 with e1 e2
      exact .inl ⟨n, e1, r1, e2, hl, by rw [h3]; simp [Tm.deps]⟩
    | lam b =>
      have h1 : v :: t.enc.drop (i + 1) = V.str "lam" :: (b.enc ++ encs r1) := h1
      injection h1 with e1 e2
      exact .inr (.inl ⟨e1, b :: r1, by rw [e2, encs_cons], by simp [hl], by rw [h3, List.reverse_append]; simp [Tm.deps, depss]⟩)
    | app f a =>
      have h1 : v :: t.enc.drop (i + 1) = V.str "app" :: (f.enc ++ a.enc ++ encs r1) := h1
      injection h1 with e1 e2
      exact .inr (.inr ⟨e1, f :: a :: r1, by rw [e2, encs_cons, encs_cons, List.append_assoc], by simp [hl], by rw [h3, List.reverse_append, List.reverse_append]; simp [Tm.deps, depss]⟩)
/-! ### a term's variables changed place by place -/
def Tm.vmap (g : Nat → Nat → Nat) : Nat → Tm → Tm
  | d, .var n => .var (g d n)
  | d, .lam b => .lam (b.vmap g (d + 1))
  | d, .app f a => .app (f.vmap g d) (a.vmap g d)
def vm (g : Nat → Nat → Nat) (v : V) (d : Nat) : V := match v with
  | .int n => .int (g d n.toNat)
  | v => v
theorem Tm.deps_vmap (g : Nat → Nat → Nat) : ∀ (t : Tm) (d : Nat), (t.vmap g d).deps d = t.deps d
  | .var _, _ => rfl
  | .lam b, d => by simp [Tm.vmap, Tm.deps, Tm.deps_vmap g b]
  | .app f a, d => by simp [Tm.vmap, Tm.deps, Tm.deps_vmap g f, Tm.deps_vmap g a]
theorem Tm.enc_vmap (g : Nat → Nat → Nat) : ∀ (t : Tm) (d : Nat), (t.vmap g d).enc = List.zipWith (vm g) t.enc (t.deps d)
  | .var _, _ => rfl
  | .lam b, d => by simp [Tm.vmap, Tm.deps, Tm.enc, Tm.enc_vmap g b, vm]
  | .app f a, d => by
    have hl : f.enc.length = (f.deps d).length := (Tm.deps_len f d).symm
    simp only [Tm.vmap, Tm.deps, Tm.enc, List.zipWith_cons_cons, Tm.enc_vmap g f, Tm.enc_vmap g a, List.zipWith_append hl]
    rfl
theorem zip_take {α β γ : Type} {f : α → β → γ} {xs : List α} {ys : List β} {i : Nat} {x : α} {y : β} (hx : xs[i]? = some x) (hy : ys[i]? = some y) : (List.zipWith f xs ys).take (i + 1) = (List.zipWith f xs ys).take i ++ [f x y] := by
  rw [List.take_add_one, List.getElem?_zipWith, hx, hy]
  rfl
/-- the free variables, place by place -/
def frv (v : V) (d : Nat) : List Int := match v with
  | .int n => if (d : Int) ≤ n then [n - d] else []
  | _ => []
def frs (xs : List V) (ds : List Nat) : List Int := (List.zipWith frv xs ds).flatten
theorem Tm.int_nat : ∀ {t : Tm} {v : V}, v ∈ t.enc → (∃ n : Nat, v = .int n) ∨ v = .str "lam" ∨ v = .str "app"
  | .var n, v, h => .inl ⟨n, by simpa [Tm.enc] using h⟩
  | .lam b, v, h => by
    rcases List.mem_cons.mp h with e | e
    · exact .inr (.inl e)
    · exact Tm.int_nat (t := b) e
  | .app f a, v, h => by
    rcases List.mem_cons.mp h with e | e
    · exact .inr (.inr e)
    · rcases List.mem_append.mp e with e | e
      · exact Tm.int_nat (t := f) e
      · exact Tm.int_nat (t := a) e
theorem sorted_one : ∀ {ns ms : List Int}, ns.Pairwise (· < ·) → ms.Pairwise (· < ·) → (∀ j, j ∈ ns ↔ j ∈ ms) → ns = ms
  | [], [], _, _, _ => rfl
  | [], m :: ms, _, _, h => absurd ((h m).mpr List.mem_cons_self) (by simp)
  | n :: ns, [], _, _, h => absurd ((h n).mp List.mem_cons_self) (by simp)
  | n :: ns, m :: ms, h1, h2, h => by
    obtain ⟨a1, b1⟩ := List.pairwise_cons.mp h1
    obtain ⟨a2, b2⟩ := List.pairwise_cons.mp h2
    have e : n = m := by
      rcases List.mem_cons.mp ((h n).mp List.mem_cons_self) with q | q
      · exact q
      · rcases List.mem_cons.mp ((h m).mpr List.mem_cons_self) with p | p
        · exact p.symm
        · have l1 := a1 m p
          have l2 := a2 n q
          omega
    subst e
    rw [sorted_one b1 b2 fun j => ?_]
    constructor
    · intro hj
      rcases List.mem_cons.mp ((h j).mp (List.mem_cons_of_mem _ hj)) with q | q
      · have := a1 j hj
        omega
      · exact q
    · intro hj
      rcases List.mem_cons.mp ((h j).mpr (List.mem_cons_of_mem _ hj)) with q | q
      · have := a2 j hj
        omega
      · exact q
theorem le_lt {ns : List Int} (h : ns.Pairwise (· ≤ ·)) (n : ns.Nodup) : ns.Pairwise (· < ·) := by
  induction ns with
  | nil => exact .nil
  | cons a r ih =>
    obtain ⟨h1, h2⟩ := List.pairwise_cons.mp h
    obtain ⟨n1, n2⟩ := List.nodup_cons.mp n
    refine List.pairwise_cons.mpr ⟨fun b hb => ?_, ih h2 n2⟩
    have l := h1 b hb
    have ne : a ≠ b := fun e => n1 (by rw [e]; exact hb)
    omega
section
variable {K : PySem.W.Frag} {H : Hp} {Q : VK} {a b : Addr} {xs ys : List V}
theorem shapedL_nodes {xs : List V} (h : Nds xs) : SeqAt.shaped (.list (xs.map dv)) = true := by
  have h1 : (PyData.list (xs.map dv)).canLay0 = true := lay_nodes h
  have h2 : (PyData.list (xs.map dv)).depth ≤ 2 := by
    have h := depth_all xs
    simp only [PyData.depth]
    omega
  unfold SeqAt.shaped
  rw [h1, Bool.true_and]
  exact decide_eq_true (by omega)
theorem w_eqL (h : SqL K H a xs) (k : SqL K H b ys) (n : Nds xs) (m : Nds ys) (q : Q (.bl (decide (xs = ys))) H) : rEqD K (.ref a) (.ref b) H Q :=
  ⟨_, _, .lst h (dp_nodes n), .lst k (dp_nodes m), shapedL_nodes n, shapedL_nodes m, by rw [PyData.eqv, eqv_nodes n m]; exact q⟩
theorem w_neL (h : SqL K H a xs) (k : SqL K H b ys) (n : Nds xs) (m : Nds ys) (q : Q (.bl (!decide (xs = ys))) H) : rNeD K (.ref a) (.ref b) H Q :=
  ⟨_, _, .lst h (dp_nodes n), .lst k (dp_nodes m), shapedL_nodes n, shapedL_nodes m, by rw [PyData.eqv, eqv_nodes n m]; exact q⟩
theorem Nds.ofInts (ns : List Int) : Nds (ns.map V.int) := fun x hx => by
  obtain ⟨i, _, e⟩ := List.mem_map.mp hx
  exact .inl ⟨i, e.symm⟩
theorem inV_ints (z : Int) : ∀ ms : List Int, inV (.int z) (ms.map V.int) = decide (z ∈ ms)
  | [] => by simp [inV]
  | m :: ms => by
    have ih := inV_ints z ms
    unfold inV at ih ⊢
    rw [List.map_cons, List.any_cons, ih]
    have e : eqV (.int m) (.int z) = (m == z) := rfl
    rw [e]
    by_cases h : m = z
    · subst h
      simp
    · have h2 : z ≠ m := fun e => h e.symm
      simp [h, h2]
theorem flat_ints : ∀ ms : List Int, (ms.map V.int).all flatV = true
  | [] => rfl
  | m :: ms => by
    rw [List.map_cons, List.all_cons, flat_ints ms]
    rfl
theorem w_nin {p : Addr} {ms : List Int} {z : Int} (h : SqL K H p (ms.map V.int)) (q : Q (.bl (!decide (z ∈ ms))) H) : rIn K true (.int z) (.ref p) H Q :=
  ⟨p, _, rfl, .inl h, rfl, flat_ints ms, by rw [inV_ints]; exact q⟩
theorem w_sorted {p : Addr} {ms : List Int} (h : SqL K H p (ms.map V.int)) (q : ∀ (ns : List Int) (l : Addr), ns.Perm ms → ns.Pairwise (· ≤ ·) → H l = none → Q (.ref l) (upd H l (.lst (ns.map V.int)))) : rSortedI K [.ref p] H Q := ⟨p, ms, rfl, h, q⟩
theorem map_int_inj {ns ms : List Int} (h : ns.map V.int = ms.map V.int) : ns = ms := by
  have := congrArg (List.map fun v => match v with | V.int i => i | _ => 0) h
  simpa [List.map_map, Function.comp_def] using this
end
/-! ### the law's stream of numbers -/
structure Stm where
  home : Addr
  cells : List Int
  cur : Int
  pos : Nat
  mix : Int
def Stm.take (m : Stm) : Stm := if m.cur = 0 ∧ m.pos < m.cells.length then { m with cur := (if m.cells.getD m.pos 0 < 0 then -(m.cells.getD m.pos 0) else m.cells.getD m.pos 0), pos := m.pos + 1 } else m
def Stm.turn (m : Stm) : Stm := { m with mix := (m.mix * 48271 + 11).fmod 2147483647 }
def Stm.next (m : Stm) (n : Int) : Stm := if m.take.cur = 0 then m.take.turn else { m.take with cur := m.take.cur.fdiv n }
def Stm.val (m : Stm) (n : Int) : Int := if m.take.cur = 0 then (m.take.turn.mix.fdiv 97).fmod n else m.take.cur.fmod n
theorem fmod_lt {a n : Int} (h : 0 < n) : 0 ≤ a.fmod n ∧ a.fmod n < n := ⟨Int.fmod_nonneg_of_pos a h, Int.fmod_lt_of_pos a h⟩
theorem Stm.val_lt (m : Stm) {n : Int} (h : 0 < n) : 0 ≤ m.val n ∧ m.val n < n := by
  unfold Stm.val
  split
  · exact fmod_lt h
  · exact fmod_lt h
def mixOf (ns : List Int) : Int := ns.foldl (fun m c => (m * 48271 + c.fmod 65521 + 1).fmod 2147483647) 17
theorem mixOf_take {ns : List Int} {i : Nat} {z : Int} (h : ns[i]? = some z) : mixOf (ns.take (i + 1)) = (mixOf (ns.take i) * 48271 + z.fmod 65521 + 1).fmod 2147483647 := by
  rw [List.take_add_one, h]
  unfold mixOf
  rw [List.foldl_append]
  rfl
theorem get_int {ns : List Int} {i : Nat} {x : V} (h : (ns.map V.int)[i]? = some x) : ∃ z, ns[i]? = some z ∧ x = .int z := by
  rw [List.getElem?_map] at h
  cases e : ns[i]? with
  | none => rw [e] at h; cases h
  | some z => rw [e] at h; exact ⟨z, rfl, (Option.some.inj h).symm⟩
theorem at_map {ns : List Int} {j : Nat} (h : j < ns.length) : atI (ns.map V.int) (j : Int) = some (.int (ns.getD j 0)) := by
  refine atI_nat ?_
  rw [List.getElem?_map, List.getElem?_eq_getElem h, List.getD_eq_getElem?_getD, List.getElem?_eq_getElem h]
  rfl
theorem Stm.take_cells (m : Stm) : m.take.cells = m.cells := by
  unfold Stm.take
  split <;> rfl
theorem Stm.take_home (m : Stm) : m.take.home = m.home := by
  unfold Stm.take
  split <;> rfl
/-- the stream goes on: the same list of numbers at the same place -/
def Fol (m m' : Stm) : Prop := m'.home = m.home ∧ m'.cells = m.cells
theorem Fol.refl (m : Stm) : Fol m m := ⟨rfl, rfl⟩
theorem Fol.trans {m m1 m2 : Stm} (h : Fol m m1) (k : Fol m1 m2) : Fol m m2 := ⟨k.1.trans h.1, k.2.trans h.2⟩
theorem Fol.next (m : Stm) (n : Int) : Fol m (m.next n) := by
  unfold Stm.next
  split
  · exact ⟨m.take_home, m.take_cells⟩
  · exact ⟨m.take_home, m.take_cells⟩
theorem Fol.step {m m1 : Stm} (h : Fol m m1) (n : Int) : Fol m (m1.next n) := h.trans (Fol.next m1 n)
def StAt (H : Hp) (s : Addr) (m : Stm) : Prop := m.home ≠ s ∧ H s = some (.lst [.ref m.home, .int m.cur, .int m.pos, .int m.mix]) ∧ H m.home = some (.lst (m.cells.map V.int))
theorem StAt.ex {H H' : Hp} {s : Addr} {m : Stm} (h : StAt H s m) (e : Ex H H') : StAt H' s m := ⟨h.1, e _ _ h.2.1, e _ _ h.2.2⟩
theorem StAt.is {H : Hp} {s : Addr} {m : Stm} (h : StAt H s m) : ∃ ys, H s = some (.lst ys) := ⟨_, h.2.1⟩
theorem StAt.put {H : Hp} {s r : Addr} {m : Stm} {o : HO} (h : StAt H s m) (hs : r ≠ s) (hl : r ≠ m.home) : StAt (upd H r o) s m :=
  ⟨h.1, by rw [upd_ne hs.symm]; exact h.2.1, by rw [upd_ne hl.symm]; exact h.2.2⟩
theorem StAt.new {H : Hp} {s r : Addr} {m : Stm} {o : HO} (h : StAt H s m) (hr : H r = none) : StAt (upd H r o) s m := h.ex (Ex.new hr)
theorem StAt.ne {H : Hp} {s r : Addr} {m : Stm} (h : StAt H s m) (hr : H r = none) : r ≠ s ∧ r ≠ m.home := ⟨(ne_of_none h.2.1 hr).symm, (ne_of_none h.2.2 hr).symm⟩
theorem Kp.st {H H' : Hp} {s : Addr} {m m' : Stm} (e : Fr s H H') (h : StAt H s m) (h' : StAt H' s m') : Kp H H' := by
  obtain ⟨ys, h⟩ := h.is
  obtain ⟨zs, h'⟩ := h'.is
  exact Kp.fr e h h'
end Ly
set_option Elab.async false
set_option linter.all false
set_option maxRecDepth 100000
set_option maxHeartbeats 4000000
/-! zip of two sources of any kind, in a for -/
namespace Ly
open PySem PySem.Spec PyProof.Rows L2 Evl
/-- what one source of a zip gives: C tells its items by the abstract heap -/
structure ZSrc (P : Program) (w : World) (K : PySem.W.Frag) (C : Hp → List V → Prop) (it : Addr) (fp : List Addr) (st : Nat → Heap → Prop) : Prop where
  obj : ∀ i h, st i h → ∃ o, h.get? it = some o ∧ ∀ v, o.data ≠ .cell v
  keep : ∀ i h h', st i h → (∀ o, h.get? it = some o → h'.get? it = some o) → st i h'
  inj : ∀ (X : Cx), X.prog = P → X.w = w → X.K = K → ∀ (pins : List (Addr × Obj)) (σ : L2.St) (H : Hp) (s : Shared) (xs ys : List V), Inv X pins σ H s → C H xs → C H ys → xs = ys
  draws : ∀ (X : Cx), X.prog = P → X.w = w → X.K = K → X.A.handled = none → ∀ (pins : List (Addr × Obj)) (σ : L2.St) (H : Hp) (s : Shared) (xs : List V), Inv X pins σ H s → C H xs →
    ∃ (Pr : Nat → Value → Prop) (CT : Heap → Prop), Draws P w X.A.in1 it fp xs.length Pr (fun i h => st i h ∧ CT h) ∧ CT s.heap ∧ ∀ i u, Pr i u → ∃ v, xs[i]? = some v ∧ RelV v u
def ItzC (C1 C2 : Hp → List V → Prop) : It :=
  ⟨fun i H => ∃ (xs ys : List V) (x y : V), C1 H xs ∧ C2 H ys ∧ xs[i]? = some x ∧ ys[i]? = some y,
    fun i H v H' => ∃ (T : Addr) (x y : V), v = .ref T ∧ H T = none ∧ H' = upd H T (.tup [x, y]) ∧ (∀ xs, C1 H xs → xs[i]? = some x) ∧ ∀ ys, C2 H ys → ys[i]? = some y,
    fun i H => ∃ xs ys : List V, C1 H xs ∧ C2 H ys ∧ i ≤ xs.length ∧ i ≤ ys.length ∧ (i = xs.length ∨ i = ys.length)⟩
theorem five {α : Type} {c a1 a2 a3 a4 a5 : α} (h : c ∈ [a1, a2, a3, a4, a5]) : c = a1 ∨ c = a2 ∨ c = a3 ∨ c = a4 ∨ c = a5 := by simpa using h
theorem turn_zipC {P : Program} {w : World} {K : PySem.W.Frag} {elts : List Expr} {kk : Nat} {tpos : Pos} {C1 C2 : Hp → List V → Prop} {z TI TO i1 i2 : Addr} {fp1 fp2 : List Addr} {st1 st2 : Nat → Heap → Prop}
    (S : ZipSep2 z TI TO i1 i2 fp1 fp2) (Z1 : ZSrc P w K C1 i1 fp1 st1) (Z2 : ZSrc P w K C2 i2 fp2 st2) :
    Turn P w K (.Tuple elts kk tpos) (ItzC C1 C2) [z, TI, TO, i1, i2] z (fun i h => IsZip h z TI TO .none ∧ IsTupOf2 h TI (.ref i1) (.ref i2) ∧ (∃ x y, IsTupOf2 h TO x y) ∧ st1 i h ∧ st2 i h) where
  mem := List.mem_cons_self
  obj := fun i h ⟨hz, hI, ⟨_, _, hO⟩, q1, q2⟩ c hc => by
    rcases five hc with rfl | rfl | rfl | rfl | rfl
    · exact ⟨_, hz, fun _ q => nomatch q⟩
    · exact ⟨_, hI, fun _ q => nomatch q⟩
    · exact ⟨_, hO, fun _ q => nomatch q⟩
    · exact Z1.obj i h q1
    · exact Z2.obj i h q2
  keep := fun i h h' ⟨hz, hI, ⟨x, y, hO⟩, q1, q2⟩ k =>
    ⟨k z (by simp) _ hz, k TI (by simp) _ hI, ⟨x, y, k TO (by simp) _ hO⟩, Z1.keep i h h' q1 (fun o e => k i1 (by simp) o e), Z2.keep i h h' q2 (fun o e => k i2 (by simp) o e)⟩
  item := fun X hP hw hK hc i pins s σ H E I hf st hg => by
    obtain ⟨hz, hI, ⟨x0, y0, hO⟩, q1, q2⟩ := st
    obtain ⟨xs, ys, x, y, c1, c2, hx, hy⟩ := hg
    obtain ⟨Pr1, CT1, D1, t1, r1⟩ := Z1.draws X hP hw hK (I.ok.hd hc) pins σ H s xs I c1
    obtain ⟨Pr2, CT2, D2, t2, r2⟩ := Z2.draws X hP hw hK (I.ok.hd hc) pins σ H s ys I c2
    have l1 : i < xs.length := (List.getElem?_eq_some_iff.mp hx).1
    have l2 : i < ys.length := (List.getElem?_eq_some_iff.mp hy).1
    have zl : z < s.heap.objs.size := Heap.lt_size hz
    refine wpAny_pyNext_zipD2_item S D1 D2 hz hI hO ⟨q1, t1⟩ ⟨q2, t2⟩ l1 l2 fun u1 u2 h' tk p1 p2 z' O' n1 n2 hT hsz hk => ?_
    obtain ⟨v1, e1, rv1⟩ := r1 i u1 p1
    obtain ⟨v2, e2, rv2⟩ := r2 i u2 p2
    have ev1 : v1 = x := Option.some.inj (e1.symm.trans hx)
    have ev2 : v2 = y := Option.some.inj (e2.symm.trans hy)
    subst ev1 ev2
    refine ⟨_, rfl, wpAny_letOwnedTupleGo_zip (s := { s with heap := h', toks := tk }) z' fun h2 z2 sb => ?_⟩
    have stay : ∀ c o, c ≠ z → c ≠ TO → c ≠ i1 → c ≠ i2 → s.heap.get? c = some o → h2.get? c = some o := fun c o k1 k2 k3 k4 e => (sb.2 c k1).trans (hk c o k1 k2 k3 k4 e)
    have made : ObjOk X.prog X.w (upd H s.heap.objs.size (.tup [v1, v2])) h2 s.heap.objs.size (.tup [v1, v2]) :=
      ⟨sz_of (Nat.le_of_ble_eq_true rfl), [u1, u2], .cons rv1 (.cons rv2 .nil), ⟨_, (sb.2 _ (Nat.ne_of_gt zl)).trans hT, rfl, _, rfl⟩⟩
    have J := I.turnedNew (t' := tk) (ch := [z, TI, TO, i1, i2]) (h' := h2) (fun c o hb e => stay c o (fun q => hb (by simp [q])) (fun q => hb (by simp [q])) (fun q => hb (by simp [q])) (fun q => hb (by simp [q])) e) hf (Nat.le_refl _) made
    refine ⟨.ref s.heap.objs.size, _, J, rfl, ⟨_, v1, v2, rfl, I.hok.fresh (Nat.le_refl _), rfl, fun l hl => ?_, fun l hl => ?_⟩, ⟨z2, ?_, ⟨u1, u2, ?_⟩, ?_, ?_⟩, fun c hcm => ?_⟩
    · rw [Z1.inj X hP hw hK pins σ H s l xs I hl c1]
      exact hx
    · rw [Z2.inj X hP hw hK pins σ H s l ys I hl c2]
      exact hy
    · exact stay _ _ S.TIz S.TITO S.TIi1 S.TIi2 hI
    · exact (sb.2 _ S.TOz).trans O'
    · exact Z1.keep _ _ _ n1.1 fun o e => (sb.2 _ (Ne.symm S.zi1)).trans e
    · exact Z2.keep _ _ _ n2.1 fun o e => (sb.2 _ (Ne.symm S.zi2)).trans e
    · have lt : c < s.heap.objs.size := by
        rcases five hcm with q | q | q | q | q
        · rw [q]; exact zl
        · rw [q]; exact Heap.lt_size hI
        · rw [q]; exact Heap.lt_size hO
        · rw [q]; obtain ⟨_, e, _⟩ := Z1.obj _ _ q1; exact Heap.lt_size e
        · rw [q]; obtain ⟨_, e, _⟩ := Z2.obj _ _ q2; exact Heap.lt_size e
      rw [upd_ne (Nat.ne_of_lt lt)]
      exact (hf c hcm).1
  done := fun X hP hw hK hc i pins s σ H E I hf st hg => by
    obtain ⟨hz, hI, ⟨x0, y0, hO⟩, q1, q2⟩ := st
    obtain ⟨xs, ys, c1, c2, l1, l2, hend⟩ := hg
    obtain ⟨Pr1, CT1, D1, t1, r1⟩ := Z1.draws X hP hw hK (I.ok.hd hc) pins σ H s xs I c1
    obtain ⟨Pr2, CT2, D2, t2, r2⟩ := Z2.draws X hP hw hK (I.ok.hd hc) pins σ H s ys I c2
    exact wpAny_pyNext_zipD2_end S D1 D2 hz hI hO ⟨q1, t1⟩ ⟨q2, t2⟩ l1 l2 hend fun h' tk hk => ⟨rfl, I.turnedL (t' := tk) (ch := [z, TI, TO, i1, i2]) (fun c o hb e =>
      hk c o (fun q => hb (by simp [q])) (fun q => hb (by simp [q])) (fun q => hb (by simp [q])) (fun q => hb (by simp [q])) e) hf⟩
  self := fun A i s Q E ⟨hz, _⟩ h => wpAny_pyIter_zip hz h
/-- the sources -/
theorem src_tup {P : Program} {w : World} {K : PySem.W.Frag} {a it : Addr} (hne : a ≠ it) : ZSrc P w K (fun H xs => SqT K H a xs) it [it, a] (fun i h => h.IsTupleIter it a i) where
  obj := fun i h st => by
    obtain ⟨o, e, _, d⟩ := st
    exact ⟨o, e, fun v z => by rw [d] at z; cases z⟩
  keep := fun i h h' st k => st.at fun o e => k o e
  inj := fun X hP hw hK pins σ H s xs ys I h1 h2 => by
    subst hP hw hK
    exact I.tuple_inj h1 h2
  draws := fun X hP hw hK hh pins σ H s xs I h => by
    subst hP hw hK
    obtain ⟨its, rv, p, _⟩ := I.tuple h
    have el : xs.length = its.toArray.size := by rw [List.size_toArray]; exact rv.length
    rw [el]
    refine ⟨fun i v => its.toArray[i]? = some v, fun h => h.IsTuple a its.toArray, Draws.tuple (A := X.A.in1) (show X.A.in1.handled = none from hh) it a hne its.toArray, p, fun i u hu => ?_⟩
    have hu2 : its[i]? = some u := by simpa using hu
    obtain ⟨hl, hg⟩ := List.getElem?_eq_some_iff.mp hu2
    have hl2 : i < xs.length := by rw [rv.length]; exact hl
    obtain ⟨u2, g2, rr⟩ := rv.get (List.getElem?_eq_getElem hl2)
    rw [hu2] at g2
    cases g2
    exact ⟨_, List.getElem?_eq_getElem hl2, rr⟩
theorem src_lst {P : Program} {w : World} {K : PySem.W.Frag} {a it : Addr} (hne : a ≠ it) : ZSrc P w K (fun H xs => SqL K H a xs) it [it, a] (fun i h => h.IsListIter it a i) where
  obj := fun i h st => by
    obtain ⟨o, e, _, d⟩ := st
    exact ⟨o, e, fun v z => by rw [d] at z; cases z⟩
  keep := fun i h h' st k => st.at fun o e => k o e
  inj := fun X hP hw hK pins σ H s xs ys I h1 h2 => by
    subst hP hw hK
    exact I.list_inj h1 h2
  draws := fun X hP hw hK hh pins σ H s xs I h => by
    subst hP hw hK
    obtain ⟨its, rv, p, _⟩ := I.list h
    have el : xs.length = its.toArray.size := by rw [List.size_toArray]; exact rv.length
    rw [el]
    refine ⟨fun i v => its.toArray[i]? = some v, fun h => h.IsList a its.toArray, Draws.list (A := X.A.in1) (show X.A.in1.handled = none from hh) it a hne its.toArray, p.isList, fun i u hu => ?_⟩
    have hu2 : its[i]? = some u := by simpa using hu
    obtain ⟨hl, hg⟩ := List.getElem?_eq_some_iff.mp hu2
    have hl2 : i < xs.length := by rw [rv.length]; exact hl
    obtain ⟨u2, g2, rr⟩ := rv.get (List.getElem?_eq_getElem hl2)
    rw [hu2] at g2
    cases g2
    exact ⟨_, List.getElem?_eq_getElem hl2, rr⟩
def signs (z : Str) : List V := z.cps.toList.map fun c => V.str ⟨#[c]⟩
theorem src_str {P : Program} {w : World} {K : PySem.W.Frag} {z : Str} {t : Tok} {it : Addr} : ZSrc P w K (fun _ xs => xs = signs z) it [it] (fun i h => h.IsStrIter it (strIterType z) z t i) where
  obj := fun i h st => by
    obtain ⟨o, e, _, d⟩ := st
    exact ⟨o, e, fun v z => by rw [d] at z; cases z⟩
  keep := fun i h h' st k => by
    obtain ⟨o, e, d⟩ := st
    exact ⟨o, k o e, d⟩
  inj := fun X hP hw hK pins σ H s xs ys I h1 h2 => h1.trans h2.symm
  draws := fun X hP hw hK hh pins σ H s xs I h => by
    subst h hP hw hK
    have D := Draws.text (prog := X.prog) (w := X.w) (A := X.A.in1) (show X.A.in1.handled = none from hh) it z t
    have el : (signs z).length = z.cps.size := by simp [signs]
    rw [el]
    refine ⟨fun i v => ∃ c u, z.cps[i]? = some c ∧ v = .str ⟨#[c]⟩ u, fun _ => True, ⟨fun i h st => D.live i h st.1, fun i h h' st k => ⟨D.frame i h h' st.1 k, trivial⟩, fun i s Q E hi st hQ => D.item i s Q E hi st.1 fun x h' tk p q r => hQ x h' tk p ⟨q, trivial⟩ r, fun s Q E st hE => D.done s Q E st.1 hE⟩, trivial, fun i u hu => ?_⟩
    obtain ⟨c, tk, hc, rfl⟩ := hu
    refine ⟨.str ⟨#[c]⟩, ?_, tk, rfl⟩
    unfold signs
    rw [List.getElem?_map, Array.getElem?_toList, hc]
    rfl
def iZipTL (K : PySem.W.Frag) (ta : TA) : TI := fun σ H R => ta σ H fun vs H1 => ∃ a b xs ys, vs = [.ref a, .ref b] ∧ SqT K H1 a xs ∧ SqL K H1 b ys ∧ R (ItzC (fun H xs => SqT K H a xs) (fun H ys => SqL K H b ys)) H1
def iZipSS (ta : TA) : TI := fun σ H R => ta σ H fun vs H1 => ∃ z u, vs = [.str z, .str u] ∧ R (ItzC (fun _ xs => xs = signs z) (fun _ ys => ys = signs u)) H1
theorem fresh_cells {X : Cx} {pins : List (Addr × Obj)} {σ : L2.St} {H : Hp} {s : Shared} (I : Inv X pins σ H s) : ∀ c ∈ [s.heap.objs.size + 4, s.heap.objs.size + 2, s.heap.objs.size + 3, s.heap.objs.size, s.heap.objs.size + 1], FpOk X pins H c := fun c hc => by
  have le : s.heap.objs.size ≤ c := by
    rcases five hc with q | q | q | q | q <;> omega
  exact I.fpOk le (I.hok.fresh le)
theorem pi_zipM {X : Cx} {e e2 : Expr} {ta : TA} {p pos tpos : Pos} {elts : List Expr} {kk : Nat} (hg : Gl X "zip") (hm : X.mg "zip" = none) (ha : PA X [e, e2] ta)
    (hs : starEach [e, e2] X.env = (false, eval e X.env) :: starEach [e2] X.env := by rfl) (hpl : (backTo pos (starEach [e2] X.env)).any (·.1) = false := by rfl) :
    PI X (.Tuple elts kk tpos) (.Call (.Name "zip" p) [e, e2] [] pos) (iZipTL X.K ta) := ⟨fun pins s σ H R I h =>
  Call_ (ld_blt I hg hm PyProof.Rows.boot_zip (PyProof.Rows.callWith_type1 (thn (ha.run pos pins s σ H _ I h) fun us s1 ⟨vs, H1, J, rv, q⟩ => by
    obtain ⟨a, b, xs, ys, ev, hx, hy, q⟩ := q
    subst ev
    obtain ⟨u1, us1, e1, r1, rv1⟩ : ∃ u1 us1, us = u1 :: us1 ∧ RelV (.ref a) u1 ∧ Vals [.ref b] us1 := by
      cases rv with
      | cons r rr => exact ⟨_, _, rfl, r, rr⟩
    obtain ⟨u2, e2', r2⟩ := vals1 rv1
    subst e1 e2'
    cases r1
    cases r2
    obtain ⟨its, _, p1, _⟩ := J.tuple hx
    obtain ⟨its2, _, p2, _⟩ := J.list hy
    refine zip_begins2 (begins_tuple a its.toArray) (begins_list b its2.toArray) p1 p2.isList fun h' hz hI hO g1 g2 hsz hk => wpAny_pyIter_zip hz ?_
    have la : a < s1.heap.objs.size := by
      obtain ⟨_, z, _⟩ := id p1
      exact Heap.lt_size z
    have lb := p2.lt
    refine ⟨s1.heap.objs.size + 4, _, _, _, H1, rfl, J.kept (t' := s1.toks) hk, turn_zipC (zip_sep2 (N := s1.heap.objs.size) (fp1 := [a]) (fp2 := [b]) ?_ ?_) (src_tup (Nat.ne_of_lt la)) (src_lst (Nat.ne_of_lt (Nat.lt_succ_of_lt lb))), ⟨hz, hI, ⟨_, _, hO⟩, ⟨_, g1, rfl, rfl⟩, ⟨_, g2, rfl, rfl⟩⟩, fresh_cells J, q⟩
    · intro c hc
      rw [List.mem_singleton.mp hc]
      exact la
    · intro c hc
      rw [List.mem_singleton.mp hc]
      exact lb) hs hpl))⟩
theorem pi_zipS {X : Cx} {e e2 : Expr} {ta : TA} {p pos tpos : Pos} {elts : List Expr} {kk : Nat} (hg : Gl X "zip") (hm : X.mg "zip" = none) (ha : PA X [e, e2] ta)
    (hs : starEach [e, e2] X.env = (false, eval e X.env) :: starEach [e2] X.env := by rfl) (hpl : (backTo pos (starEach [e2] X.env)).any (·.1) = false := by rfl) :
    PI X (.Tuple elts kk tpos) (.Call (.Name "zip" p) [e, e2] [] pos) (iZipSS ta) := ⟨fun pins s σ H R I h =>
  Call_ (ld_blt I hg hm PyProof.Rows.boot_zip (PyProof.Rows.callWith_type1 (thn (ha.run pos pins s σ H _ I h) fun us s1 ⟨vs, H1, J, rv, q⟩ => by
    obtain ⟨z, y, ev, q⟩ := q
    subst ev
    obtain ⟨u1, us1, e1, r1, rv1⟩ : ∃ u1 us1, us = u1 :: us1 ∧ RelV (.str z) u1 ∧ Vals [.str y] us1 := by
      cases rv with
      | cons r rr => exact ⟨_, _, rfl, r, rr⟩
    obtain ⟨u2, e2', r2⟩ := vals1 rv1
    subst e1 e2'
    obtain ⟨t1, r1⟩ := r1
    obtain ⟨t2, r2⟩ := r2
    subst r1 r2
    refine zip_begins2 (begins_text z t1) (begins_text y t2) trivial trivial fun h' hz hI hO g1 g2 hsz hk => wpAny_pyIter_zip hz ?_
    refine ⟨s1.heap.objs.size + 4, _, _, _, H1, rfl, J.kept (t' := s1.toks) hk, turn_zipC (zip_sep2 (N := s1.heap.objs.size) (fp1 := []) (fp2 := []) (by simp) (by simp)) (src_str (z := z) (t := t1)) (src_str (z := y) (t := t2)), ⟨hz, hI, ⟨_, _, hO⟩, ⟨_, g1, rfl, rfl⟩, ⟨_, g2, rfl, rfl⟩⟩, fresh_cells J, q⟩) hs hpl))⟩
/-- a for over such a zip: n turns -/
theorem for_zipC {C1 C2 : Hp → List V → Prop} {xs ys : List V} {n : Nat} (hn : n = min xs.length ys.length) {g : TG} {tb : TS} {D : Ends} {σ : L2.St} {H : Hp} (Pv : Nat → L2.St → Hp → Prop) (h0 : Pv 0 σ H) (hC : ∀ i σ H, Pv i σ H → C1 H xs ∧ C2 H ys)
    (hs : ∀ (i : Nat) (x y : V) (T : Addr) (σ : L2.St) (H : Hp), xs[i]? = some x → ys[i]? = some y → Pv i σ H → H T = none → g (.ref T) σ (upd H T (.tup [x, y])) fun σ2 H2 => tb { D with nx := Pv (i + 1), ct := Pv (i + 1), bk := D.nx } σ2 H2)
    (hd : ∀ σ H, Pv n σ H → D.nx σ H) : ForB (ItzC C1 C2) g tb D σ H := by
  refine ⟨fun i m σ H => m = n - i ∧ i ≤ n ∧ Pv i σ H, ⟨n, rfl, Nat.zero_le _, h0⟩, fun i m σ H hW => ?_⟩
  obtain ⟨hm, hi, pv⟩ := hW
  obtain ⟨k1, k2⟩ := hC i σ H pv
  by_cases lt : i < n
  · have l1 : i < xs.length := by omega
    have l2 : i < ys.length := by omega
    refine .inr ⟨⟨xs, ys, xs[i], ys[i], k1, k2, List.getElem?_eq_getElem l1, List.getElem?_eq_getElem l2⟩, Pv (i + 1), fun σ' H' p' => ⟨n - (i + 1), by omega, rfl, lt, p'⟩, fun v H' hy => ?_⟩
    obtain ⟨T, x, y, e1, e2, e3, g1, g2⟩ := hy
    subst e1 e3
    exact hs i x y T σ H (g1 xs k1) (g2 ys k2) pv e2
  · have e : i = n := by omega
    subst e
    exact .inl ⟨⟨xs, ys, k1, k2, by omega, by omega, by omega⟩, hd σ H pv⟩
section
variable {K : PySem.W.Frag} {σ : L2.St} {H : Hp} {tA : TA} {R : It → Hp → Prop}
theorem w_iZ (h : tA σ H fun vs H1 => ∃ a b xs ys, vs = [.ref a, .ref b] ∧ SqT K H1 a xs ∧ SqL K H1 b ys ∧ R (ItzC (fun H xs => SqT K H a xs) (fun H ys => SqL K H b ys)) H1) : iZipTL K tA σ H R := h
theorem w_iZ1 {a b : Addr} {xs ys : List V} {B : Addr → Addr → Prop} (h : SqT K H a xs) (h2 : SqL K H b ys) (q : B a b) : ∃ a' b' us vs, [V.ref a, V.ref b] = [.ref a', .ref b'] ∧ SqT K H a' us ∧ SqL K H b' vs ∧ B a' b' := ⟨a, b, xs, ys, rfl, h, h2, q⟩
theorem w_iS (h : tA σ H fun vs H1 => ∃ z u, vs = [.str z, .str u] ∧ R (ItzC (fun _ xs => xs = signs z) (fun _ ys => ys = signs u)) H1) : iZipSS tA σ H R := h
theorem w_iS1 {z u : Str} {B : Str → Str → Prop} (q : B z u) : ∃ a b, [V.str z, V.str u] = [.str a, .str b] ∧ B a b := ⟨z, u, rfl, q⟩
theorem w_gtup {t : TGs} {a : Addr} {xs : List V} {n : Nat} {Rs : L2.St → Hp → Prop} (h : SqT K H a xs) (hn : xs.length = n) (q : t xs σ H Rs) : gTup K n t (.ref a) σ H Rs := ⟨a, xs, rfl, h, hn, q⟩
theorem w_gcons {t : TG} {u : TGs} {v : V} {r : List V} {Rs : L2.St → Hp → Prop} (q : t v σ H fun σ' H' => u r σ' H' Rs) : gCons t u (v :: r) σ H Rs := ⟨v, r, rfl, q⟩
theorem w_gnil {Rs : L2.St → Hp → Prop} (q : Rs σ H) : gNil [] σ H Rs := ⟨rfl, q⟩
end
end Ly
set_option Elab.async false
set_option linter.all false
set_option maxRecDepth 100000
set_option maxHeartbeats 2000000
/-! for x in reversed(a text) -/
namespace Ly
open PySem PySem.Spec PyProof.Rows L2 Evl
theorem sNoRev : typeLookup (.type "str") "__reversed__" = pure none := by
  rw [typeLookup_type, builtinLookup_eq_fast]
  kernel_rfl
theorem sGet : typeLookup (.type "str") "__getitem__" = pure (some (.builtin "str.__getitem__")) := by
  rw [typeLookup_type, builtinLookup_eq_fast]
  kernel_rfl
/-- the walker at it: what it walks over, the place that comes next -/
def RevAt (h : Heap) (it : Addr) (z : Str) (t : Tok) (i : Int) : Prop := ∃ o, h.get? it = some o ∧ o.cls = .type "reversed" ∧ o.data = .fields #[.str z t, rawInt i]
theorem RevAt.kind {s : Shared} {it : Addr} {z : Str} {t : Tok} {i : Int} (r : RevAt s.heap it z t i) : s.TypeIs (.ref it) "reversed" := by
  obtain ⟨o, e, c, _⟩ := r
  exact ⟨o, e, c⟩
section
variable {prog : Program} {w : World} {A : Around} {E : Value → Shared → Prop} {s : Shared} {z : Str} {t : Tok}
theorem rev_make {Q : Value → Shared → Prop} (hz : z.length ≤ sizeLine)
    (q : Q (.ref s.heap.objs.size) { s with heap := s.heap.push { cls := .type "reversed", data := .fields #[.str z t, rawInt ((z.length : Int) - 1)] }, toks := s.toks + 1 + 1 }) : wpAny (model prog w) A (call (.type "reversed") [.str z t]) Q E s := by
  have hT := typeIs_str s z t
  have l63 := line63
  refine callType_codes (Q₁ := fun v s1 => s1.TypeIs v "reversed" ∧ Q v s1) RT.called_rt (F.typeCall_reversed_1 _) F.entry_object_init (codeAny_of_tree ?_) fun v s1 h1 => ⟨h1.1, F.args_object_init_2 v _, object_init_meets RT.called_rt.init.lookup RT.called_rt.made (by decide) prog w A.in1 _ s1 ⟨h1.1, rfl, h1.2⟩⟩
  show wpAny _ A.in1.in1 (do checkBuiltinCall "reversed.__new__" ⟨[.type "reversed", .str z t], []⟩; again (.builtin "reversed.__new__" ⟨[.type "reversed", .str z t], []⟩)) _ _ s
  (refine wpAny_bind (wpAny_of_eq (F.newCall_reversed_1 _) (wpAny_pure ⟨plainId_quiet F.plain_reversed_new _, codeAny_builtin F.entry_reversed_new ?_⟩)); try dsimp only)
  rw [Around.under_plainId F.plain_reversed_new _]
  delta Builtin.«reversed.__new__»
  (refine wpAny_bind (wpAny_of_eq (newClass_reversed _) ?_); try dsimp only)
  (refine wpAny_bind (wpAny_of_eq (a := ()) rfl ?_); try dsimp only)
  (refine wpAny_bind (wpAny_of_eq (a := ()) rfl ?_); try dsimp only)
  (refine wpAny_bind (wpAny_specialOf hT sNoRev ?_); try dsimp only)
  refine wpAny_bind ?_
  wp_delta
  (refine wpAny_bind (wpAny_isInstance (T := "str") (U := "dict") (b := false) hT F.sub_str_dict ?_); try dsimp only)
  try rw [if_neg Bool.false_ne_true]
  try dsimp only
  (refine wpAny_bind (wpAny_specialOf hT sGet ?_); try dsimp only)
  try rw [if_pos (by decide +kernel)]
  refine wpAny_pure ?_
  try dsimp only
  try rw [if_neg (by decide)]
  try dsimp only
  refine wpAny_bind (P.len_str (by omega) ?_)
  (refine wpAny_bind (wpAny_of_eq (a := some ((z.length : Nat) : Int)) rfl ?_); try dsimp only)
  refine wpAny_bind ?_
  show wpAny _ _ (newObj (.type "reversed") (.fields #[.str z t, rawInt ((z.length : Int) - 1)])) _ _ _
  exact wpAny_newObj_type (wpAny_pure ⟨⟨_, Heap.get?_push_size _ rfl, rfl⟩, q⟩)
theorem rev_self {it : Addr} {i : Int} {Q : Value → Shared → Prop} (r : RevAt s.heap it z t i) (q : Q (.ref it) s) : wpAny (model prog w) A (pyIter (.ref it)) Q E s :=
  wpAny_pyIter_slot r.kind RT.slot_rt_iter (wpAny_call_entry RT.slot_rt_iter r.kind RT.entry_rt_iter (show wpAny _ _ (ret (.ref it)) _ _ s from wpAny_pure ⟨_, rfl, "reversed", _, r.kind, RT.slot_rt_next.lookup, q⟩) (RT.args_rt_iter _))
theorem rev_item {it : Addr} {i c : Nat} {Q : Option Value → Shared → Prop} (r : RevAt s.heap it z t (i : Int)) (hc : z.cps[i]? = some c) (hz : z.length ≤ sizeLine)
    (q : ∀ h', RevAt h' it z t ((i : Int) - 1) → Heap.SameBut it s.heap h' → Q (some (.str ⟨#[c]⟩ (s.toks + 1))) { s with heap := h', toks := s.toks + 1 + 1 }) : wpAny (model prog w) A (pyNext (.ref it)) Q E s := by
  have r0 := r
  obtain ⟨o, e, hcl, d⟩ := r
  have l63 := line63
  have hi : i < z.cps.size := (Array.getElem?_eq_some_iff.mp hc).1
  have hT := typeIs_str s z t
  have hl : z.length = z.cps.size := rfl
  delta pyNext
  refine wpAny_bind (wpAny_attempt (wpAny_callSpecial?_slot r0.kind RT.slot_rt_next (wpAny_call_entry RT.slot_rt_next r0.kind RT.entry_rt_next ?_ (RT.args_rt_next _))))
  delta Builtin.«reversed.__next__»
  (refine wpAny_bind (wpAny_of_eq (a := (Value.ref it, [])) rfl ?_); try dsimp only)
  (refine wpAny_bind (wpAny_field e d (x := .str z t) rfl ?_); try dsimp only)
  (refine wpAny_bind (wpAny_field e d (x := rawInt (i : Int)) rfl ?_); try dsimp only)
  show wpAny _ _ (if (i : Int) < 0 then _ else _) _ _ s
  rw [if_neg (by omega)]
  try dsimp only
  (refine wpAny_bind (wpAny_specialOf hT sGet ?_); try dsimp only)
  try rw [if_neg (by decide)]
  try dsimp only
  refine wpAny_bind (wpAny_mkInt ?_)
  refine wpAny_bind (wpAny_attempt ?_)
  have at1 : seqIndex? (i : Int) z.length = some i := seqIndex_of (by omega) (by omega)
  refine P.getItem_str (c := c) (by rw [decide_eq_false (show ¬ (i : Int) < -(2 ^ 63) by omega), decide_eq_false (show ¬ (i : Int) ≥ 2 ^ 63 by omega)]; rfl) (by rw [at1]; exact hc) ?_
  try dsimp only
  (refine wpAny_bind (wpAny_field (s := { s with toks := s.toks + 1 + 1 }) e d (x := rawInt (i : Int)) rfl ?_); try dsimp only)
  (refine wpAny_bind (wpAny_setField (s := { s with toks := s.toks + 1 + 1 }) e d (by simp) ?_); try dsimp only)
  have fin : RevAt (s.heap.update it (Obj.mapFields (·.setIfInBounds 1 (rawInt ((i : Int) - 1))))) it z t ((i : Int) - 1) :=
    ⟨_, Heap.get?_update_self _ e (Obj.isFreed_of_fields (Obj.data_mapFields d _)), (Obj.cls_mapFields ..).trans hcl, by rw [Obj.data_mapFields d]; simp⟩
  first
  | exact wpAny_pure ⟨_, rfl, wpAny_pure (q _ fin (Heap.SameBut.update ..))⟩
  | exact wpAny_bind (wpAny_pure (wpAny_pure ⟨_, rfl, wpAny_pure (q _ fin (Heap.SameBut.update ..))⟩))
/-- the exception that ends an iteration, when none is handled: two new objects, no more -/
theorem stop_made {α : Type} {Q : α → Shared → Prop} (hh : A.handled = none) (q : ∀ (h' : Heap) (e : Addr), (∀ b ob, s.heap.get? b = some ob → h'.get? b = some ob) → Shared.TypeIs { s with heap := h' } (.ref e) "StopIteration" → E (.ref e) { s with heap := h' }) :
    wpAny (model prog w) A (Builtin.SmallTypes.stopIteration : Sem α) Q E s := by
  delta Builtin.SmallTypes.stopIteration
  refine wpAny_bind ?_
  simp only [newExc, newTuple, raiseNew]
  (refine wpAny_bind (wpAny_newObj_type ?_ (by size_fits)); try dsimp only)
  (refine wpAny_bind (wpAny_of_eq (a := Value.none) rfl ?_); try dsimp only)
  refine wpAny_newObj_type (wpAny_bind (wpAny_handled ?_)) (by size_fits)
  rw [hh]
  exact wpAny_bind (wpAny_pure (wpAny_throw (q _ _ (fun b ob k => Heap.get?_push_of_some _ (Heap.get?_push_of_some _ k)) ⟨_, Heap.get?_push_size _ rfl, rfl⟩)))
theorem rev_end {it : Addr} {Q : Option Value → Shared → Prop} (hh : A.handled = none) (r : RevAt s.heap it z t (-1)) (q : ∀ h', Heap.ExtBut it s.heap h' → Q none { s with heap := h' }) : wpAny (model prog w) A (pyNext (.ref it)) Q E s := by
  have r0 := r
  obtain ⟨o, e, hcl, d⟩ := r
  delta pyNext
  refine wpAny_bind (wpAny_attempt (wpAny_callSpecial?_slot r0.kind RT.slot_rt_next (wpAny_call_entry RT.slot_rt_next r0.kind RT.entry_rt_next ?_ (RT.args_rt_next _))))
  delta Builtin.«reversed.__next__»
  (refine wpAny_bind (wpAny_of_eq (a := (Value.ref it, [])) rfl ?_); try dsimp only)
  (refine wpAny_bind (wpAny_field e d (x := .str z t) rfl ?_); try dsimp only)
  (refine wpAny_bind (wpAny_field e d (x := rawInt (-1)) rfl ?_); try dsimp only)
  show wpAny _ _ (if (-1 : Int) < 0 then _ else _) _ _ s
  rw [if_pos (by decide)]
  try dsimp only
  (refine wpAny_bind (wpAny_rule ?_); try dsimp only)
  refine wpAny_bind ?_
  wp_delta
  refine wpAny_bind (wpAny_setField e d (by simp) ?_)
  have e2 := Heap.get?_update_self (Obj.mapFields (·.setIfInBounds 1 (rawInt (-1)))) e (Obj.isFreed_of_fields (Obj.data_mapFields d _))
  refine wpAny_setField (s := { s with heap := s.heap.update it (Obj.mapFields (·.setIfInBounds 1 (rawInt (-1)))) }) e2 (Obj.data_mapFields d _) (by simp) ?_
  try dsimp only
  refine wpAny_bind (stop_made (A := A.in1) hh fun h' x k te => ?_)
  refine wpAny_bind (wpAny_isInstance te isSubtype_stop (wpAny_pure (q h' fun b ob hb kb => k b ob ?_)))
  exact (Heap.get?_update_other _ _ hb.symm).trans ((Heap.get?_update_other _ _ hb.symm).trans kb)
end
/-- the turns: the signs from the last to the first -/
def ItvS (z : Str) : It := ⟨fun i _ => i < z.cps.size, fun i H v H' => H' = H ∧ ∃ c, z.cps[z.cps.size - 1 - i]? = some c ∧ v = .str ⟨#[c]⟩, fun i _ => z.cps.size ≤ i⟩
theorem turn_revS {P : Program} {w : World} {K : PySem.W.Frag} {tg : Expr} {z : Str} {t : Tok} {it : Addr} (hz : z.length ≤ sizeLine) : Turn P w K tg (ItvS z) [it] it (fun i h => i ≤ z.cps.size ∧ RevAt h it z t ((z.cps.size : Int) - 1 - (i : Nat))) where
  mem := List.mem_cons_self
  obj := fun i h ⟨_, o, e, _, d⟩ b hb => by
    rw [List.mem_singleton.mp hb]
    exact ⟨o, e, fun v q => by rw [d] at q; cases q⟩
  keep := fun i h h' ⟨l, o, e, r⟩ k => ⟨l, o, k it List.mem_cons_self _ e, r⟩
  item := fun X hP hw hK hc i pins s σ H E I hf ⟨_, st⟩ hg => by
    subst hP hw hK
    have lt : i < z.cps.size := hg
    obtain ⟨g0, g1, g2, g3, g4, g5⟩ := hf it List.mem_cons_self
    have ix : (z.cps.size : Int) - 1 - (i : Nat) = ((z.cps.size - 1 - i : Nat) : Int) := by omega
    rw [ix] at st
    obtain ⟨c, ec⟩ : ∃ c, z.cps[z.cps.size - 1 - i]? = some c := ⟨_, Array.getElem?_eq_getElem (by omega)⟩
    refine rev_item st ec hz fun h' st' sb => ?_
    have ix2 : ((z.cps.size - 1 - i : Nat) : Int) - 1 = (z.cps.size : Int) - 1 - ((i + 1 : Nat) : Int) := by omega
    rw [ix2] at st'
    have J : Inv X pins σ H { s with heap := h', toks := s.toks + 1 + 1 } := I.turned (fun b o hb k => (sb.2 b hb).trans k) g0 g1 g3 g4 g5
    have st2 := st'
    obtain ⟨o, eo, co, d⟩ := st2
    exact ⟨_, rfl, go_of (s := { s with heap := h', toks := s.toks + 1 + 1 }) eo co d (by decide) ⟨.str ⟨#[c]⟩, H, J, ⟨_, rfl⟩, ⟨rfl, c, ec, rfl⟩, ⟨lt, st'⟩, fun b hb => (hf b hb).1⟩⟩
  done := fun X hP hw hK hc i pins s σ H E I hf ⟨_, st⟩ hg => by
    subst hP hw hK
    have ge : z.cps.size ≤ i := hg
    obtain ⟨g0, g1, g2, g3, g4, g5⟩ := hf it List.mem_cons_self
    have ix : (z.cps.size : Int) - 1 - (i : Nat) = -1 := by omega
    rw [ix] at st
    exact rev_end (I.ok.hd hc) st fun h' k => ⟨rfl, I.turned (t' := s.toks) (fun b o hb e => k b o hb e) g0 g1 g3 g4 g5⟩
  self := fun A i s Q E st q => rev_self st.2 q
def iRevS (te : TE) : TI := fun σ H R => te σ H fun v H1 => ∃ z, v = .str z ∧ z.length ≤ sizeLine ∧ R (ItvS z) H1
theorem pi_revS {X : Cx} {tg e : Expr} {te : TE} {p pos : Pos} (hg : Gl X "reversed") (hm : X.mg "reversed" = none) (he : PE X e te) (hs : starEach [e] X.env = (false, eval e X.env) :: starEach [] X.env := by rfl) :
    PI X tg (.Call (.Name "reversed" p) [e] [] pos) (iRevS te) := ⟨fun pins s σ H R I h =>
  Call_ (ld_blt I hg hm PyProof.Rows.boot_reversed (PyProof.Rows.callWith_type1 (args_cons (thn (he.run pins s σ H _ I h) fun u s1 ⟨v, H1, J, rv, z, ev, hz, q⟩ => args_nil (by
    subst ev
    obtain ⟨t, rfl⟩ := rv
    refine rev_make hz (rev_self (z := z) (t := t) (i := (z.length : Int) - 1) ⟨_, Heap.get?_push_size _ rfl, rfl, rfl⟩ ?_)
    refine pi_one (tk := s1.toks + 1 + 1) J _ (turn_revS (t := t) hz) ⟨Nat.zero_le _, ?_⟩ q
    have ix : (z.cps.size : Int) - 1 - ((0 : Nat) : Int) = (z.length : Int) - 1 := by
      show _ = (z.cps.size : Int) - 1
      omega
    rw [ix]
    exact ⟨_, Heap.get?_push_size _ rfl, rfl, rfl⟩)) hs) hs rfl))⟩
theorem for_revS {z : Str} {g : TG} {tb : TS} {D : Ends} {σ : L2.St} {H : Hp} (Pv : Nat → L2.St → Hp → Prop) (h0 : Pv 0 σ H)
    (hs : ∀ i c σ H, z.cps[z.cps.size - 1 - i]? = some c → i < z.cps.size → Pv i σ H → g (.str ⟨#[c]⟩) σ H fun σ2 H2 => tb { D with nx := Pv (i + 1), ct := Pv (i + 1), bk := D.nx } σ2 H2) (hd : ∀ σ H, Pv z.cps.size σ H → D.nx σ H) : ForB (ItvS z) g tb D σ H := by
  refine ⟨fun i m σ H => m = z.cps.size - i ∧ i ≤ z.cps.size ∧ Pv i σ H, ⟨_, rfl, Nat.zero_le _, h0⟩, ?_⟩
  rintro i m σ H ⟨rfl, hi, p⟩
  by_cases hlt : i < z.cps.size
  · refine .inr ⟨hlt, Pv (i + 1), fun σ' H' p' => ⟨z.cps.size - (i + 1), by omega, rfl, hlt, p'⟩, fun x H' y => ?_⟩
    obtain ⟨e, c, hc, ex⟩ := y
    subst e ex
    exact hs i c σ _ hc hlt p
  · have e : i = z.cps.size := by omega
    subst e
    exact .inl ⟨Nat.le_refl _, hd σ H p⟩
end Ly
set_option Elab.async false
set_option linter.all false
set_option maxRecDepth 100000
set_option maxHeartbeats 2000000
/-! Ly: terms, places, parts, lifting, putting (no text's own) -/
namespace Ly
open PySem PySem.Spec PyProof.Rows L2 Evl
abbrev nums (ds : List Nat) : List V := ds.map fun (d : Nat) => V.int d
/-! ### lifting -/
def lif (c d n : Nat) : Nat := if d ≤ n then n + c else n
theorem Tm.vmap_vmap (g h : Nat → Nat → Nat) : ∀ (t : Tm) (d : Nat), (t.vmap g d).vmap h d = t.vmap (fun d n => h d (g d n)) d
  | .var _, _ => rfl
  | .lam b, d => by simp [Tm.vmap, Tm.vmap_vmap g h b]
  | .app f a, d => by simp [Tm.vmap, Tm.vmap_vmap g h f, Tm.vmap_vmap g h a]
theorem Tm.vmap_id {g : Nat → Nat → Nat} (hg : ∀ d n, g d n = n) : ∀ (t : Tm) (d : Nat), t.vmap g d = t
  | .var _, _ => by simp [Tm.vmap, hg]
  | .lam b, d => by simp [Tm.vmap, Tm.vmap_id hg b]
  | .app f a, d => by simp [Tm.vmap, Tm.vmap_id hg f, Tm.vmap_id hg a]
theorem Tm.vmap_len (g : Nat → Nat → Nat) (t : Tm) (d : Nat) : (t.vmap g d).enc.length = t.enc.length := by
  rw [← Tm.deps_len _ d, Tm.deps_vmap, Tm.deps_len]
theorem lif_lif (c m : Nat) : (fun d n => lif m d (lif c d n)) = lif (c + m) := by
  funext d n
  by_cases h : d ≤ n
  · have e1 : lif c d n = n + c := if_pos h
    have e2 : lif m d (n + c) = n + c + m := if_pos (by omega)
    have e3 : lif (c + m) d n = n + (c + m) := if_pos h
    rw [e1, e2, e3]
    omega
  · have e1 : ∀ k, lif k d n = n := fun k => if_neg h
    rw [e1, e1, e1]
theorem Tm.lif_lif (c m : Nat) (t : Tm) (d : Nat) : (t.vmap (lif c) d).vmap (lif m) d = t.vmap (lif (c + m)) d := by
  rw [Tm.vmap_vmap, Ly.lif_lif]
theorem Tm.lif_zero (t : Tm) (d : Nat) : t.vmap (lif 0) d = t := Tm.vmap_id (fun d n => by simp [lif]) t d
theorem nums_at {ds : List Nat} {i : Nat} {y : V} (h : (nums ds)[i]? = some y) : ∃ d, ds[i]? = some d ∧ y = .int (d : Int) := by
  rw [List.getElem?_map] at h
  cases e : ds[i]? with
  | none => rw [e] at h; cases h
  | some d => rw [e] at h; exact ⟨d, rfl, (Option.some.inj h).symm⟩
/-! ### putting -/
def Tm.put (u : Tm) : Nat → Tm → Tm
  | d, .var n => if n < d then .var n else if n = d then u.vmap (lif d) 0 else .var (n - 1)
  | d, .lam b => .lam (Tm.put u (d + 1) b)
  | d, .app f a => .app (Tm.put u d f) (Tm.put u d a)
def pvs (u : Tm) (v : V) (d : Nat) : List V := match v with
  | .int n => (Tm.put u d (.var n.toNat)).enc
  | v => [v]
theorem Tm.enc_put (u : Tm) : ∀ (t : Tm) (d : Nat), (Tm.put u d t).enc = (List.zipWith (pvs u) t.enc (t.deps d)).flatten
  | .var n, d => by simp [Tm.deps, Tm.enc, pvs]
  | .lam b, d => by simp [Tm.put, Tm.deps, Tm.enc, Tm.enc_put u b, pvs]
  | .app f a, d => by
    have hl : f.enc.length = (f.deps d).length := (Tm.deps_len f d).symm
    simp only [Tm.put, Tm.deps, Tm.enc, List.zipWith_cons_cons, Tm.enc_put u f, Tm.enc_put u a, List.zipWith_append hl, List.flatten_cons, List.flatten_append]
    rfl
theorem pvs_low {u : Tm} {n d : Nat} (h : n < d) : pvs u (.int n) d = [.int n] := by
  simp only [pvs, Tm.put, Int.toNat_natCast]
  rw [if_pos h]
  rfl
theorem pvs_at {u : Tm} {d : Nat} : pvs u (.int (d : Int)) d = (u.vmap (lif d) 0).enc := by
  simp only [pvs, Tm.put, Int.toNat_natCast]
  rw [if_neg (Nat.lt_irrefl d)]
  rfl
theorem pvs_high {u : Tm} {n d : Nat} (h : d < n) : pvs u (.int n) d = [.int ((n : Int) - 1)] := by
  simp only [pvs, Tm.put, Int.toNat_natCast]
  rw [if_neg (by omega), if_neg (by omega)]
  have e : ((n - 1 : Nat) : Int) = (n : Int) - 1 := by omega
  show [V.int ((n - 1 : Nat) : Int)] = _
  rw [e]
theorem pvs_len (u : Tm) (v : V) (d : Nat) : (pvs u v d).length ≤ u.enc.length := by
  have pos := List.length_pos_iff.mpr u.enc_ne
  unfold pvs
  split
  · simp only [Tm.put]
    split
    · exact pos
    · split
      · rw [Tm.vmap_len]
        exact Nat.le_refl _
      · exact pos
  · exact pos
theorem flat_len {α : Type} {M : Nat} : ∀ {xs : List (List α)}, (∀ x ∈ xs, x.length ≤ M) → xs.flatten.length ≤ xs.length * M
  | [], _ => by simp
  | x :: xs, h => by
    have h1 := h x List.mem_cons_self
    have h2 := flat_len (xs := xs) fun y hy => h y (List.mem_cons_of_mem _ hy)
    simp only [List.flatten_cons, List.length_append, List.length_cons, Nat.succ_mul]
    omega
theorem zip_mem_len {u : Tm} : ∀ {xs : List V} {ds : List Nat}, ∀ x ∈ List.zipWith (pvs u) xs ds, x.length ≤ u.enc.length
  | [], _, x, h => by simp at h
  | _ :: _, [], x, h => by simp at h
  | a :: xs, d :: ds, x, h => by
    rw [List.zipWith_cons_cons] at h
    rcases List.mem_cons.mp h with e | h
    · rw [e]
      exact pvs_len u a d
    · exact zip_mem_len x h
theorem pre_len {u : Tm} {xs : List V} {ds : List Nat} (i : Nat) : ((List.zipWith (pvs u) xs ds).take i).flatten.length ≤ i * u.enc.length := by
  refine Nat.le_trans (flat_len fun x hx => zip_mem_len x (List.mem_of_mem_take hx)) (Nat.mul_le_mul_right _ ?_)
  rw [List.length_take]
  omega
theorem flat_take_le {α : Type} (xs : List (List α)) (i : Nat) : (xs.take i).flatten.length ≤ xs.flatten.length := by
  have e : xs.flatten = (xs.take i).flatten ++ (xs.drop i).flatten := by rw [← List.flatten_append, List.take_append_drop]
  rw [e, List.length_append]
  omega
theorem Tm.put_len (u t : Tm) (d : Nat) : (Tm.put u d t).enc.length ≤ t.enc.length * u.enc.length := by
  rw [Tm.enc_put]
  refine Nat.le_trans (flat_len zip_mem_len) (Nat.mul_le_mul_right _ ?_)
  rw [List.length_zipWith]
  omega
/-! ### putting and lifting: how they pass each other -/
theorem Tm.lif_then (j k : Nat) : ∀ (v : Tm) (d : Nat), (v.vmap (lif j) d).vmap (lif k) (d + j) = v.vmap (lif (j + k)) d
  | .var n, d => by
    simp only [Tm.vmap, lif]
    congr 1
    split <;> split <;> omega
  | .lam b, d => by
    have h := Tm.lif_then j k b (d + 1)
    simp only [Tm.vmap]
    rw [show d + j + 1 = d + 1 + j by omega, h]
  | .app f a, d => by simp only [Tm.vmap, Tm.lif_then j k f, Tm.lif_then j k a]
theorem Tm.put_lif (w : Tm) (k : Nat) : ∀ (v : Tm) (j : Nat), Tm.put w (j + k) (v.vmap (lif (k + 1)) j) = v.vmap (lif k) j
  | .var n, j => by
    simp only [Tm.vmap, lif]
    by_cases h : j ≤ n
    · rw [if_pos h, if_pos h]
      simp only [Tm.put]
      rw [if_neg (by omega), if_neg (by omega)]
      congr 1
    · rw [if_neg h, if_neg h]
      simp only [Tm.put]
      rw [if_pos (by omega)]
  | .lam b, j => by
    have h := Tm.put_lif w k b (j + 1)
    simp only [Tm.vmap, Tm.put]
    rw [show j + k + 1 = j + 1 + k by omega, h]
  | .app f a, j => by simp only [Tm.vmap, Tm.put, Tm.put_lif w k f, Tm.put_lif w k a]
theorem Tm.put_lift (w t : Tm) : Tm.put w 0 (t.vmap (lif 1) 0) = t := by
  have h := Tm.put_lif w 0 t 0
  rw [Tm.lif_zero] at h
  exact h
theorem Tm.put_up (v : Tm) (k : Nat) : ∀ (u : Tm) (j : Nat), Tm.put v (j + k) (u.vmap (lif k) j) = (Tm.put v j u).vmap (lif k) j
  | .var n, j => by
    simp only [Tm.vmap, lif]
    rcases Nat.lt_trichotomy n j with h | h | h
    · rw [if_neg (by omega)]
      simp only [Tm.put]
      rw [if_pos (by omega), if_pos h]
      simp only [Tm.vmap, lif]
      rw [if_neg (by omega)]
    · subst h
      rw [if_pos (Nat.le_refl n)]
      simp only [Tm.put]
      rw [if_neg (by omega), if_pos trivial, if_neg (by omega), if_pos trivial]
      have e := Tm.lif_then n k v 0
      rw [Nat.zero_add] at e
      exact e.symm
    · rw [if_pos (by omega)]
      simp only [Tm.put]
      rw [if_neg (by omega), if_neg (by omega), if_neg (by omega), if_neg (by omega)]
      simp only [Tm.vmap, lif]
      rw [if_pos (by omega)]
      congr 1
      omega
  | .lam b, j => by
    have h := Tm.put_up v k b (j + 1)
    simp only [Tm.vmap, Tm.put]
    rw [show j + k + 1 = j + 1 + k by omega, h]
  | .app f a, j => by simp only [Tm.vmap, Tm.put, Tm.put_up v k f, Tm.put_up v k a]
/-- putting u, then v, is putting v below one abstraction, then u with v put into it -/
theorem Tm.put_put (u v : Tm) : ∀ (t : Tm) (k : Nat), Tm.put v k (Tm.put u k t) = Tm.put (Tm.put v 0 u) k (Tm.put v (k + 1) t)
  | .var n, k => by
    rcases Nat.lt_trichotomy n k with h | h | h
    · simp only [Tm.put]
      rw [if_pos h, if_pos (by omega)]
      simp only [Tm.put]
      rw [if_pos h, if_pos h]
    · subst h
      simp only [Tm.put]
      rw [if_neg (by omega), if_pos trivial, if_pos (by omega)]
      simp only [Tm.put]
      rw [if_neg (by omega), if_pos trivial]
      have e := Tm.put_up v n u 0
      rw [Nat.zero_add] at e
      exact e
    · by_cases h2 : n = k + 1
      · subst h2
        simp only [Tm.put]
        rw [if_neg (by omega), if_neg (by omega), if_neg (by omega), if_pos trivial]
        simp only [Tm.put]
        rw [if_neg (by omega), if_pos (by omega)]
        have e := Tm.put_lif (Tm.put v 0 u) k v 0
        rw [Nat.zero_add] at e
        rw [e]
      · simp only [Tm.put]
        rw [if_neg (by omega), if_neg (by omega), if_neg (by omega), if_neg (by omega)]
        simp only [Tm.put]
        rw [if_neg (by omega), if_neg (by omega), if_neg (by omega), if_neg (by omega)]
  | .lam b, k => by simp only [Tm.put, Tm.put_put u v b]
  | .app f a, k => by simp only [Tm.put, Tm.put_put u v f, Tm.put_put u v a]
theorem Tm.put_size (u : Tm) : ∀ (t : Tm) (d : Nat), 2 * (Tm.put u d t).enc.length ≤ 2 * t.enc.length + (t.enc.length + 1) * (u.enc.length - 1)
  | .var n, d => by
    have pos := List.length_pos_iff.mpr u.enc_ne
    simp only [Tm.put]
    split
    · simp [Tm.enc]
    · split
      · rw [Tm.vmap_len]
        simp only [Tm.enc, List.length_cons, List.length_nil]
        omega
      · simp [Tm.enc]
  | .lam b, d => by
    have h := Tm.put_size u b (d + 1)
    simp only [Tm.put, Tm.enc, List.length_cons]
    generalize u.enc.length - 1 = k at *
    rw [Nat.add_mul, Nat.add_mul]
    rw [Nat.add_mul] at h
    omega
  | .app f a, d => by
    have h1 := Tm.put_size u f d
    have h2 := Tm.put_size u a d
    simp only [Tm.put, Tm.enc, List.length_cons, List.length_append]
    generalize u.enc.length - 1 = k at *
    rw [Nat.add_mul] at h1 h2
    rw [Nat.add_mul, Nat.add_mul, Nat.add_mul]
    omega
theorem Tm.vars_lif {N c : Nat} : ∀ {u : Tm} {d : Nat}, u.vars N → (u.vmap (lif c) d).vars (N + c)
  | .var n, d, h => by
    have h : n ≤ N := h
    show lif c d n ≤ N + c
    unfold lif
    split <;> omega
  | .lam b, d, h => Tm.vars_lif (u := b) h
  | .app f a, d, h => ⟨Tm.vars_lif (u := f) h.1, Tm.vars_lif (u := a) h.2⟩
theorem Tm.vars_put {u : Tm} {M N : Nat} (hu : u.vars N) : ∀ {t : Tm} {d : Nat}, t.vars M → (Tm.put u d t).vars (M + N + d + t.enc.length)
  | .var n, d, h => by
    have h : n ≤ M := h
    simp only [Tm.put]
    split
    · show n ≤ _
      omega
    · split
      · exact Tm.vars_mono (by omega) (Tm.vars_lif (c := d) hu)
      · show n - 1 ≤ _
        omega
  | .lam b, d, h => Tm.vars_mono (by simp only [Tm.enc, List.length_cons]; omega) (Tm.vars_put hu (t := b) (d := d + 1) h)
  | .app f a, d, h => ⟨Tm.vars_mono (by simp only [Tm.enc, List.length_cons, List.length_append]; omega) (Tm.vars_put hu (t := f) (d := d) h.1), Tm.vars_mono (by simp only [Tm.enc, List.length_cons, List.length_append]; omega) (Tm.vars_put hu (t := a) (d := d) h.2)⟩
theorem fits_of {t : Tm} (h : t.vars 1000000) (l : t.enc.length ≤ 1000) : fitsV t.enc = true := by
  unfold fitsV
  rw [ok_vars h, decide_eq_true l]
  rfl
theorem Tm.vars_ok : ∀ {t : Tm}, t.enc.all okV = true → t.vars 1000000
  | .var n, h => by
    have h : (decide ((n : Int) ≤ 1000000) && true) = true := h
    have h2 : (n : Int) ≤ 1000000 := by simpa using h
    show n ≤ 1000000
    omega
  | .lam b, h => by
    have h : (true && b.enc.all okV) = true := h
    exact Tm.vars_ok (t := b) (by simpa using h)
  | .app f a, h => by
    have h : (true && (f.enc ++ a.enc).all okV) = true := h
    rw [List.all_append] at h
    have h2 : f.enc.all okV = true ∧ a.enc.all okV = true := by simpa using h
    exact ⟨Tm.vars_ok h2.1, Tm.vars_ok h2.2⟩
theorem fits_term {t : Tm} (h : fitsV t.enc = true) : isTermV t.enc = true := by
  unfold fitsV at h
  rw [Bool.and_eq_true] at h
  unfold isTermV
  rw [h.1, scan_tm (Tm.vars_ok h.2)]
  rfl
/-! ### texts as lists of signs; places -/
def rAddZ : R2 := fun x y H Q => ∃ i j, x = .str i ∧ y = .str j ∧ i.length + j.length ≤ sizeLine ∧ Q (.str (i ++ j)) H
theorem op_addZ {X : Cx} : OpR X (binaryOp .Add) rAddZ := op_add_str
def rLenZ : List V → Hp → VK → Prop := fun xs H Q => ∃ z, xs = [.str z] ∧ z.length ≤ sizeLine ∧ Q (.int z.length) H
theorem call_lenZ {X : Cx} : CallR X (.builtin "len") rLenZ := call_len_str
def pl (p : List Nat) : Str := ⟨p.toArray⟩
theorem pl_cps (p : List Nat) : (pl p).cps = p.toArray := rfl
theorem pl_len (p : List Nat) : (pl p).length = p.length := by simp [pl, Str.length]
theorem pl_app (p q : List Nat) : pl p ++ pl q = pl (p ++ q) := by
  show Str.mk (p.toArray ++ q.toArray) = ⟨(p ++ q).toArray⟩
  simp
theorem pl_b : ("b" : Str) = pl [98] := by decide +kernel
theorem pl_f : ("f" : Str) = pl [102] := by decide +kernel
theorem pl_a : ("a" : Str) = pl [97] := by decide +kernel
theorem pl_e : ("" : Str) = pl [] := by decide +kernel
theorem pl_inj {p q : List Nat} (h : pl p = pl q) : p = q := by
  have e := congrArg Str.cps h
  simpa [pl] using e
theorem signs_pl (p : List Nat) : signs (pl p) = p.map fun c => V.str (pl [c]) := by simp [signs, pl]
abbrev plcs (ps : List (List Nat)) : List V := ps.map fun p => V.str (pl p)
section
variable {H : Hp} {Q : VK}
theorem w_addZ {p q : List Nat} (z : p.length + q.length ≤ 16000000) (h : Q (.str (pl (p ++ q))) H) : rAddZ (.str (pl p)) (.str (pl q)) H Q :=
  ⟨pl p, pl q, rfl, rfl, by rw [pl_len, pl_len]; exact ly_sz z, by rw [pl_app]; exact h⟩
theorem w_addZb {p : List Nat} (z : p.length ≤ 15000000) (h : Q (.str (pl (p ++ [98]))) H) : rAddZ (.str (pl p)) (.str "b") H Q := by
  rw [pl_b]
  exact w_addZ (by simp; omega) h
theorem w_addZf {p : List Nat} (z : p.length ≤ 15000000) (h : Q (.str (pl (p ++ [102]))) H) : rAddZ (.str (pl p)) (.str "f") H Q := by
  rw [pl_f]
  exact w_addZ (by simp; omega) h
theorem w_addZa {p : List Nat} (z : p.length ≤ 15000000) (h : Q (.str (pl (p ++ [97]))) H) : rAddZ (.str (pl p)) (.str "a") H Q := by
  rw [pl_a]
  exact w_addZ (by simp; omega) h
theorem w_lenZ {p : List Nat} (z : p.length ≤ 16000000) (h : Q (.int p.length) H) : rLenZ [.str (pl p)] H Q :=
  ⟨pl p, rfl, by rw [pl_len]; exact ly_sz z, by rw [pl_len]; exact h⟩
end
/-- the letters' order: where they differ, the function comes first; else the shorter -/
def before : List Nat → List Nat → Bool
  | a :: x, b :: y => if a = b then before x y else decide (a = 102)
  | [], y => decide (0 < y.length)
  | _ :: _, [] => false
theorem before_self : ∀ x : List Nat, before x x = false
  | [] => rfl
  | a :: x => by simp [before, before_self x]
theorem before_app : ∀ (p x y : List Nat), before (p ++ x) (p ++ y) = before x y
  | [], _, _ => rfl
  | a :: p, x, y => by simp [before, before_app p x y]
def RB (x y : List Nat) : Prop := before x y = true ∧ before y x = false
theorem RB.app {p x y : List Nat} (h : RB x y) : RB (p ++ x) (p ++ y) := ⟨by rw [before_app]; exact h.1, by rw [before_app]; exact h.2⟩
theorem RB.longer {p s : List Nat} {c : Nat} : RB p (p ++ c :: s) := by
  have h : RB [] (c :: s) := ⟨by simp [before], rfl⟩
  have := RB.app (p := p) h
  rwa [List.append_nil] at this
theorem RB.fa {p s u : List Nat} : RB (p ++ 102 :: s) (p ++ 97 :: u) := RB.app ⟨rfl, rfl⟩
def Tm.pls : List Nat → Tm → List (List Nat)
  | p, .var _ => [p]
  | p, .lam b => p :: b.pls (p ++ [98])
  | p, .app f a => p :: (f.pls (p ++ [102]) ++ a.pls (p ++ [97]))
theorem Tm.pls_len : ∀ (t : Tm) (p : List Nat), (t.pls p).length = t.enc.length
  | .var _, _ => rfl
  | .lam b, p => by simp [Tm.pls, Tm.enc, Tm.pls_len b]
  | .app f a, p => by simp [Tm.pls, Tm.enc, Tm.pls_len f, Tm.pls_len a]
theorem Tm.pls_pre : ∀ (t : Tm) {p q : List Nat}, q ∈ t.pls p → ∃ s, q = p ++ s ∧ s.length < t.enc.length
  | .var _, p, q, h => ⟨[], by simpa [Tm.pls] using h, by simp [Tm.enc]⟩
  | .lam b, p, q, h => by
    rcases List.mem_cons.mp h with e | h
    · exact ⟨[], by simp [e], by simp [Tm.enc]⟩
    · obtain ⟨s, e, hl⟩ := Tm.pls_pre b h
      exact ⟨98 :: s, by rw [e]; simp, by simp [Tm.enc]; omega⟩
  | .app f a, p, q, h => by
    rcases List.mem_cons.mp h with e | h
    · exact ⟨[], by simp [e], by simp [Tm.enc]⟩
    · rcases List.mem_append.mp h with h | h
      · obtain ⟨s, e, hl⟩ := Tm.pls_pre f h
        exact ⟨102 :: s, by rw [e]; simp, by simp [Tm.enc]; omega⟩
      · obtain ⟨s, e, hl⟩ := Tm.pls_pre a h
        exact ⟨97 :: s, by rw [e]; simp, by simp [Tm.enc]; omega⟩
theorem Tm.pls_order : ∀ (t : Tm) (p : List Nat), (t.pls p).Pairwise RB
  | .var _, p => List.pairwise_singleton _ _
  | .lam b, p => List.pairwise_cons.mpr ⟨fun q h => by
      obtain ⟨s, e, _⟩ := Tm.pls_pre b h
      rw [e, List.append_assoc]
      exact RB.longer, Tm.pls_order b _⟩
  | .app f a, p => List.pairwise_cons.mpr ⟨fun q h => by
      rcases List.mem_append.mp h with h | h
      · obtain ⟨s, e, _⟩ := Tm.pls_pre f h
        rw [e, List.append_assoc]
        exact RB.longer
      · obtain ⟨s, e, _⟩ := Tm.pls_pre a h
        rw [e, List.append_assoc]
        exact RB.longer, List.pairwise_append.mpr ⟨Tm.pls_order f _, Tm.pls_order a _, fun x hx y hy => by
      obtain ⟨s, e, _⟩ := Tm.pls_pre f hx
      obtain ⟨u, e2, _⟩ := Tm.pls_pre a hy
      rw [e, e2, List.append_assoc, List.append_assoc]
      exact RB.fa⟩⟩
theorem before_at {qs : List (List Nat)} (h : qs.Pairwise RB) {i j : Nat} {x y : List Nat} (hx : qs[i]? = some x) (hy : qs[j]? = some y) : before x y = decide (i < j) := by
  obtain ⟨li, ei⟩ := List.getElem?_eq_some_iff.mp hx
  obtain ⟨lj, ej⟩ := List.getElem?_eq_some_iff.mp hy
  rcases Nat.lt_trichotomy i j with g | g | g
  · have := List.pairwise_iff_getElem.mp h i j li lj g
    rw [ei, ej] at this
    rw [this.1, decide_eq_true g]
  · subst g
    have e : x = y := by rw [← ei, ← ej]
    rw [e, before_self, decide_eq_false (by omega)]
  · have := List.pairwise_iff_getElem.mp h j i lj li g
    rw [ei, ej] at this
    rw [this.2, decide_eq_false (by omega)]
def plss : List Tm → List (List Nat) → List (List Nat)
  | t :: ts, d :: ds => t.pls d ++ plss ts ds
  | _, _ => []
/-- in the midst of a walk that finds the places: what is left are the terms ts, whose places wait (the last one first) -/
def PInv (t : Tm) (i : Nat) (found ds : List (List Nat)) : Prop := ∃ ts : List Tm, t.enc.drop i = encs ts ∧ ts.length = ds.length ∧ t.pls [] = found ++ plss ts ds.reverse
theorem PInv.start (t : Tm) : PInv t 0 [] [[]] := ⟨[t], by simp [encs], rfl, by simp [plss]⟩
theorem PInv.done {t : Tm} {found ds : List (List Nat)} (h : PInv t t.enc.length found ds) : found = t.pls [] := by
  obtain ⟨ts, h1, h2, h3⟩ := h
  rw [List.drop_length] at h1
  have e := encs_nil h1.symm
  subst e
  rw [h3]
  simp [plss]
theorem PInv.step {t : Tm} {i : Nat} {found ds : List (List Nat)} {v : V} (h : PInv t i found ds) (hv : t.enc[i]? = some v) : ∃ r d, ds = r ++ [d] ∧
    ((∃ n : Nat, v = .int n ∧ PInv t (i + 1) (found ++ [d]) r) ∨ (v = .str "lam" ∧ PInv t (i + 1) (found ++ [d]) (r ++ [d ++ [98]])) ∨ (v = .str "app" ∧ PInv t (i + 1) (found ++ [d]) (r ++ [d ++ [97]] ++ [d ++ [102]]))) := by
  obtain ⟨ts, h1, h2, h3⟩ := h
  rw [drop_at hv] at h1
  match ts, h1, h2, h3 with
  | [], h1, _, _ => cases h1
  | t1 :: r1, h1, h2, h3 =>
    have hne : ds ≠ [] := fun e => by
      rw [e] at h2
      cases h2
    refine ⟨ds.dropLast, ds.getLast hne, (List.dropLast_concat_getLast hne).symm, ?_⟩
    generalize hr : ds.dropLast = r at *
    generalize hd : ds.getLast hne = d at *
    have hds : ds = r ++ [d] := by rw [← hr, ← hd]; exact (List.dropLast_concat_getLast hne).symm
    subst hds
    rw [List.reverse_append] at h3
    have h3 : t.pls [] = found ++ (t1.pls d ++ plss r1 r.reverse) := h3
    have hl : r1.length = r.length := by simpa using h2
    rw [encs_cons] at h1
    cases t1 with
    | var n =>
      have h1 : v :: t.enc.drop (i + 1) = V.int n :: encs r1 := h1
      injection h1 with e1 e2
      exact .inl ⟨n, e1, r1, e2, hl, by rw [h3]; simp [Tm.pls]⟩
    | lam b =>
      have h1 : v :: t.enc.drop (i + 1) = V.str "lam" :: (b.enc ++ encs r1) := h1
      injection h1 with e1 e2
      exact .inr (.inl ⟨e1, b :: r1, by rw [e2, encs_cons], by simp [hl], by rw [h3, List.reverse_append]; simp [Tm.pls, plss]⟩)
    | app f a =>
      have h1 : v :: t.enc.drop (i + 1) = V.str "app" :: (f.enc ++ a.enc ++ encs r1) := h1
      injection h1 with e1 e2
      exact .inr (.inr ⟨e1, f :: a :: r1, by rw [e2, encs_cons, encs_cons, List.append_assoc], by simp [hl], by rw [h3, List.reverse_append, List.reverse_append]; simp [Tm.pls, plss]⟩)
/-! ### parts of a term -/
theorem drop_get {xs r : List V} {i : Nat} {v : V} (h : xs.drop i = v :: r) : xs[i]? = some v ∧ xs.drop (i + 1) = r := by
  have e : (xs.drop i)[0]? = some v := by rw [h]; rfl
  rw [List.getElem?_drop, Nat.add_zero] at e
  refine ⟨e, ?_⟩
  have := drop_at e
  rw [h] at this
  injection this with _ e2
  exact e2.symm
def Tm.sub : Tm → List Nat → Option (Nat × Tm)
  | t, [] => some (0, t)
  | .lam b, c :: p => if c = 98 then (b.sub p).map (fun r => (r.1 + 1, r.2)) else none
  | .app f a, c :: p => if c = 102 then (f.sub p).map (fun r => (r.1 + 1, r.2)) else if c = 97 then (a.sub p).map (fun r => (r.1 + (1 + f.enc.length), r.2)) else none
  | .var _, _ :: _ => none
theorem Tm.sub_nil (t : Tm) : t.sub [] = some (0, t) := by cases t <;> rfl
/-- a part stands in the term where sub says, and its place in the list there -/
theorem Tm.sub_at : ∀ (t : Tm) (p q : List Nat) {i : Nat} {u : Tm}, t.sub p = some (i, u) → (∃ post, t.enc.drop i = u.enc ++ post) ∧ (t.pls q)[i]? = some (q ++ p)
  | t, [], q, i, u, h => by
    rw [Tm.sub_nil] at h
    cases h
    refine ⟨⟨[], by simp⟩, ?_⟩
    cases t <;> simp [Tm.pls]
  | .lam b, c :: p, q, i, u, h => by
    by_cases hc : c = 98
    · subst hc
      simp only [Tm.sub, if_pos] at h
      obtain ⟨⟨j, u'⟩, e1, e2⟩ := Option.map_eq_some_iff.mp h
      cases e2
      obtain ⟨⟨post, hp⟩, hl⟩ := Tm.sub_at b p (q ++ [98]) e1
      refine ⟨⟨post, by simpa [Tm.enc] using hp⟩, ?_⟩
      simp only [Tm.pls, List.getElem?_cons_succ, hl]
      simp
    · simp [Tm.sub, hc] at h
  | .app f a, c :: p, q, i, u, h => by
    by_cases hc : c = 102
    · subst hc
      simp only [Tm.sub, if_pos] at h
      obtain ⟨⟨j, u'⟩, e1, e2⟩ := Option.map_eq_some_iff.mp h
      cases e2
      obtain ⟨⟨post, hp⟩, hl⟩ := Tm.sub_at f p (q ++ [102]) e1
      have lt : j < (f.pls (q ++ [102])).length := (List.getElem?_eq_some_iff.mp hl).1
      have lt2 : j < f.enc.length := by rwa [Tm.pls_len] at lt
      refine ⟨⟨post ++ a.enc, ?_⟩, ?_⟩
      · simp only [Tm.enc, List.drop_succ_cons]
        rw [List.drop_append_of_le_length (Nat.le_of_lt lt2), hp, List.append_assoc]
      · simp only [Tm.pls, List.getElem?_cons_succ]
        rw [List.getElem?_append_left lt, hl]
        simp
    · by_cases hc2 : c = 97
      · subst hc2
        simp only [Tm.sub, if_pos] at h
        obtain ⟨⟨j, u'⟩, e1, e2⟩ := Option.map_eq_some_iff.mp h
        cases e2
        obtain ⟨⟨post, hp⟩, hl⟩ := Tm.sub_at a p (q ++ [97]) e1
        refine ⟨⟨post, ?_⟩, ?_⟩
        · have e : j + (1 + f.enc.length) = (f.enc.length + j) + 1 := by omega
          simp only [Tm.enc]
          rw [e, List.drop_succ_cons, List.drop_append, List.drop_of_length_le (by omega)]
          simpa using hp
        · have e : j + (1 + f.enc.length) = (f.enc.length + j) + 1 := by omega
          simp only [Tm.pls]
          rw [e, List.getElem?_cons_succ, List.getElem?_append_right (by rw [Tm.pls_len]; omega), Tm.pls_len]
          have e2 : f.enc.length + j - f.enc.length = j := by omega
          rw [e2, hl]
          simp
      · simp [Tm.sub, hc, hc2] at h
  | .var _, c :: p, q, i, u, h => by simp [Tm.sub] at h
theorem Tm.sub_of : ∀ (t : Tm) (q : List Nat) {r : List Nat}, r ∈ t.pls q → ∃ s i u, r = q ++ s ∧ t.sub s = some (i, u)
  | .var _, q, r, h => ⟨[], 0, _, by simpa [Tm.pls] using h, Tm.sub_nil _⟩
  | .lam b, q, r, h => by
    rcases List.mem_cons.mp h with e | h
    · exact ⟨[], 0, _, by simp [e], Tm.sub_nil _⟩
    · obtain ⟨s, i, u, e, hs⟩ := Tm.sub_of b _ h
      exact ⟨98 :: s, i + 1, u, by rw [e]; simp, by simp [Tm.sub, hs]⟩
  | .app f a, q, r, h => by
    rcases List.mem_cons.mp h with e | h
    · exact ⟨[], 0, _, by simp [e], Tm.sub_nil _⟩
    · rcases List.mem_append.mp h with h | h
      · obtain ⟨s, i, u, e, hs⟩ := Tm.sub_of f _ h
        exact ⟨102 :: s, i + 1, u, by rw [e]; simp, by simp [Tm.sub, hs]⟩
      · obtain ⟨s, i, u, e, hs⟩ := Tm.sub_of a _ h
        exact ⟨97 :: s, i + (1 + f.enc.length), u, by rw [e]; simp, by simp [Tm.sub, hs]⟩
theorem Tm.sub_mem (t : Tm) (p : List Nat) : p ∈ t.pls [] ↔ t.sub p ≠ none := by
  constructor
  · intro h
    obtain ⟨s, i, u, e, hs⟩ := Tm.sub_of t [] h
    simp only [List.nil_append] at e
    rw [e, hs]
    simp
  · intro h
    obtain ⟨⟨i, u⟩, e⟩ := Option.ne_none_iff_exists'.mp h
    have := (Tm.sub_at t p [] e).2
    exact List.mem_of_getElem? this
/-- loops over a text -/
theorem for_str {z : Str} {g : TG} {tb : TS} {D : Ends} {σ : L2.St} {H : Hp} (Pv : Nat → L2.St → Hp → Prop) (h0 : Pv 0 σ H)
    (hs : ∀ i c σ H, z.cps[i]? = some c → Pv i σ H → g (.str ⟨#[c]⟩) σ H fun σ2 H2 => tb { D with nx := Pv (i + 1), ct := Pv (i + 1), bk := D.nx } σ2 H2) (hd : ∀ σ H, Pv z.cps.size σ H → D.nx σ H) : ForB (Its z) g tb D σ H := by
  refine ⟨fun i m σ H => m = z.cps.size - i ∧ i ≤ z.cps.size ∧ Pv i σ H, ⟨_, rfl, Nat.zero_le _, h0⟩, ?_⟩
  rintro i m σ H ⟨rfl, hi, p⟩
  by_cases hlt : i < z.cps.size
  · refine .inr ⟨hlt, Pv (i + 1), fun σ' H' p' => ⟨z.cps.size - (i + 1), by omega, rfl, hlt, p'⟩, fun x H' y => ?_⟩
    obtain ⟨e, c, hc, ex⟩ := y
    subst e ex
    exact hs i c σ _ hc p
  · have e : i = z.cps.size := by omega
    subst e
    exact .inl ⟨Nat.le_refl _, hd σ H p⟩
theorem w_it {te : TE} {σ : L2.St} {H : Hp} {R : It → Hp → Prop} (h : te σ H fun v H1 => ∃ x, v = .str x ∧ R (Its x) H1) : iStr te σ H R := h
theorem w_it1 {z : Str} {B : Str → Prop} (q : B z) : ∃ x, V.str z = .str x ∧ B x := ⟨z, rfl, q⟩
/-- in the midst of a walk to a part's end: the terms that are missing -/
def EInv (xs : List V) (fin e : Nat) (ts : List Tm) : Prop := ∃ post, xs.drop e = encs ts ++ post ∧ e + (encs ts).length = fin
theorem EInv.start {xs post : List V} {s : Nat} {u : Tm} (h : xs.drop s = u.enc ++ post) : EInv xs (s + u.enc.length) s [u] := ⟨post, by simpa [encs] using h, by simp [encs]⟩
theorem EInv.step {xs : List V} {fin e : Nat} {t : Tm} {ts : List Tm} (h : EInv xs fin e (t :: ts)) : e < fin ∧ ∃ v ts', xs[e]? = some v ∧ EInv xs fin (e + 1) ts' ∧
    ((∃ n : Nat, v = .int n ∧ ts'.length = ts.length) ∨ (v = .str "lam" ∧ ts'.length = ts.length + 1) ∨ (v = .str "app" ∧ ts'.length = ts.length + 2)) := by
  obtain ⟨post, h1, h2⟩ := h
  rw [encs_cons] at h1 h2
  have pos := List.length_pos_iff.mpr t.enc_ne
  rw [List.length_append] at h2
  refine ⟨by omega, ?_⟩
  cases t with
  | var n =>
    have g := drop_get (i := e) (v := .int n) (r := encs ts ++ post) (by rw [h1]; rfl)
    exact ⟨_, ts, g.1, ⟨post, g.2, by simp [Tm.enc] at h2; omega⟩, .inl ⟨n, rfl, rfl⟩⟩
  | lam b =>
    have g := drop_get (i := e) (v := .str "lam") (r := b.enc ++ encs ts ++ post) (by rw [h1]; simp [Tm.enc])
    exact ⟨_, b :: ts, g.1, ⟨post, by rw [g.2, encs_cons], by rw [encs_cons]; simp [Tm.enc] at h2 ⊢; omega⟩, .inr (.inl ⟨rfl, rfl⟩)⟩
  | app f a =>
    have g := drop_get (i := e) (v := .str "app") (r := f.enc ++ (a.enc ++ encs ts) ++ post) (by rw [h1]; simp [Tm.enc])
    exact ⟨_, f :: a :: ts, g.1, ⟨post, by rw [g.2, encs_cons, encs_cons], by rw [encs_cons, encs_cons]; simp [Tm.enc] at h2 ⊢; omega⟩, .inr (.inr ⟨rfl, rfl⟩)⟩
theorem w_sl {r : V → Option Int → Option Int → Hp → VK → Prop} {te : TE} {tl th : TO} {σ : L2.St} {H : Hp} {Q : VK} (h : te σ H fun x H1 => tl σ H1 fun l H2 => th σ H2 fun u H3 => r x l u H3 Q) : L2.tSl r te tl th σ H Q := h
theorem w_noP {σ : L2.St} {H : Hp} {Q : Option Int → Hp → Prop} (h : Q none H) : tNoPart σ H Q := h
theorem w_part {t : TE} {σ : L2.St} {H : Hp} {Q : Option Int → Hp → Prop} (h : t σ H fun x H1 => ∃ i, x = .int i ∧ Q (some i) H1) : tPart t σ H Q := h
theorem w_part1 {j : Int} {B : Int → Prop} (h : B j) : ∃ i, V.int j = .int i ∧ B i := ⟨j, rfl, h⟩
theorem cut_lo (xs : List V) (i : Nat) : cutV xs none (some (i : Int)) = xs.take i := by
  unfold cutV
  rw [HT.sIx_nat, HT.sIx_none]
  simp
theorem cut_hi (xs : List V) (i : Nat) : cutV xs (some (i : Int)) none = xs.drop i := by
  unfold cutV
  rw [HT.sIx_nat, HT.sIx_none]
  by_cases h : i ≤ xs.length
  · rw [Nat.min_eq_left h]
    exact List.take_of_length_le (by simp)
  · rw [Nat.min_eq_right (by omega), List.drop_length, List.drop_of_length_le (by omega)]
    simp
def dueV (t v : Tm) (i : Nat) (u : Tm) : List V := t.enc.take i ++ v.enc ++ t.enc.drop (i + u.enc.length)
theorem dueV_nds (t v : Tm) (i : Nat) (u : Tm) : Nds (dueV t v i u) := ((t.nds.take i).app v.nds).app (t.nds.drop _)
theorem dueV_len (t v : Tm) (i : Nat) (u : Tm) : (dueV t v i u).length ≤ t.enc.length + v.enc.length + t.enc.length := by
  simp only [dueV, List.length_append, List.length_take, List.length_drop]
  omega
theorem cut_mid {xs post : List V} {i : Nat} {u : Tm} (h : xs.drop i = u.enc ++ post) : cutV xs (some (i : Int)) (some ((i + u.enc.length : Nat) : Int)) = u.enc := by
  have hl := congrArg List.length h
  rw [List.length_drop, List.length_append] at hl
  have pos := List.length_pos_iff.mpr u.enc_ne
  unfold cutV
  rw [HT.sIx_nat, HT.sIx_nat, Nat.min_eq_left (by omega), Nat.min_eq_left (by omega), h]
  rw [List.take_append_of_le_length (by omega)]
  exact List.take_of_length_le (by omega)
def Small (qs : List (List Nat)) : Prop := ∀ q ∈ qs, ∀ c ∈ q, c < 200
theorem Tm.pls_small : ∀ (t : Tm) (p : List Nat), (∀ c ∈ p, c < 200) → Small (t.pls p)
  | .var _, p, h, q, hq => by
    have e : q = p := by simpa [Tm.pls] using hq
    rw [e]
    exact h
  | .lam b, p, h, q, hq => by
    rcases List.mem_cons.mp hq with e | hq
    · rw [e]
      exact h
    · exact Tm.pls_small b _ (fun c hc => by
        rcases List.mem_append.mp hc with hc | hc
        · exact h c hc
        · rw [List.mem_singleton.mp hc]; decide) q hq
  | .app f a, p, h, q, hq => by
    rcases List.mem_cons.mp hq with e | hq
    · rw [e]
      exact h
    · rcases List.mem_append.mp hq with hq | hq
      · exact Tm.pls_small f _ (fun c hc => by
          rcases List.mem_append.mp hc with hc | hc
          · exact h c hc
          · rw [List.mem_singleton.mp hc]; decide) q hq
      · exact Tm.pls_small a _ (fun c hc => by
          rcases List.mem_append.mp hc with hc | hc
          · exact h c hc
          · rw [List.mem_singleton.mp hc]; decide) q hq
theorem dp_pl {K : PySem.W.Frag} {H : Hp} : ∀ qs : List (List Nat), DpAll K H (plcs qs) ((plcs qs).map dv)
  | [] => .nil
  | _ :: qs => .cons (.str _) (dp_pl qs)
theorem lay_pl : ∀ {qs : List (List Nat)}, Small qs → PyData.canLayAll0 ((plcs qs).map dv) = true
  | [], _ => rfl
  | q :: qs, h => by
    have ih := lay_pl (qs := qs) fun x hx => h x (List.mem_cons_of_mem _ hx)
    have hx : (dv (V.str (pl q))).canLay0 = true := by
      show PyData.strOk (pl q) = true
      unfold PyData.strOk
      rw [Array.all_eq_true]
      intro i hi
      have hm : (pl q).cps[i] ∈ q := by
        have : (pl q).cps[i] ∈ (pl q).cps := Array.getElem_mem hi
        simpa [pl] using this
      have := h q List.mem_cons_self _ hm
      simp
      omega
    show ((dv (V.str (pl q))).canLay0 && PyData.canLayAll0 ((plcs qs).map dv)) = true
    rw [hx, ih]
    rfl
theorem eqv_pl : ∀ qs : List (List Nat), PyData.eqvAll ((plcs qs).map dv) ((plcs qs).map dv) = true
  | [] => by simp [PyData.eqvAll]
  | q :: qs => by
    have ih := eqv_pl qs
    show PyData.eqvAll (dv (V.str (pl q)) :: (plcs qs).map dv) (dv (V.str (pl q)) :: (plcs qs).map dv) = true
    rw [PyData.eqvAll, ih]
    simp [dv, PyData.eqv]
theorem shaped_pl {qs : List (List Nat)} (h : Small qs) : SeqAt.shaped (.list ((plcs qs).map dv)) = true := by
  have h1 : (PyData.list ((plcs qs).map dv)).canLay0 = true := lay_pl h
  have h2 : (PyData.list ((plcs qs).map dv)).depth ≤ 2 := by
    have h := depth_all (plcs qs)
    simp only [PyData.depth]
    omega
  unfold SeqAt.shaped
  rw [h1, Bool.true_and]
  exact decide_eq_true (by omega)
theorem w_neP {K : PySem.W.Frag} {H : Hp} {Q : VK} {a b : Addr} {qs : List (List Nat)} (h : H a = some (.lst (plcs qs))) (k : H b = some (.lst (plcs qs))) (o : Small qs) (q : Q (.bl false) H) : rNeD K (.ref a) (.ref b) H Q :=
  ⟨_, _, .lst (SqL.of h) (dp_pl qs), .lst (SqL.of k) (dp_pl qs), shaped_pl o, shaped_pl o, by rw [PyData.eqv, eqv_pl]; exact q⟩
theorem part_fits {t u : Tm} {i : Nat} {post : List V} (h1 : t.vars 1000000) (h2 : t.enc.length ≤ 1000) (h : t.enc.drop i = u.enc ++ post) : fitsV u.enc = true := by
  have a1 := List.all_eq_true.mp (ok_vars h1)
  have hl := congrArg List.length h
  rw [List.length_drop, List.length_append] at hl
  have h3 : u.enc.length ≤ 1000 := by omega
  have : u.enc.all okV = true := List.all_eq_true.mpr fun x hx => a1 x (List.mem_of_mem_drop (i := i) (by rw [h]; exact List.mem_append_left _ hx))
  rw [fitsV, this, decide_eq_true h3]
  rfl
theorem same_at {qs : List (List Nat)} (o : qs.Pairwise RB) {i j : Nat} {r : List Nat} (hi : qs[i]? = some r) (hj : qs[j]? = some r) : i = j := by
  have b := before_at o hi hj
  have b2 := before_at o hj hi
  rw [before_self] at b b2
  have g1 := of_decide_eq_false b.symm
  have g2 := of_decide_eq_false b2.symm
  omega
theorem inV_pl (p : List Nat) : ∀ qs : List (List Nat), inV (.str (pl p)) (plcs qs) = decide (p ∈ qs)
  | [] => by simp [inV]
  | q :: qs => by
    have ih := inV_pl p qs
    unfold inV at ih ⊢
    have e : eqV (.str (pl q)) (.str (pl p)) = decide (p = q) := by
      show (pl q == pl p) = _
      by_cases h : p = q
      · subst h; simp
      · rw [decide_eq_false h]
        exact beq_eq_false_iff_ne.mpr fun e => h (pl_inj e).symm
    show (eqV (.str (pl q)) (.str (pl p)) || (plcs qs).any fun y => eqV y (.str (pl p))) = _
    rw [ih, e]
    simp
theorem flat_pl (qs : List (List Nat)) : (plcs qs).all flatV = true := by
  simp [flatV]
theorem w_inS {K : PySem.W.Frag} {H : Hp} {Q : VK} {p : Addr} {r : List Nat} {qs : List (List Nat)} (h : H p = some (.lst (plcs qs))) (q : Q (.bl (decide (r ∈ qs))) H) : rIn K false (.str (pl r)) (.ref p) H Q :=
  ⟨p, _, rfl, .inl (SqL.of h), rfl, flat_pl qs, by rw [inV_pl]; exact q⟩
theorem w_indexS {K : PySem.W.Frag} {H : Hp} {Q : VK} {p : Addr} {r : List Nat} {qs : List (List Nat)} {i : Nat} (h : H p = some (.lst (plcs qs))) (o : qs.Pairwise RB) (hi : qs[i]? = some r) (q : Q (.int (i : Int)) H) : rIndex K (.ref p) [.str (pl r)] H Q := by
  refine ⟨p, _, _, i, .str (pl r), rfl, rfl, SqL.of h, rfl, flat_pl qs, by rw [List.getElem?_map, hi]; rfl, beq_self_eq_true (pl r), fun m z hm hz => ?_, q⟩
  rw [List.getElem?_map] at hz
  cases e : qs[m]? with
  | none => rw [e] at hz; cases hz
  | some r2 =>
    rw [e] at hz
    cases hz
    show (pl r2 == pl r) = false
    refine beq_eq_false_iff_ne.mpr fun e2 => ?_
    have e3 := pl_inj e2
    subst e3
    have := same_at o e hi
    omega
theorem cutS_lo (p : List Nat) (i : Nat) : cutS (pl p) none (some (i : Int)) = pl (p.take i) := by
  unfold cutS
  rw [HT.sIx_nat, HT.sIx_none, pl_len]
  show pl ((p.drop 0).take (min i p.length - 0)) = pl (p.take i)
  congr 1
  rw [List.drop_zero, Nat.sub_zero, List.take_eq_take_iff]
  omega
theorem cutS_hi (p : List Nat) (i : Nat) : cutS (pl p) (some (i : Int)) none = pl (p.drop i) := by
  unfold cutS
  rw [HT.sIx_nat, HT.sIx_none, pl_len]
  show pl ((p.drop (min i p.length)).take (p.length - min i p.length)) = pl (p.drop i)
  congr 1
  rw [List.take_of_length_le (by simp)]
  by_cases h : i ≤ p.length
  · rw [Nat.min_eq_left h]
  · rw [Nat.min_eq_right (by omega), List.drop_length, List.drop_of_length_le (by omega)]
theorem w_slS {p : List Nat} {lo hi : Option Int} {H : Hp} {Q : VK} (z : p.length ≤ 1000000) (q : Q (.str (cutS (pl p) lo hi)) H) : rSlS (.str (pl p)) lo hi H Q := ⟨pl p, rfl, by rw [pl_len]; exact ly_sz (by omega), q⟩
theorem w_slLo {p : List Nat} {i : Nat} {H : Hp} {Q : VK} (z : p.length ≤ 1000000) (q : Q (.str (pl (p.take i))) H) : rSlS (.str (pl p)) none (some (i : Int)) H Q := w_slS z (by rw [cutS_lo]; exact q)
theorem w_slHi {p : List Nat} {i : Nat} {H : Hp} {Q : VK} (z : p.length ≤ 1000000) (q : Q (.str (pl (p.drop i))) H) : rSlS (.str (pl p)) (some (i : Int)) none H Q := w_slS z (by rw [cutS_hi]; exact q)
theorem w_slHi1 {p : List Nat} {i : Nat} {H : Hp} {Q : VK} (z : p.length ≤ 1000000) (q : Q (.str (pl (p.drop (i + 1)))) H) : rSlS (.str (pl p)) (some ((i : Int) + 1)) none H Q := w_slS z (by
  have e : (i : Int) + 1 = ((i + 1 : Nat) : Int) := rfl
  rw [e, cutS_hi]
  exact q)
def Tm.tall : Tm → Nat
  | .var _ => 0
  | .lam b => b.tall + 1
  | .app f a => max f.tall a.tall + 1
theorem Tm.tall_lt : ∀ t : Tm, t.tall < t.enc.length
  | .var _ => by simp [Tm.tall, Tm.enc]
  | .lam b => by
    have := Tm.tall_lt b
    simp only [Tm.tall, Tm.enc, List.length_cons]
    omega
  | .app f a => by
    have h1 := Tm.tall_lt f
    have h2 := Tm.tall_lt a
    simp only [Tm.tall, Tm.enc, List.length_cons, List.length_append]
    omega
theorem at_drop {xs r : List V} {i : Nat} {v : V} (h : xs.drop i = v :: r) : xs[i]? = some v ∧ xs.drop (i + 1) = r := by
  constructor
  · have := congrArg (fun l => l[0]?) h
    simpa using this
  · have := congrArg List.tail h
    simpa using this
theorem cut_one {x : V} {r : List V} : cutV (x :: r) none (some 1) = [x] := by
  simp [cutV, HT.sIx]
theorem cut_rest {x : V} {r : List V} : cutV (x :: r) (some 1) none = r := by
  simp [cutV, HT.sIx]
end Ly
set_option Elab.async false
set_option linter.all false
set_option maxRecDepth 100000
set_option maxHeartbeats 2000000
/-! Ly: redexes and steps of terms -/
namespace Ly
open PySem PySem.Spec PyProof.Rows L2 Evl
/-- the term with v in place of the part at p -/
def Tm.rep (v : Tm) : Tm → List Nat → Tm
  | _, [] => v
  | .lam b, c :: p => if c = 98 then .lam (Tm.rep v b p) else .lam b
  | .app f a, c :: p => if c = 102 then .app (Tm.rep v f p) a else if c = 97 then .app f (Tm.rep v a p) else .app f a
  | .var n, _ :: _ => .var n
theorem Tm.rep_nil (v t : Tm) : Tm.rep v t [] = v := by cases t <;> rfl
theorem Tm.sub_lt {t : Tm} {p : List Nat} {i : Nat} {u : Tm} (h : t.sub p = some (i, u)) : i + u.enc.length ≤ t.enc.length := by
  obtain ⟨⟨post, e⟩, _⟩ := Tm.sub_at t p [] h
  have hl := congrArg List.length e
  rw [List.length_drop, List.length_append] at hl
  have pos := List.length_pos_iff.mpr u.enc_ne
  omega
theorem Tm.rep_enc (v : Tm) : ∀ (t : Tm) (p : List Nat) {i : Nat} {u : Tm}, t.sub p = some (i, u) → (Tm.rep v t p).enc = dueV t v i u
  | t, [], i, u, h => by
    rw [Tm.sub_nil] at h
    cases h
    rw [Tm.rep_nil]
    simp [dueV]
  | .lam b, c :: p, i, u, h => by
    by_cases hc : c = 98
    · subst hc
      simp only [Tm.sub, if_pos] at h
      obtain ⟨⟨j, u'⟩, e1, e2⟩ := Option.map_eq_some_iff.mp h
      cases e2
      have ih := Tm.rep_enc v b p e1
      simp only [Tm.rep, if_pos, Tm.enc, ih, dueV]
      have e : j + 1 + u'.enc.length = j + u'.enc.length + 1 := by omega
      rw [e, List.take_succ_cons, List.drop_succ_cons]
      simp
    · simp [Tm.sub, hc] at h
  | .app f a, c :: p, i, u, h => by
    by_cases hc : c = 102
    · subst hc
      simp only [Tm.sub, if_pos] at h
      obtain ⟨⟨j, u'⟩, e1, e2⟩ := Option.map_eq_some_iff.mp h
      cases e2
      have ih := Tm.rep_enc v f p e1
      have lt := Tm.sub_lt e1
      simp only [Tm.rep, if_pos, Tm.enc, ih, dueV]
      have e : j + 1 + u'.enc.length = j + u'.enc.length + 1 := by omega
      rw [e, List.take_succ_cons, List.drop_succ_cons, List.take_append_of_le_length (by omega), List.drop_append_of_le_length (by omega)]
      simp
    · by_cases hc2 : c = 97
      · subst hc2
        simp only [Tm.sub, if_pos] at h
        obtain ⟨⟨j, u'⟩, e1, e2⟩ := Option.map_eq_some_iff.mp h
        cases e2
        have ih := Tm.rep_enc v a p e1
        simp only [Tm.rep, Tm.enc, dueV]
        rw [if_neg (by decide), if_pos trivial]
        simp only [Tm.enc, ih, dueV]
        have e : j + (1 + f.enc.length) = (f.enc.length + j) + 1 := by omega
        have e3 : j + (1 + f.enc.length) + u'.enc.length = (f.enc.length + (j + u'.enc.length)) + 1 := by omega
        rw [e3, e, List.take_succ_cons, List.drop_succ_cons, List.take_length_add_append, List.drop_length_add_append]
        simp
      · simp [Tm.sub, hc, hc2] at h
  | .var _, c :: p, i, u, h => by simp [Tm.sub] at h
theorem Tm.rep_len {v t u : Tm} {p : List Nat} {i : Nat} (h : t.sub p = some (i, u)) : (Tm.rep v t p).enc.length + u.enc.length = t.enc.length + v.enc.length := by
  have lt := Tm.sub_lt h
  rw [Tm.rep_enc v t p h, dueV]
  simp only [List.length_append, List.length_take, List.length_drop]
  omega
def Tm.isLam : Tm → Bool
  | .lam _ => true
  | _ => false
/-- the redexes, in order; p: the place of the term itself -/
def Tm.reds : List Nat → Tm → List (List Nat)
  | _, .var _ => []
  | p, .lam b => b.reds (p ++ [98])
  | p, .app f a => (if f.isLam then [p] else []) ++ (f.reds (p ++ [102]) ++ a.reds (p ++ [97]))
/-- the same off the list of nodes and the list of places -/
def redL : List V → List (List Nat) → List (List Nat)
  | v :: xs, q :: qs => (if v = .str "app" ∧ xs[0]? = some (.str "lam") then [q] else []) ++ redL xs qs
  | _, _ => []
theorem str_ne1 : ¬ (("lam" : Str) = "app") := by decide +kernel
theorem str_ne2 : ¬ (("app" : Str) = "lam") := by decide +kernel
theorem Tm.head_lam (t : Tm) (post : List V) : ((t.enc ++ post)[0]? = some (.str "lam")) ↔ t.isLam = true := by
  cases t with
  | var n => simp [Tm.enc, Tm.isLam]
  | lam b => simp [Tm.enc, Tm.isLam]
  | app f a => simp [Tm.enc, Tm.isLam, str_ne2]
theorem redL_enc : ∀ (t : Tm) (p : List Nat) (post : List V) (qs : List (List Nat)), redL (t.enc ++ post) (t.pls p ++ qs) = t.reds p ++ redL post qs
  | .var n, p, post, qs => by simp [Tm.enc, Tm.pls, Tm.reds, redL]
  | .lam b, p, post, qs => by
    have ih := redL_enc b (p ++ [98]) post qs
    simp [Tm.enc, Tm.pls, Tm.reds, redL, ih, str_ne1]
  | .app f a, p, post, qs => by
    have h1 := redL_enc f (p ++ [102]) (a.enc ++ post) (a.pls (p ++ [97]) ++ qs)
    have h2 := redL_enc a (p ++ [97]) post qs
    have hl := Tm.head_lam f (a.enc ++ post)
    simp only [Tm.enc, Tm.pls, Tm.reds, List.cons_append, List.append_assoc, redL, h1, h2]
    by_cases hf : f.isLam = true
    · rw [if_pos ⟨trivial, hl.mpr hf⟩, if_pos hf]
    · rw [if_neg (fun z => hf (hl.mp z.2)), if_neg hf]
theorem redL_all (t : Tm) : redL t.enc (t.pls []) = t.reds [] := by
  have h := redL_enc t [] [] []
  simpa [redL] using h
/-- what has been found after i places -/
def redK (xs : List V) (qs : List (List Nat)) : Nat → List (List Nat)
  | 0 => []
  | i + 1 => redK xs qs i ++ (if xs[i]? = some (.str "app") ∧ xs[i + 1]? = some (.str "lam") then [qs.getD i []] else [])
theorem redK_drop {xs : List V} {qs : List (List Nat)} (h : qs.length = xs.length) : ∀ i, i ≤ xs.length → redK xs qs i ++ redL (xs.drop i) (qs.drop i) = redL xs qs
  | 0, _ => by simp [redK]
  | i + 1, hi => by
    have ih := redK_drop h i (by omega)
    have hx : i < xs.length := by omega
    have hq : i < qs.length := by omega
    rw [List.drop_eq_getElem_cons hx, List.drop_eq_getElem_cons hq] at ih
    rw [← ih]
    simp only [redK, redL]
    rw [List.append_assoc]
    congr 2
    have e1 : xs[i]? = some xs[i] := List.getElem?_eq_getElem hx
    have e2 : qs.getD i [] = qs[i] := by rw [List.getD_eq_getElem?_getD, List.getElem?_eq_getElem hq]; rfl
    have e3 : (xs.drop (i + 1))[0]? = xs[i + 1]? := by rw [List.getElem?_drop, Nat.add_zero]
    rw [e1, e2, e3]
    simp
theorem redK_all (t : Tm) : redK t.enc (t.pls []) t.enc.length = t.reds [] := by
  have h := redK_drop (Tm.pls_len t []) t.enc.length (Nat.le_refl _)
  rw [List.drop_length, redL_all] at h
  simpa [redL] using h
theorem redK_mem {xs : List V} {qs : List (List Nat)} {r : List Nat} : ∀ {i : Nat}, i ≤ qs.length → r ∈ redK xs qs i → r ∈ qs
  | 0, _, h => by simp [redK] at h
  | i + 1, hi, h => by
    rcases List.mem_append.mp h with h | h
    · exact redK_mem (by omega) h
    · split at h
      · rw [List.mem_singleton.mp h, List.getD_eq_getElem?_getD, List.getElem?_eq_getElem (by omega)]
        exact List.getElem_mem _
      · simp at h
/-- a redex's part -/
def Tm.Red (t : Tm) (p : List Nat) (i : Nat) (b u : Tm) : Prop := t.sub p = some (i, .app (.lam b) u)
theorem Tm.reds_sub : ∀ (t : Tm) (q : List Nat) {r : List Nat}, r ∈ t.reds q ↔ ∃ s i b u, r = q ++ s ∧ t.Red s i b u
  | .var n, q, r => by
    constructor
    · intro h
      simp [Tm.reds] at h
    · rintro ⟨s, i, b, u, _, h⟩
      cases s <;> simp [Tm.Red, Tm.sub] at h
  | .lam c, q, r => by
    have ih := Tm.reds_sub c (q ++ [98]) (r := r)
    constructor
    · intro h
      obtain ⟨s, i, b, u, e, hs⟩ := ih.mp h
      exact ⟨98 :: s, i + 1, b, u, by rw [e]; simp, by unfold Tm.Red at hs ⊢; simp [Tm.sub, hs]⟩
    · rintro ⟨s, i, b, u, e, hs⟩
      cases s with
      | nil => simp [Tm.Red, Tm.sub] at hs
      | cons c2 s =>
        unfold Tm.Red at hs
        simp only [Tm.sub] at hs
        by_cases hc : c2 = 98
        · subst hc
          simp only [if_pos] at hs
          obtain ⟨⟨j, u'⟩, e1, e2⟩ := Option.map_eq_some_iff.mp hs
          cases e2
          exact ih.mpr ⟨s, j, b, u, by rw [e]; simp, e1⟩
        · simp [hc] at hs
  | .app f a, q, r => by
    have i1 := Tm.reds_sub f (q ++ [102]) (r := r)
    have i2 := Tm.reds_sub a (q ++ [97]) (r := r)
    constructor
    · intro h
      rcases List.mem_append.mp h with h | h
      · cases f with
        | lam b =>
          simp [Tm.isLam] at h
          exact ⟨[], 0, b, a, by simp [h], Tm.sub_nil _⟩
        | var n => simp [Tm.isLam] at h
        | app f a => simp [Tm.isLam] at h
      · rcases List.mem_append.mp h with h | h
        · obtain ⟨s, i, b, u, e, hs⟩ := i1.mp h
          exact ⟨102 :: s, i + 1, b, u, by rw [e]; simp, by unfold Tm.Red at hs ⊢; simp [Tm.sub, hs]⟩
        · obtain ⟨s, i, b, u, e, hs⟩ := i2.mp h
          exact ⟨97 :: s, i + (1 + f.enc.length), b, u, by rw [e]; simp, by unfold Tm.Red at hs ⊢; simp [Tm.sub, hs]⟩
    · rintro ⟨s, i, b, u, e, hs⟩
      cases s with
      | nil =>
        unfold Tm.Red at hs
        rw [Tm.sub_nil] at hs
        cases hs
        refine List.mem_append_left _ ?_
        simp [Tm.isLam, e]
      | cons c2 s =>
        unfold Tm.Red at hs
        simp only [Tm.sub] at hs
        refine List.mem_append_right _ ?_
        by_cases hc : c2 = 102
        · subst hc
          simp only [if_pos] at hs
          obtain ⟨⟨j, u'⟩, e1, e2⟩ := Option.map_eq_some_iff.mp hs
          cases e2
          exact List.mem_append_left _ (i1.mpr ⟨s, j, b, u, by rw [e]; simp, e1⟩)
        · by_cases hc2 : c2 = 97
          · subst hc2
            simp only [if_pos] at hs
            rw [if_neg (by decide)] at hs
            obtain ⟨⟨j, u'⟩, e1, e2⟩ := Option.map_eq_some_iff.mp hs
            cases e2
            exact List.mem_append_right _ (i2.mpr ⟨s, j, b, u, by rw [e]; simp, e1⟩)
          · simp [hc, hc2] at hs
theorem Tm.red_mem {t : Tm} {p : List Nat} : p ∈ t.reds [] ↔ ∃ i b u, t.Red p i b u := by
  rw [Tm.reds_sub]
  constructor
  · rintro ⟨s, i, b, u, e, h⟩
    simp only [List.nil_append] at e
    rw [e]
    exact ⟨i, b, u, h⟩
  · rintro ⟨i, b, u, h⟩
    exact ⟨p, i, b, u, by simp, h⟩
/-- the step at p (the term itself where p is no redex) -/
def Tm.step (t : Tm) (p : List Nat) : Tm := match t.sub p with
  | some (_, .app (.lam b) u) => Tm.rep (Tm.put u 0 b) t p
  | _ => t
theorem Tm.step_red {t : Tm} {p : List Nat} {i : Nat} {b u : Tm} (h : t.Red p i b u) : t.step p = Tm.rep (Tm.put u 0 b) t p := by
  unfold Tm.step
  rw [h]
/-- how the nodes of a redex stand in the list -/
theorem Tm.red_at {t : Tm} {p : List Nat} {i : Nat} {b u : Tm} (h : t.Red p i b u) : ∃ post, t.enc.drop i = .str "app" :: .str "lam" :: (b.enc ++ (u.enc ++ post)) := by
  obtain ⟨⟨post, e⟩, _⟩ := Tm.sub_at t p [] h
  exact ⟨post, by rw [e]; simp [Tm.enc]⟩
theorem Tm.step_enc {t : Tm} {p : List Nat} {i : Nat} {b u : Tm} (h : t.Red p i b u) : (t.step p).enc = t.enc.take i ++ (Tm.put u 0 b).enc ++ t.enc.drop (i + 2 + b.enc.length + u.enc.length) := by
  rw [Tm.step_red h, Tm.rep_enc _ t p h, dueV]
  congr 2
  simp only [Tm.enc, List.length_cons, List.length_append]
  omega
theorem Tm.reds_pls (t : Tm) {r : List Nat} (h : r ∈ t.reds []) : r ∈ t.pls [] := by
  rw [← redK_all t] at h
  exact redK_mem (by rw [Tm.pls_len]; exact Nat.le_refl _) h
/-- the part that begins at the i-th node -/
theorem Tm.part_at (t : Tm) {i : Nat} (h : i < t.enc.length) : ∃ p u post, (t.pls [])[i]? = some p ∧ t.sub p = some (i, u) ∧ t.enc.drop i = u.enc ++ post := by
  have hl : i < (t.pls []).length := by rw [Tm.pls_len]; exact h
  have g := List.getElem?_eq_getElem hl
  obtain ⟨s, j, u, e, hs⟩ := Tm.sub_of t [] (List.mem_of_getElem? g)
  simp only [List.nil_append] at e
  obtain ⟨⟨post, hd⟩, hp⟩ := Tm.sub_at t s [] hs
  simp only [List.nil_append] at hp
  have ij : i = j := same_at (Tm.pls_order t []) (by rw [g, e]) hp
  subst ij
  exact ⟨s, u, post, hp, hs, hd⟩
theorem Tm.after_app (t : Tm) {i : Nat} (h : t.enc[i]? = some (.str "app")) : ∃ v, t.enc[i + 1]? = some v ∧ ((∃ n : Int, v = .int n) ∨ v = .str "lam" ∨ v = .str "app") := by
  have hi := (List.getElem?_eq_some_iff.mp h).1
  obtain ⟨p, u, post, _, _, hd⟩ := t.part_at hi
  have h0 : (t.enc.drop i)[0]? = some (.str "app") := by rw [List.getElem?_drop, Nat.add_zero]; exact h
  rw [hd] at h0
  cases u with
  | var n => simp [Tm.enc] at h0
  | lam b => simp [Tm.enc, str_ne1] at h0
  | app f a =>
    have h1 : (t.enc.drop i)[1]? = (f.enc ++ a.enc ++ post)[0]? := by rw [hd]; rfl
    rw [List.getElem?_drop] at h1
    obtain ⟨v, r, e⟩ := List.exists_cons_of_ne_nil f.enc_ne
    refine ⟨v, by rw [h1, e]; rfl, ?_⟩
    rcases Tm.int_nat (t := f) (v := v) (by rw [e]; exact List.mem_cons_self) with ⟨n, e2⟩ | e2 | e2
    · exact .inl ⟨_, e2⟩
    · exact .inr (.inl e2)
    · exact .inr (.inr e2)
theorem redK_len (xs : List V) (qs : List (List Nat)) : ∀ i, (redK xs qs i).length ≤ i
  | 0 => Nat.zero_le _
  | i + 1 => by
    have := redK_len xs qs i
    simp only [redK, List.length_append]
    split
    · simp only [List.length_singleton]; omega
    · simp only [List.length_nil]; omega
theorem redK_app {xs : List V} {qs : List (List Nat)} {i : Nat} {q : List Nat} (h : xs[i]? = some (.str "app")) (h2 : xs[i + 1]? = some (.str "lam")) (hq : qs[i]? = some q) : redK xs qs (i + 1) = redK xs qs i ++ [q] := by
  simp only [redK]
  rw [if_pos ⟨h, h2⟩, List.getD_eq_getElem?_getD, hq]
  rfl
theorem redK_no {xs : List V} {qs : List (List Nat)} {i : Nat} (h : ¬ (xs[i]? = some (.str "app") ∧ xs[i + 1]? = some (.str "lam"))) : redK xs qs (i + 1) = redK xs qs i := by
  simp only [redK]
  rw [if_neg h, List.append_nil]
def zeroes : Nat → Tm
  | 0 => .var 0
  | n + 1 => .app (zeroes n) (.var 0)
/-! readings of lists of places, of one-word tuples -/
theorem Tm.pls_small0 (t : Tm) : Small (t.pls []) := Tm.pls_small t [] (by simp)
theorem Tm.reds_small (t : Tm) : Small (t.reds []) := fun q hq => Tm.pls_small0 t q (Tm.reds_pls t hq)
theorem w_eqP {K : PySem.W.Frag} {H : Hp} {Q : VK} {a b : Addr} {qs : List (List Nat)} (h : H a = some (.lst (plcs qs))) (k : H b = some (.lst (plcs qs))) (o : Small qs) (q : Q (.bl true) H) : rEqD K (.ref a) (.ref b) H Q :=
  ⟨_, _, .lst (SqL.of h) (dp_pl qs), .lst (SqL.of k) (dp_pl qs), shaped_pl o, shaped_pl o, by rw [PyData.eqv, eqv_pl]; exact q⟩
def wordOk (x : Str) : Bool := SeqAt.shaped (.tuple [.str x]) && PyData.eqv (.tuple [.str x]) (.tuple [.str x])
theorem w_neW {K : PySem.W.Frag} {H : Hp} {Q : VK} {a b : Addr} {x : Str} (o : wordOk x = true) (h : SqT K H a [.str x]) (k : SqT K H b [.str x]) (q : Q (.bl false) H) : rNeD K (.ref a) (.ref b) H Q := by
  unfold wordOk at o
  rw [Bool.and_eq_true] at o
  refine ⟨_, _, .tup h (.cons (.str _) .nil), .tup k (.cons (.str _) .nil), o.1, o.1, ?_⟩
  rw [o.2]
  exact q
theorem w_ixSt {H : Hp} {Q : VK} {p : List Nat} {i : Int} {c : Nat} (z : p.length ≤ 1000000) (h : atI p i = some c) (q : Q (.str (pl [c])) H) : rIxS (.str (pl p)) (.int i) H Q :=
  ⟨pl p, i, c, rfl, rfl, by rw [pl_len]; exact ly_sz (by omega), h, q⟩
theorem pl_fab : ("fab" : Str) = pl [102, 97, 98] := by decide +kernel
/-- what is too great, as a list -/
theorem bigs_nil {xs : List V} : (xs.filter fun v => !okV v).length = 0 ↔ xs.all okV = true := by
  rw [List.length_eq_zero_iff, List.filter_eq_nil_iff, List.all_eq_true]
  constructor
  · intro h x hx
    have := h x hx
    simpa using this
  · intro h x hx
    simp [h x hx]
theorem Tm.pls_lens (t : Tm) {r : List Nat} (h : r ∈ t.pls []) : r.length < t.enc.length := by
  obtain ⟨s, e, l⟩ := Tm.pls_pre t h
  simp only [List.nil_append] at e
  rw [e]
  exact l
theorem Tm.pls_ne (t : Tm) : t.pls [] ≠ [] := by cases t <;> simp [Tm.pls]
theorem Tm.reds_len (t : Tm) : (t.reds []).length ≤ t.enc.length := by
  have h := redK_len t.enc (t.pls []) t.enc.length
  rw [redK_all] at h
  exact h
theorem filter_take {xs : List V} {i : Nat} {x : V} (h : xs[i]? = some x) : (xs.take (i + 1)).filter (fun v => !okV v) = (xs.take i).filter (fun v => !okV v) ++ (if okV x = true then [] else [x]) := by
  rw [List.take_add_one, h, List.filter_append]
  cases hx : okV x <;> simp [hx]
theorem fits_iff {xs : List V} (l : xs.length ≤ 1000) : fitsV xs = decide ((xs.filter fun v => !okV v).length = 0) := by
  unfold fitsV
  rw [decide_eq_true l, Bool.true_and]
  by_cases h : xs.all okV = true
  · rw [h, decide_eq_true (bigs_nil.mpr h)]
  · rw [decide_eq_false (fun z => h (bigs_nil.mp z))]
    simpa using h
theorem plcs_ref (qs : List (List Nat)) (h : Addr) (r : List V) : plcs qs ≠ V.ref h :: r := by cases qs <;> simp
theorem plcs_off {H : Hp} {s d : Addr} {m : Stm} {qs : List (List Nat)} (st : StAt H s m) (h : H d = some (.lst (plcs qs))) : d ≠ s := fun z => by
  rw [z, st.2.1] at h
  exact plcs_ref qs _ _ (HO.lst.inj (Option.some.inj h)).symm
end Ly
set_option Elab.async false
set_option linter.all false
set_option maxRecDepth 100000
set_option maxHeartbeats 2000000
/-! Ly: roads; lists of terms as data; slices of lists -/
namespace Ly
open PySem PySem.Spec PyProof.Rows L2 Evl
/-- what a road passes: the terms, or which error comes first -/
inductive Res where
  | ok (ts : List Tm)
  | none
  | large
def Res.cons (t : Tm) : Res → Res
  | .ok ts => .ok (t :: ts)
  | r => r
def Tm.isRed (t : Tm) (p : List Nat) : Bool := decide (p ∈ t.reds [])
def Tm.pass : Tm → List (List Nat) → Res
  | t, [] => .ok [t]
  | t, p :: r => if t.isRed p = false then .none else if fitsV (t.step p).enc = false then .large else Res.cons t (Tm.pass (t.step p) r)
theorem Tm.isRed_iff {t : Tm} {p : List Nat} : t.isRed p = true ↔ ∃ i b u, t.Red p i b u := by
  unfold Tm.isRed
  rw [decide_eq_true_iff]
  exact Tm.red_mem
/-- a road of redexes -/
inductive Road : Tm → List (List Nat) → Prop
  | nil {t : Tm} : Road t []
  | cons {t : Tm} {p : List Nat} {r : List (List Nat)} (h : t.isRed p = true) (hr : Road (t.step p) r) : Road t (p :: r)
/-- where a road leads (its places taken for redexes) -/
def Tm.along : Tm → List (List Nat) → Tm
  | t, [] => t
  | t, p :: r => (t.step p).along r
theorem Tm.along_app (t : Tm) : ∀ (r s : List (List Nat)), t.along (r ++ s) = (t.along r).along s
  | [], _ => rfl
  | p :: r, s => Tm.along_app (t.step p) r s
theorem Road.snoc {t : Tm} {r : List (List Nat)} {p : List Nat} (h : Road t r) (hp : (t.along r).isRed p = true) : Road t (r ++ [p]) := by
  induction h with
  | nil => exact .cons hp .nil
  | cons h _ ih => exact .cons h (ih hp)
/-! the terms passed, seen from behind: how a loop gathers them -/
inductive Pass (t : Tm) : List (List Nat) → List Tm → Tm → Prop
  | nil : Pass t [] [t] t
  | snoc {r : List (List Nat)} {ts : List Tm} {u : Tm} {p : List Nat} (h : Pass t r ts u) (hp : u.isRed p = true) (hf : fitsV (u.step p).enc = true) : Pass t (r ++ [p]) (ts ++ [u.step p]) (u.step p)
theorem pass_app {t u : Tm} {r : List (List Nat)} {ts : List Tm} (h : Pass t r ts u) : ∀ s, Tm.pass t (r ++ s) = match Tm.pass u s with
    | .ok us => .ok (ts.dropLast ++ us)
    | e => e := by
  induction h with
  | nil =>
    intro s
    show Tm.pass t s = _
    cases Tm.pass t s <;> rfl
  | @snoc r ts u p h hp hf ih =>
    intro s
    rw [List.append_assoc, List.singleton_append, ih]
    have e : Tm.pass u (p :: s) = Res.cons u (Tm.pass (u.step p) s) := by
      show (if u.isRed p = false then Res.none else if fitsV (u.step p).enc = false then Res.large else _) = _
      rw [if_neg (by rw [hp]; simp), if_neg (by rw [hf]; simp)]
    rw [e]
    have hl : ∃ ts0, ts = ts0 ++ [u] := by
      cases h with
      | nil => exact ⟨[], rfl⟩
      | snoc _ _ _ => exact ⟨_, rfl⟩
    obtain ⟨ts0, rfl⟩ := hl
    cases Tm.pass (u.step p) s <;> simp [Res.cons]
theorem Pass.done {t u : Tm} {r : List (List Nat)} {ts : List Tm} (h : Pass t r ts u) : Tm.pass t r = .ok ts := by
  have e := pass_app h []
  rw [List.append_nil] at e
  rw [e]
  have hl : ∃ ts0, ts = ts0 ++ [u] := by
    cases h with
    | nil => exact ⟨[], rfl⟩
    | snoc _ _ _ => exact ⟨_, rfl⟩
  obtain ⟨ts0, rfl⟩ := hl
  simp [Tm.pass]
theorem Pass.last {t u : Tm} {r : List (List Nat)} {ts : List Tm} (h : Pass t r ts u) : ∃ ts0, ts = ts0 ++ [u] := by
  cases h with
  | nil => exact ⟨[], rfl⟩
  | snoc _ _ _ => exact ⟨_, rfl⟩
theorem Pass.none {t u : Tm} {r s : List (List Nat)} {ts : List Tm} {p : List Nat} (h : Pass t r ts u) (hp : u.isRed p = false) : Tm.pass t (r ++ p :: s) = .none := by
  rw [pass_app h]
  have e : Tm.pass u (p :: s) = Res.none := if_pos hp
  rw [e]
theorem Pass.large {t u : Tm} {r s : List (List Nat)} {ts : List Tm} {p : List Nat} (h : Pass t r ts u) (hp : u.isRed p = true) (hf : fitsV (u.step p).enc = false) : Tm.pass t (r ++ p :: s) = .large := by
  rw [pass_app h]
  have e : Tm.pass u (p :: s) = Res.large := by
    show (if u.isRed p = false then Res.none else if fitsV (u.step p).enc = false then Res.large else _) = _
    rw [if_neg (by rw [hp]; simp), if_pos hf]
  rw [e]
theorem Pass.len {t u : Tm} {r : List (List Nat)} {ts : List Tm} (h : Pass t r ts u) : ts.length = r.length + 1 := by
  induction h with
  | nil => rfl
  | snoc _ _ _ ih => simp [ih]
theorem fits_len {xs : List V} (h : fitsV xs = true) : xs.length ≤ 1000 := by
  unfold fitsV at h
  rw [Bool.and_eq_true] at h
  exact of_decide_eq_true h.1
theorem Tm.step_le (t : Tm) (p : List Nat) : (t.step p).enc.length ≤ t.enc.length + t.enc.length * t.enc.length := by
  unfold Tm.step
  split
  · rename_i i b u hred
    have h1 := Tm.rep_len (v := Tm.put u 0 b) hred
    have h2 := Tm.put_len u b 0
    have h3 := Tm.sub_lt hred
    have h4 : (Tm.app (.lam b) u).enc.length = b.enc.length + u.enc.length + 2 := by
      simp only [Tm.enc, List.length_cons, List.length_append]
      omega
    have h5 : b.enc.length * u.enc.length ≤ t.enc.length * t.enc.length := Nat.mul_le_mul (by omega) (by omega)
    omega
  · omega
/-- how long a step's result can be -/
theorem Tm.step_big {t : Tm} {p : List Nat} (h : t.enc.length ≤ 3000) : (t.step p).enc.length ≤ 9006000 := by
  unfold Tm.step
  split
  · rename_i i b u hred
    have h1 := Tm.rep_len (v := Tm.put u 0 b) hred
    have h2 := Tm.put_len u b 0
    have h3 := Tm.sub_lt hred
    have h4 : (Tm.app (.lam b) u).enc.length = b.enc.length + u.enc.length + 2 := by
      simp only [Tm.enc, List.length_cons, List.length_append]
      omega
    have h5 : b.enc.length * u.enc.length ≤ 3000 * 3000 := Nat.mul_le_mul (by omega) (by omega)
    omega
  · omega
/-- a variable replaced by another -/
theorem Tm.var_set (t : Tm) {i : Nat} {n : Int} (c : Nat) (h : t.enc[i]? = some (.int n)) : ∃ t' : Tm, t'.enc = t.enc.take i ++ [.int (c : Int)] ++ t.enc.drop (i + 1) := by
  have hi := (List.getElem?_eq_some_iff.mp h).1
  obtain ⟨p, u, post, _, hs, hd⟩ := t.part_at hi
  have h0 : (t.enc.drop i)[0]? = some (.int n) := by rw [List.getElem?_drop, Nat.add_zero]; exact h
  rw [hd] at h0
  cases u with
  | lam b => simp [Tm.enc] at h0
  | app f a => simp [Tm.enc] at h0
  | var m => exact ⟨Tm.rep (.var c) t p, Tm.rep_enc (.var c) t p hs⟩
/-! ### lists of terms as data -/
inductive Ts (K : PySem.W.Frag) (H : Hp) : List Addr → List Tm → Prop
  | nil : Ts K H [] []
  | cons {a : Addr} {as : List Addr} {t : Tm} {ts : List Tm} (h : SqT K H a t.enc) (r : Ts K H as ts) : Ts K H (a :: as) (t :: ts)
section
variable {K : PySem.W.Frag} {H H' : Hp} {Q : VK}
theorem Ts.mono {as : List Addr} {ts : List Tm} (h : Ts K H as ts) (e : ∀ a xs, SqT K H a xs → SqT K H' a xs) : Ts K H' as ts := by
  induction h with
  | nil => exact .nil
  | cons h _ ih => exact .cons (e _ _ h) ih
theorem Ts.ex {as : List Addr} {ts : List Tm} (h : Ts K H as ts) (e : Ex H H') : Ts K H' as ts := h.mono fun a xs z => ex_t e z
theorem Ts.snoc {as : List Addr} {ts : List Tm} {a : Addr} {t : Tm} (h : Ts K H as ts) (ha : SqT K H a t.enc) : Ts K H (as ++ [a]) (ts ++ [t]) := by
  induction h with
  | nil => exact .cons ha .nil
  | cons h _ ih => exact .cons h ih
theorem Ts.len {as : List Addr} {ts : List Tm} (h : Ts K H as ts) : as.length = ts.length := by
  induction h with
  | nil => rfl
  | cons _ _ ih => simp [ih]
theorem Ts.at {as : List Addr} {ts : List Tm} (h : Ts K H as ts) {i : Nat} {a : Addr} (ha : as[i]? = some a) : ∃ t, ts[i]? = some t ∧ SqT K H a t.enc := by
  induction h generalizing i with
  | nil => simp at ha
  | cons h _ ih =>
    cases i with
    | zero =>
      simp at ha
      subst ha
      exact ⟨_, rfl, h⟩
    | succ i => exact ih (by simpa using ha)
abbrev refs (as : List Addr) : List V := as.map V.ref
def tmd (t : Tm) : PyData := .tuple (t.enc.map dv)
theorem Ts.dp {as : List Addr} {ts : List Tm} (h : Ts K H as ts) : DpAll K H (refs as) (ts.map tmd) := by
  induction h with
  | nil => exact .nil
  | cons h _ ih => exact .cons (.tup h (dp_nodes (Tm.nds _))) ih
theorem lay_tms : ∀ ts : List Tm, PyData.canLayAll0 (ts.map tmd) = true
  | [] => rfl
  | t :: ts => by
    have h1 : (tmd t).canLay0 = true := lay_nodes t.nds
    show ((tmd t).canLay0 && PyData.canLayAll0 (ts.map tmd)) = true
    rw [h1, lay_tms ts]
    rfl
theorem depth_tms : ∀ ts : List Tm, PyData.depthAll (ts.map tmd) ≤ 2
  | [] => by simp [PyData.depthAll]
  | t :: ts => by
    have h1 : (tmd t).depth ≤ 2 := depth_nodes
    have h2 := depth_tms ts
    simp only [List.map_cons, PyData.depthAll]
    omega
theorem shaped_tms (ts : List Tm) : SeqAt.shaped (.list (ts.map tmd)) = true := by
  have h1 : (PyData.list (ts.map tmd)).canLay0 = true := lay_tms ts
  have h2 : (PyData.list (ts.map tmd)).depth ≤ 3 := by
    have h := depth_tms ts
    simp only [PyData.depth]
    omega
  unfold SeqAt.shaped
  rw [h1, Bool.true_and]
  exact decide_eq_true (by omega)
theorem eqv_tms : ∀ ts : List Tm, PyData.eqvAll (ts.map tmd) (ts.map tmd) = true
  | [] => by simp [PyData.eqvAll]
  | t :: ts => by
    have ih := eqv_tms ts
    have h1 : PyData.eqv (tmd t) (tmd t) = true := by
      show PyData.eqv (.tuple (t.enc.map dv)) (.tuple (t.enc.map dv)) = true
      rw [PyData.eqv, eqv_nodes t.nds t.nds, decide_eq_true rfl]
    rw [List.map_cons, PyData.eqvAll, ih, h1]
    rfl
theorem w_eqTs {p q : Addr} {as bs : List Addr} {ts : List Tm} (h : H p = some (.lst (refs as))) (k : H q = some (.lst (refs bs))) (ht : Ts K H as ts) (kt : Ts K H bs ts) (qq : Q (.bl true) H) : rEqD K (.ref p) (.ref q) H Q :=
  ⟨_, _, .lst (SqL.of h) ht.dp, .lst (SqL.of k) kt.dp, shaped_tms ts, shaped_tms ts, by rw [PyData.eqv, eqv_tms]; exact qq⟩
theorem w_eqTZ {p : Addr} {as : List Addr} {ts : List Tm} {x : Str} (o : wordOk x = true) (z : SeqAt.shaped (.str x) = true) (h : H p = some (.lst (refs as))) (ht : Ts K H as ts) (qq : Q (.bl false) H) : rEqD K (.ref p) (.str x) H Q :=
  ⟨_, _, .lst (SqL.of h) ht.dp, .str x, shaped_tms ts, z, by rw [show PyData.eqv (.list (ts.map tmd)) (.str x) = false by simp [PyData.eqv]]; exact qq⟩
theorem w_eqZZ {x y : Str} (z : SeqAt.shaped (.str x) = true) (z2 : SeqAt.shaped (.str y) = true) {b : Bool} (e : PyData.eqv (.str x) (.str y) = b) (qq : Q (.bl b) H) : rEqD K (.str x) (.str y) H Q :=
  ⟨_, _, .str x, .str y, z, z2, by rw [e]; exact qq⟩
theorem w_eqW {a b : Addr} {x : Str} (o : wordOk x = true) (h : SqT K H a [.str x]) (k : SqT K H b [.str x]) (q : Q (.bl true) H) : rEqD K (.ref a) (.ref b) H Q := by
  unfold wordOk at o
  rw [Bool.and_eq_true] at o
  refine ⟨_, _, .tup h (.cons (.str _) .nil), .tup k (.cons (.str _) .nil), o.1, o.1, ?_⟩
  rw [o.2]
  exact q
/-! ### slices of lists -/
theorem w_slL {a : Addr} {xs : List V} {lo hi : Option Int} (h : SqL K H a xs) (q : ∀ p, H p = none → Q (.ref p) (upd H p (.lst (cutV xs lo hi)))) : rSlL K (.ref a) lo hi H Q := ⟨a, xs, rfl, h, q⟩
theorem plcs_take (qs : List (List Nat)) (i : Nat) : (plcs qs).take i = plcs (qs.take i) := List.map_take.symm
theorem plcs_drop (qs : List (List Nat)) (i : Nat) : (plcs qs).drop i = plcs (qs.drop i) := List.map_drop.symm
theorem plcs_app (qs rs : List (List Nat)) : plcs qs ++ plcs rs = plcs (qs ++ rs) := List.map_append.symm
end
theorem Small.app {qs rs : List (List Nat)} (h : Small qs) (k : Small rs) : Small (qs ++ rs) := fun q hq => (List.mem_append.mp hq).elim (h q) (k q)
theorem Small.take {qs : List (List Nat)} (h : Small qs) (i : Nat) : Small (qs.take i) := fun q hq => h q (List.mem_of_mem_take hq)
theorem Small.drop {qs : List (List Nat)} (h : Small qs) (i : Nat) : Small (qs.drop i) := fun q hq => h q (List.mem_of_mem_drop hq)
/-! ### redexes by their indexes; a step -/
def redB (xs : List V) (i : Nat) : Bool := decide (xs[i]? = some (.str "app")) && decide (xs[i + 1]? = some (.str "lam"))
theorem redB_iff {xs : List V} {i : Nat} : redB xs i = true ↔ xs[i]? = some (.str "app") ∧ xs[i + 1]? = some (.str "lam") := by simp [redB]
theorem redB_of {xs : List V} {i : Nat} {x : V} (h : xs[i]? = some x) (n : x ≠ .str "app") : redB xs i = false := by
  simp [redB, h, n]
theorem redB_app {xs : List V} {i : Nat} {y : V} (h : xs[i]? = some (.str "app")) (h2 : xs[i + 1]? = some y) : redB xs i = decide (y = .str "lam") := by
  simp [redB, h, h2]
def redI (xs : List V) : Nat → List Nat
  | 0 => []
  | i + 1 => redI xs i ++ (if redB xs i = true then [i] else [])
theorem redI_len (xs : List V) : ∀ i, (redI xs i).length ≤ i
  | 0 => Nat.zero_le _
  | i + 1 => by
    have := redI_len xs i
    simp only [redI, List.length_append]
    split
    · simp only [List.length_singleton]; omega
    · simp only [List.length_nil]; omega
theorem redI_mem {xs : List V} {j : Nat} : ∀ {n : Nat}, j ∈ redI xs n ↔ j < n ∧ redB xs j = true
  | 0 => by simp [redI]
  | n + 1 => by
    have ih := redI_mem (xs := xs) (j := j) (n := n)
    simp only [redI, List.mem_append, ih]
    constructor
    · rintro (⟨h1, h2⟩ | h)
      · exact ⟨by omega, h2⟩
      · split at h
        · rename_i hb
          rw [List.mem_singleton.mp h]
          exact ⟨by omega, hb⟩
        · simp at h
    · rintro ⟨h1, h2⟩
      by_cases e : j = n
      · subst e
        right
        rw [if_pos h2]
        exact List.mem_singleton.mpr rfl
      · exact .inl ⟨by omega, h2⟩
theorem redI_K (xs : List V) (qs : List (List Nat)) : ∀ n, (redI xs n).map (fun i => qs.getD i []) = redK xs qs n
  | 0 => rfl
  | n + 1 => by
    simp only [redI, redK, List.map_append, redI_K xs qs n]
    congr 1
    by_cases h : redB xs n = true
    · rw [if_pos h, if_pos (redB_iff.mp h)]
      rfl
    · rw [if_neg h, if_neg (fun z => h (redB_iff.mpr z))]
      rfl
theorem red_of {t v : Tm} {p : List Nat} {i : Nat} (h : t.sub p = some (i, v)) : redB t.enc i = true ↔ ∃ b u, v = .app (.lam b) u := by
  obtain ⟨⟨post, hd⟩, _⟩ := Tm.sub_at t p [] h
  have g : ∀ k, t.enc[i + k]? = (v.enc ++ post)[k]? := fun k => by rw [← hd, List.getElem?_drop]
  have g0 := g 0
  have g1 := g 1
  rw [Nat.add_zero] at g0
  rw [redB_iff, g0, g1]
  cases v with
  | var n => simp [Tm.enc]
  | lam b => simp [Tm.enc, str_ne1]
  | app f a =>
    have hl := Tm.head_lam f (a.enc ++ post)
    have e : ((Tm.app f a).enc ++ post)[1]? = (f.enc ++ (a.enc ++ post))[0]? := by simp [Tm.enc]
    rw [e, hl]
    cases f with
    | var n => simp [Tm.enc, Tm.isLam]
    | lam b => simp [Tm.enc, Tm.isLam]
    | app f a => simp [Tm.enc, Tm.isLam]
theorem red_sub {t v : Tm} {p : List Nat} {i : Nat} (h : t.sub p = some (i, v)) : (redB t.enc i = true ∧ ∃ b u, t.Red p i b u) ∨ (redB t.enc i = false ∧ ∀ j b u, ¬ t.Red p j b u) := by
  have e := red_of h
  cases hb : redB t.enc i with
  | true =>
    obtain ⟨b, u, rfl⟩ := e.mp hb
    exact .inl ⟨rfl, b, u, h⟩
  | false =>
    refine .inr ⟨rfl, fun j b u z => ?_⟩
    unfold Tm.Red at z
    rw [h] at z
    have z2 := (Prod.mk.inj (Option.some.inj z)).2
    rw [e.mpr ⟨b, u, z2⟩] at hb
    cases hb
theorem fits_mid {xs ys zs : List V} (h : fitsV ys = false) : fitsV (xs ++ ys ++ zs) = false := by
  cases e : fitsV (xs ++ ys ++ zs) with
  | false => rfl
  | true =>
    unfold fitsV at e h
    rw [Bool.and_eq_true] at e
    have h1 := of_decide_eq_true e.1
    have h2 := e.2
    rw [List.all_append, List.all_append, Bool.and_eq_true, Bool.and_eq_true] at h2
    simp only [List.length_append] at h1
    rw [h2.1.2, decide_eq_true (by omega)] at h
    cases h
theorem w_ninS {K : PySem.W.Frag} {H : Hp} {Q : VK} {p : Addr} {r : List Nat} {qs : List (List Nat)} (h : H p = some (.lst (plcs qs))) (q : Q (.bl (!decide (r ∈ qs))) H) : rIn K true (.str (pl r)) (.ref p) H Q :=
  ⟨p, _, rfl, .inl (SqL.of h), rfl, flat_pl qs, by rw [inV_pl]; exact q⟩
theorem road_cut {road : List (List Nat)} {i : Nat} {r : List Nat} (h : road[i]? = some r) : road = road.take i ++ r :: road.drop (i + 1) := by
  obtain ⟨hl, e⟩ := List.getElem?_eq_some_iff.mp h
  rw [← e, ← List.drop_eq_getElem_cons hl, List.take_append_drop]
theorem road_take {road : List (List Nat)} {i : Nat} {r : List Nat} (h : road[i]? = some r) : road.take (i + 1) = road.take i ++ [r] := by
  rw [List.take_add_one, h]
  rfl
theorem red_or (u : Tm) (r : List Nat) : (u.isRed r = true ∧ ∃ i b v, u.Red r i b v) ∨ (u.isRed r = false ∧ ∀ i b v, ¬ u.Red r i b v) := by
  cases h : u.isRed r with
  | true => exact .inl ⟨rfl, Tm.isRed_iff.mp h⟩
  | false => exact .inr ⟨rfl, fun i b v z => by rw [Tm.isRed_iff.mpr ⟨i, b, v, z⟩] at h; cases h⟩
/-- what a road comes to: all terms, or its first error -/
theorem pass_all (t : Tm) (road : List (List Nat)) : (∃ ts u, Pass t road ts u) ∨ Tm.pass t road = .large ∨ Tm.pass t road = .none := by
  suffices h : ∀ (s r : List (List Nat)) (ts : List Tm) (u : Tm), r ++ s = road → Pass t r ts u → (∃ ts u, Pass t road ts u) ∨ Tm.pass t road = .large ∨ Tm.pass t road = .none from h road [] [t] t rfl .nil
  intro s
  induction s with
  | nil =>
    intro r ts u e pa
    rw [List.append_nil] at e
    subst e
    exact .inl ⟨ts, u, pa⟩
  | cons p s ih =>
    intro r ts u e pa
    cases hi : u.isRed p with
    | false => exact .inr (.inr (by rw [← e]; exact pa.none hi))
    | true =>
      cases hf : fitsV (u.step p).enc with
      | false => exact .inr (.inl (by rw [← e]; exact pa.large hi hf))
      | true => exact ih (r ++ [p]) _ _ (by rw [← e]; simp) (pa.snoc hi hf)
end Ly
set_option Elab.async false
set_option linter.all false
set_option maxRecDepth 100000
set_option maxHeartbeats 2000000
/-! Ly: dicts of the module, written out: NAME.get(k, x), k in NAME, NAME[k] -/
namespace Ly
open PySem PySem.Spec PyProof.Rows L2 Evl
def EntsAre : List DictEntry → List (Str × V) → Prop
  | [], [] => True
  | e :: r, (k, v) :: s => (∃ t, e.key = .str k t) ∧ RelV v e.val ∧ EntsAre r s
  | _, _ => False
/-- at d: a dict of the module with these pairs -/
def KD (K : PySem.W.Frag) (w : World) (d : Addr) (kvs : List (Str × V)) : Prop :=
  ∃ es n, K.lookup d = some ⟨.type "dict", none, .dict es n, #[]⟩ ∧ PySem.W.KeysLit w.params es.toList ∧ (d == sysModules) = false ∧ EntsAre es.toList kvs
theorem KD.mk {K : PySem.W.Frag} {w : World} {d : Addr} {kvs : List (Str × V)} {es : Array DictEntry} {n : Nat} (l : K.lookup d = some ⟨.type "dict", none, .dict es n, #[]⟩) (k : PySem.W.KeysLit w.params es.toList) (s : (d == sysModules) = false) (e : EntsAre es.toList kvs) : KD K w d kvs := ⟨es, n, l, k, s, e⟩
def getS (kvs : List (Str × V)) (y : V) : Option V := match y with
  | .str k => (kvs.find? fun kv => decide (kv.1 = k)).map (·.2)
  | _ => none
def OptR : Option V → Option Value → Prop
  | some v, some u => RelV v u
  | none, none => True
  | _, _ => False
theorem OptR.getD {o : Option V} {r : Option Value} (h : OptR o r) {z : V} {u : Value} (hz : RelV z u) : RelV (o.getD z) (r.getD u) := by
  cases o with
  | none =>
    cases r with
    | none => exact hz
    | some u => exact h.elim
  | some v =>
    cases r with
    | none => exact h.elim
    | some u => exact h
theorem OptR.isSome {o : Option V} {r : Option Value} (h : OptR o r) : r.isSome = o.isSome := by
  cases o with
  | none =>
    cases r with
    | none => rfl
    | some u => exact h.elim
  | some v =>
    cases r with
    | none => exact h.elim
    | some u => rfl
theorem ents_get (k : Key) : ∀ {es : List DictEntry} {kvs : List (Str × V)}, EntsAre es kvs → OptR (getS kvs (kV k)) ((es.find? fun e => keyIs k e.key).map (·.val))
  | [], [], _ => by cases k <;> exact True.intro
  | [], _ :: _, h => h.elim
  | _ :: _, [], h => h.elim
  | e :: r, (x, v) :: s, h => by
    obtain ⟨⟨t, ek⟩, hv, hr⟩ := h
    have ih := ents_get k hr
    cases k with
    | inl i =>
      have e0 : keyIs (.inl i) e.key = false := by rw [ek]; rfl
      rw [List.find?_cons, e0]
      exact ih
    | inr y =>
      have e0 : keyIs (.inr y) e.key = decide (x = y) := by
        rw [ek]
        show (x == y) = _
        by_cases c : x = y
        · rw [c]; simp
        · rw [decide_eq_false c]
          exact beq_eq_false_iff_ne.mpr c
      rw [List.find?_cons, e0]
      by_cases c : x = y
      · subst c
        rw [decide_eq_true rfl]
        show OptR (getS ((x, v) :: s) (.str x)) (some e.val)
        have : getS ((x, v) :: s) (.str x) = some v := by simp [getS]
        rw [this]
        exact hv
      · rw [decide_eq_false c]
        have : getS ((x, v) :: s) (kV (.inr y)) = getS s (kV (.inr y)) := by simp [getS, kV, c]
        rw [this]
        exact ih
theorem KD.mapOf {prog : Program} {w : World} {K : PySem.W.Frag} {h : Heap} {d : Addr} {kvs : List (Str × V)} (D : KD K w d kvs) (X : K.In h) :
    ∃ f, h.MapOf (mixKind prog w) d f ∧ ∀ k : Key, OptR (getS kvs (kV k)) (f k) := by
  obtain ⟨es, n, hl, hk, low, he⟩ := D
  refine ⟨fun k => findBy keyIs es k, ⟨_, es, n, X _ _ hl, ⟨rfl, rfl, rfl⟩, rfl, fun e he => ?_, fun _ => rfl⟩, fun k => ?_⟩
  · obtain ⟨x, t, e1, e2⟩ := hk.all e (Array.mem_toList_iff.mpr he)
    exact ⟨.inr x, by rw [e1]; exact mixKind_str prog w x t, e2⟩
  · have := ents_get k he
    show OptR (getS kvs (kV k)) (findBy keyIs es k)
    unfold findBy
    rw [← Array.find?_toList]
    exact this
theorem KD.low {K : PySem.W.Frag} {w : World} {d : Addr} {kvs : List (Str × V)} (D : KD K w d kvs) : (d == sysModules) = false := by
  obtain ⟨es, n, hl, hk, low, he⟩ := D
  exact low
/-- at a: a tuple of the module with these items -/
def KT (K : PySem.W.Frag) (a : Addr) (xs : List V) : Prop := ∃ (o : Obj) (its : Array Value) (n : Nat), K.lookup a = some o ∧ o.cls = .type "tuple" ∧ o.data = .seq its n ∧ its.size ≤ sizeLine ∧ Vals xs its.toList
theorem KT.mk {K : PySem.W.Frag} {a : Addr} {xs : List V} {o : Obj} {its : Array Value} {n : Nat} (l : K.lookup a = some o) (c : o.cls = .type "tuple") (d : o.data = .seq its n) (z : its.size ≤ sizeLine) (v : Vals xs its.toList) : KT K a xs := ⟨o, its, n, l, c, d, z, v⟩
theorem KT.sq {K : PySem.W.Frag} {a : Addr} {xs : List V} (h : KT K a xs) (H : Hp) : SqT K H a xs := .inr h
/-! NAME.get(k, x) -/
def tKGet2 (K : PySem.W.Frag) (w : World) (td ty tx : TE) : TE := fun σ H Q => td σ H fun x H1 => ∃ a kvs, x = .ref a ∧ KD K w a kvs ∧ ty σ H1 fun y H2 => tx σ H2 fun z H3 => (∃ k, y = kV k) ∧ Q ((getS kvs y).getD z) H3
section
variable {X : Cx} {o e f : Expr} {apos cpos : Pos} {td ty tx : TE}
theorem pe_kget2 (ho : PE X o td) (he : PE X e ty) (hf : PE X f tx) (m : M2 X o "get" apos e f cpos) : PE X (.Call (.Attribute o "get" apos) [e, f] [] cpos) (tKGet2 X.K X.w td ty tx) := by
  refine ⟨fun pins s σ H Q I h => ?_⟩
  refine wpAny_Call_method m.base m.few m.line PySem.F.plainAttrs_dict PySem.F.slot_dict_get PySem.F.type_dict_get (thn (ho.run pins s σ H _ I h) fun u s1 ⟨x, H1, I1, rx, a, kvs, ex, d, q1⟩ => ?_)
  subst ex
  obtain rfl : u = Value.ref a := rx
  obtain ⟨f0, hm0, _⟩ := d.mapOf (prog := X.prog) I1.kIn
  refine ⟨hm0.typeIs, hm0.noDict, ?_⟩
  rw [m.trees]
  refine Calls.callWith_builtin rfl (Calls.evalArgs_plain (Calls.spliced_cons (thn (he.run pins s1 σ H1 _ I1 q1) fun iv s2 ⟨y, H2, I2, ry, q2⟩ =>
    Calls.spliced_cons (thn (hf.run pins s2 σ H2 _ I2 q2) fun fv s3 ⟨z, H3, I3, rz, ⟨k, ek⟩, q3⟩ => Calls.spliced_nil ?_))))
  subst ek
  obtain ⟨f1, hm, hg⟩ := d.mapOf (prog := X.prog) I3.kIn
  exact call_meetsIn PySem.F.slot_dict_get hm.typeIs PySem.F.entry_dict_get (PySem.F.args_dict_get_3 _ _ _) (meets_dict_get_default (mixKind X.prog X.w) a (kV_is ry) d.low fv) ⟨_, hm, _, H3, I3.tok _, (hg k).getD rz, q3⟩
theorem op_inKD : OpR X (compareOp .In) (fun x y H Q => ∃ (a : Addr) (kvs : List (Str × V)) (k : Key), x = kV k ∧ y = .ref a ∧ KD X.K X.w a kvs ∧ Q (.bl (getS kvs x).isSome) H) := by
  intro pins s σ H x y v u Q I rx ry ⟨a, kvs, k, ex, ey, d, q⟩
  subst ex ey
  obtain rfl : u = Value.ref a := ry
  obtain ⟨f1, hm, hg⟩ := d.mapOf (prog := X.prog) I.kIn
  refine wpAny_in_of (kV_is rx) d.low hm ?_
  rw [(hg k).isSome]
  exact ⟨.bl _, H, I.tok _, rfl, q⟩
theorem op_notInKD : OpR X (compareOp .NotIn) (fun x y H Q => ∃ (a : Addr) (kvs : List (Str × V)) (k : Key), x = kV k ∧ y = .ref a ∧ KD X.K X.w a kvs ∧ Q (.bl (!(getS kvs x).isSome)) H) := by
  intro pins s σ H x y v u Q I rx ry ⟨a, kvs, k, ex, ey, d, q⟩
  subst ex ey
  obtain rfl : u = Value.ref a := ry
  obtain ⟨f1, hm, hg⟩ := d.mapOf (prog := X.prog) I.kIn
  refine wpAny_notIn_of (kV_is rx) d.low hm ?_
  rw [(hg k).isSome]
  exact ⟨.bl _, H, I.tok _, rfl, q⟩
def rIxKD (K : PySem.W.Frag) (w : World) : R2 := fun x y H Q => ∃ a kvs k v, x = .ref a ∧ y = kV k ∧ KD K w a kvs ∧ getS kvs y = some v ∧ Q v H
theorem ix_kd : IxR X (rIxKD X.K X.w) := by
  intro value slice pins s σ H x y v u Q I rx ry ⟨a, kvs, k, r, ex, ey, d, hget, q⟩ hs
  subst ex ey
  obtain rfl : v = Value.ref a := rx
  obtain ⟨f1, hm, hg⟩ := d.mapOf (prog := X.prog) I.kIn
  have hk := hg k
  rw [hget] at hk
  cases hf : f1 k with
  | none =>
    rw [hf] at hk
    exact hk.elim
  | some u0 =>
    rw [hf] at hk
    exact tail_any hm.typeIs slot_dict_getitem.lookup (wpAny_getItem_of (kV_is ry) hm hf ⟨r, H, I.tok _, hk, q⟩) hs
end
section
variable {K : PySem.W.Frag} {w : World} {σ : L2.St} {H : Hp} {Q : VK} {td ty tx : TE}
theorem w_kget2 (h : td σ H fun x H1 => ∃ a kvs, x = .ref a ∧ KD K w a kvs ∧ ty σ H1 fun y H2 => tx σ H2 fun z H3 => (∃ k, y = kV k) ∧ Q ((getS kvs y).getD z) H3) : tKGet2 K w td ty tx σ H Q := h
theorem w_kg {a : Addr} {kvs : List (Str × V)} {B : List (Str × V) → Prop} (D : KD K w a kvs) (q : B kvs) : ∃ a' kvs', V.ref a = .ref a' ∧ KD K w a' kvs' ∧ B kvs' := ⟨a, kvs, rfl, D, q⟩
end
theorem w_isRN {a : Addr} {A B : Prop} (h : B) : if decide (V.ref a = V.non) = true then A else B := iteF h
theorem w_isNN {A B : Prop} (h : A) : if decide (V.non = V.non) = true then A else B := iteT h
theorem w_isIN {i : Int} {A B : Prop} (h : B) : if decide (V.int i = V.non) = true then A else B := iteF h
theorem q_eq {Q : VK} {H : Hp} {v u : V} (q : Q u H) (e : v = u) : Q v H := by
  rw [e]
  exact q
theorem kV_int (i : Int) : ∃ k, V.int i = kV k := ⟨.inl i, rfl⟩
theorem kV_str (x : Str) : ∃ k, V.str x = kV k := ⟨.inr x, rfl⟩
end Ly
set_option Elab.async false
set_option linter.all false
set_option maxRecDepth 100000
/-! Ly: what is written with some words, parts behind their nodes -/
namespace Ly
open PySem PySem.Spec PyProof.Rows L2 Evl
def pcD (v : V) : Int := if v = .str "app" then 2 else if v = .str "to" then 2 else if v = .str "lam" then 1 else 0
def numV (m : Int) : V → Bool
  | .int i => decide (0 ≤ i) && decide (i ≤ m)
  | _ => false
def nodeW (ws : List Str) : V → Bool
  | .str x => decide (x ∈ ws)
  | v => numV 1000000 v
def scanW (ws : List Str) : Int → List V → Bool
  | m, [] => decide (m = 0)
  | m, v :: r => if m = 0 ∨ nodeW ws v = false then false else scanW ws (m + (pcD v - 1)) r
def isW (ws : List Str) (xs : List V) : Bool := decide (xs.length ≤ 1000) && scanW ws 1 xs
theorem nodeW_key {ws : List Str} {v : V} (h : nodeW ws v = true) : ∃ k, v = kV k := by
  cases v with
  | int i => exact kV_int i
  | str x => exact kV_str x
  | _ => cases h
theorem nodeV_W (v : V) : isNodeV v = nodeW ["lam", "app"] v := by
  cases v with
  | int i => rfl
  | str x =>
    show (decide (x = "lam") || decide (x = "app")) = decide (x ∈ _)
    simp
  | _ => rfl
theorem scanV_W : ∀ (xs : List V) (m : Int), scanV m xs = scanW ["lam", "app"] m xs
  | [], m => rfl
  | v :: r, m => by
    rw [scanV, scanW, nodeV_W]
    by_cases c : m = 0 ∨ nodeW ["lam", "app"] v = false
    · rw [if_pos c, if_pos c]
    · rw [if_neg c, if_neg c]
      have hn : nodeW ["lam", "app"] v = true := by
        cases h : nodeW ["lam", "app"] v with
        | true => rfl
        | false => exact absurd (.inr h) c
      have e : pcV v = pcD v := by
        cases v with
        | int i => rfl
        | str x =>
          have h2 : x = "lam" ∨ x = "app" := by simpa [nodeW] using hn
          rcases h2 with rfl | rfl <;> decide +kernel
        | _ => rfl
      rw [e]
      exact scanV_W r _
theorem isV_W (xs : List V) : isTermV xs = isW ["lam", "app"] xs := by rw [isTermV, isW, scanV_W]
theorem pcD_get {v : V} (h : ∃ k, v = kV k) : (getS [("lam", .int 1), ("app", .int 2), ("to", .int 2)] v).getD (.int 0) = .int (pcD v) := by
  obtain ⟨k, rfl⟩ := h
  cases k with
  | inl i => rfl
  | inr x =>
    by_cases h1 : x = "lam"
    · subst h1
      decide +kernel
    · by_cases h2 : x = "app"
      · subst h2
        decide +kernel
      · by_cases h3 : x = "to"
        · subst h3
          decide +kernel
        · have e1 : decide (("lam" : Str) = x) = false := decide_eq_false (Ne.symm h1)
          have e2 : decide (("app" : Str) = x) = false := decide_eq_false (Ne.symm h2)
          have e3 : decide (("to" : Str) = x) = false := decide_eq_false (Ne.symm h3)
          have e0 : pcD (.str x) = 0 := by
            unfold pcD
            rw [if_neg (fun z => h2 (V.str.inj z)), if_neg (fun z => h3 (V.str.inj z)), if_neg (fun z => h1 (V.str.inj z))]
          show (getS _ (V.str x)).getD _ = V.int (pcD (.str x))
          rw [e0]
          simp only [getS, List.find?_cons, e1, e2, e3, List.find?_nil, Option.map_none, Option.getD_none]
theorem inV_strs (x : Str) (ws : List Str) : inV (.str x) (ws.map V.str) = decide (x ∈ ws) := by
  induction ws with
  | nil => rfl
  | cons w r ih =>
    have e : inV (.str x) ((w :: r).map V.str) = ((w == x) || inV (.str x) (r.map V.str)) := rfl
    rw [e, ih]
    by_cases c : x = w
    · subst c
      simp
    · have c2 : (w == x) = false := beq_eq_false_iff_ne.mpr (Ne.symm c)
      rw [c2]
      simp [c]
theorem w_inW {K : PySem.W.Frag} {H : Hp} {Q : VK} {p : Addr} {x : Str} {ws : List Str} (h : SqT K H p (ws.map V.str)) (q : Q (.bl (decide (x ∈ ws))) H) : rIn K false (.str x) (.ref p) H Q :=
  ⟨p, ws.map V.str, rfl, .inr h, rfl, by simp [flatV], by
    show Q (.bl (inV (.str x) (ws.map V.str))) H
    rw [inV_strs]
    exact q⟩
theorem w_ninW {K : PySem.W.Frag} {H : Hp} {Q : VK} {p : Addr} {x : Str} {ws : List Str} (h : SqT K H p (ws.map V.str)) (q : Q (.bl (!decide (x ∈ ws))) H) : rIn K true (.str x) (.ref p) H Q :=
  ⟨p, ws.map V.str, rfl, .inr h, rfl, by simp [flatV], by
    show Q (.bl (!inV (.str x) (ws.map V.str))) H
    rw [inV_strs]
    exact q⟩
theorem w_br2 {c A B : Prop} [Decidable c] (h1 : ¬ c → A) (h2 : c → B) : if (!decide c) = true then A else B := by
  by_cases e : c
  · rw [decide_eq_true e]
    exact iteF (h2 e)
  · rw [decide_eq_false e]
    exact iteT (h1 e)
theorem cutV_mem {xs : List V} {lo hi : Option Int} {x : V} (h : x ∈ cutV xs lo hi) : x ∈ xs := List.mem_of_mem_drop (List.mem_of_mem_take h)
theorem cutV_len (xs : List V) (lo hi : Option Int) : (cutV xs lo hi).length ≤ xs.length := by
  unfold cutV
  rw [List.length_take, List.length_drop]
  omega
end Ly
set_option Elab.async false
set_option linter.all false
set_option maxRecDepth 100000
set_option maxHeartbeats 2000000
/-! tuples, lists, comprehensions and all() while an exception is handled -/
namespace Ly
open PySem PySem.Spec PyProof.Rows L2 HotX L2H
section
variable {prog : Program} {w : World} {A : Around} {E : Value → Shared → Prop} {s : Shared}
/-- StopIteration comes up, while x1 is handled: what stood stays -/
theorem stopped_hot {α : Type} {x1 : Addr} {Q : α → Shared → Prop} {E' : Value → Shared → Prop} {a1 : Around} (hot : HotAt a1 x1 s.heap)
    (q : ∀ a h', (∀ b o, s.heap.get? b = some o → h'.get? b = some o) → (∃ o, h'.get? a = some o ∧ o.cls = .type "StopIteration") → E' (.ref a) { s with heap := h' }) :
    wpAny (model prog w) a1 (newExc (.type "StopIteration") [] >>= fun e => (raiseNew e : Sem α)) Q E' s := by
  obtain ⟨hh, o1, vs1, h1, d1, c1⟩ := hot
  refine wpAny_bind ?_
  simp only [newExc, newTuple]
  (refine wpAny_bind (wpAny_newObj_type ?_ (by size_fits)); refine wpAny_bind (m := firstArgMember _ _) (wpAny_of_eq (a := Value.none) (by first | rfl | (simp only [firstArgMember]; rfl)) ?_))
  refine wpAny_newObj_type ?_ (by size_fits)
  refine raiseNew_hot ⟨hh, o1, vs1, Heap.get?_push_of_some _ (Heap.get?_push_of_some _ h1), d1, c1⟩ (Nat.ne_of_lt (Heap.lt_size (Heap.get?_push_of_some _ h1))) (Heap.get?_push_size _ rfl) rfl (by first | (simp; done) | (simp; omega) | (simp only [Array.size_append]; simp; omega)) (q _ _ (fun b o e => ?_) ?_)
  · rw [Heap.get?_update_other _ _ (Nat.ne_of_gt (Heap.lt_size (Heap.get?_push_of_some _ e)))]
    exact Heap.get?_push_of_some _ (Heap.get?_push_of_some _ e)
  · exact ⟨_, Heap.get?_update_self _ (Heap.get?_push_size _ rfl) rfl, rfl⟩
/-- the end of a tuple's walk, of a list's walk, while x1 is handled -/
theorem tup_end_hot {it t x1 : Addr} {i : Nat} {items : Array Value} {Q : Option Value → Shared → Prop} (hot : HotAt A x1 s.heap) (hne : x1 ≠ it) (ki : s.heap.IsTupleIter it t i) (kt : s.heap.IsTuple t items) (off : items[i]? = none)
    (q : ∀ h', (∀ b o, b ≠ it → s.heap.get? b = some o → h'.get? b = some o) → Q none { s with heap := h' }) : wpAny (model prog w) A (pyNext (.ref it)) Q E s := by
  obtain ⟨o0, g0, c0, d0⟩ := id ki
  obtain ⟨o2, g2, _, n2, d2⟩ := kt
  unfold pyNext
  refine wpAny_bind (wpAny_attempt (wpAny_callSpecial?_slot (name := Str.ofString "__next__") ki.typeIs F.slot_tuple_iterator_next
    (wpAny_call_entry F.slot_tuple_iterator_next ki.typeIs F.entry_tuple_iterator_next ?_ (F.args_tuple_iterator_next_1 _))))
  show wpAny _ _ (field (.ref it) 0 >>= _) _ _ s
  refine wpAny_bind (wpAny_field g0 d0 (x := .ref t) rfl ?_)
  rw [show (Value.ref t == Value.none) = false from rfl]
  show wpAny _ _ (field (.ref it) 1 >>= _) _ _ s
  refine wpAny_bind (wpAny_field g0 d0 (x := .int i 0) rfl ?_)
  show wpAny _ _ (seqItems? (.ref t) >>= _) _ _ s
  refine wpAny_bind (wpAny_seqItems g2 d2 ?_)
  simp only [Int.toNat_natCast, off]
  refine wpAny_bind (wpAny_rule (wpAny_bind (wpAny_setField g0 d0 (by simp) ?_)))
  obtain ⟨hh, o1, vs1, h1, d1, c1⟩ := hot
  show wpAny _ _ (newExc (.type "StopIteration") [] >>= fun e => (raiseNew e : Sem _)) _ _ _
  refine stopped_hot (x1 := x1) ⟨hh, o1, vs1, (Heap.get?_update_other _ _ (Ne.symm hne)).trans h1, d1, c1⟩ fun a h' k ⟨o, eo, co⟩ => ?_
  refine wpAny_bind (wpAny_isInstance (T := "StopIteration") (b := true) ⟨o, eo, co⟩ isSubtype_stop ?_)
  refine wpAny_pure (q h' fun b u hb e => k b u ?_)
  rw [Heap.get?_update_other _ _ (Ne.symm hb)]
  exact e
theorem lst_end_hot {it l x1 : Addr} {i : Nat} {items : Array Value} {Q : Option Value → Shared → Prop} (hot : HotAt A x1 s.heap) (hne : x1 ≠ it) (ki : s.heap.IsListIter it l i) (kl : s.heap.IsList l items) (off : items[i]? = none)
    (q : ∀ h', (∀ b o, b ≠ it → s.heap.get? b = some o → h'.get? b = some o) → Q none { s with heap := h' }) : wpAny (model prog w) A (pyNext (.ref it)) Q E s := by
  obtain ⟨o0, g0, c0, d0⟩ := id ki
  obtain ⟨o2, g2, _, n2, d2⟩ := kl
  unfold pyNext
  refine wpAny_bind (wpAny_attempt (wpAny_callSpecial?_slot (name := Str.ofString "__next__") ki.typeIs slot_listiter_next
    (wpAny_call_entry slot_listiter_next ki.typeIs entry_listiter_next ?_ (args_listiter_next _))))
  show wpAny _ _ (field (.ref it) 0 >>= _) _ _ s
  refine wpAny_bind (wpAny_field g0 d0 (x := .ref l) rfl ?_)
  rw [show (Value.ref l == Value.none) = false from rfl]
  show wpAny _ _ (field (.ref it) 1 >>= _) _ _ s
  refine wpAny_bind (wpAny_field g0 d0 (x := .int i 0) rfl ?_)
  show wpAny _ _ (seqItems? (.ref l) >>= _) _ _ s
  refine wpAny_bind (wpAny_seqItems g2 d2 ?_)
  simp only [Int.toNat_natCast, off]
  refine wpAny_bind (wpAny_rule (wpAny_bind (wpAny_setField g0 d0 (by simp) ?_)))
  obtain ⟨hh, o1, vs1, h1, d1, c1⟩ := hot
  show wpAny _ _ (newExc (.type "StopIteration") [] >>= fun e => (raiseNew e : Sem _)) _ _ _
  refine stopped_hot (x1 := x1) ⟨hh, o1, vs1, (Heap.get?_update_other _ _ (Ne.symm hne)).trans h1, d1, c1⟩ fun a h' k ⟨o, eo, co⟩ => ?_
  refine wpAny_bind (wpAny_isInstance (T := "StopIteration") (b := true) ⟨o, eo, co⟩ isSubtype_stop ?_)
  refine wpAny_pure (q h' fun b u hb e => k b u ?_)
  rw [Heap.get?_update_other _ _ (Ne.symm hb)]
  exact e
/-- a list's walk, as all() and its like ask it -/
theorem walks_hot {x1 : Addr} {o1 : Obj} {vs1 : Array Value} (hh : A.handled = some (.ref x1)) (d1 : o1.data = .fields vs1) (c1 : vs1[2]? = some .none) (it l : Addr) (hne : l ≠ it) (h1n : x1 ≠ it) (items : Array Value) :
    Walks prog w A it [it, l, x1] [it] items.size (fun i v => items[i]? = some v) (fun i h => (h.IsListIter it l i ∧ h.IsList l items) ∧ h.get? x1 = some o1) where
  sub := fun b hb => List.mem_cons.mpr (.inl (List.mem_singleton.mp hb))
  frame := fun _ _ _ st k => ⟨⟨st.1.1.at fun o e => k it (by simp) o e, st.1.2.at fun o e => k l (by simp) o e⟩, k x1 (by simp) _ st.2⟩
  item := fun i s Q E hi st q => wpAny_pyNext_list_item st.1.1 st.1.2 (x := items[i]) (by simp [hi]) fun h' n1 n2 =>
    q _ h' s.toks (by simp [hi]) ⟨⟨n1, st.1.2.extBut n2.extBut hne⟩, n2.extBut x1 _ h1n st.2⟩ fun b o hb e => n2.extBut b o (fun z => hb (List.mem_singleton.mpr z)) e
  done := fun s Q E st q => lst_end_hot ⟨hh, o1, vs1, st.2, d1, c1⟩ h1n st.1.1 st.1.2 (by simp) fun h' k => q h' s.toks fun b o hb e => k b o (fun z => hb (List.mem_singleton.mpr z)) e
  self := fun _ _ _ _ st q => wpAny_pyIter_listiter st.1.1 q
end
section
variable {X : Cx}
theorem cr_allH (hc : HotC X) : CallR X (.builtin "all") (rAll X.K) := by
  intro pins s σ H vs us Q I r h
  obtain ⟨a, bs, rfl, hs, q⟩ := h
  obtain ⟨x1, hh, o1, vs1, g1, d1, c1⟩ := hc.at I
  obtain ⟨its, rv, hl, _⟩ := I.list hs
  rw [Vals.ref1 r]
  have eb := rv.bls
  refine call_all_walk (iter_any hl.isList fun s2 e2 st hne => ?_)
  subst e2
  have g2 := Heap.get?_push_of_some { cls := .type "list_iterator", data := .fields #[.ref a, .int 0 0] } g1
  refine ⟨_, _, _, _, _, _, _, rfl, walks_hot (A := X.A.in1) hh d1 c1 _ a hne (Nat.ne_of_lt (Heap.lt_size g1)) its.toArray, ⟨st, g2⟩, truth_bools eb, fun h' tk k => ?_⟩
  refine ⟨.bl _, H, I.kept fun b o e => k b o (fun z => ?_) (Heap.get?_push_of_some _ e), ?_, q⟩
  · rw [List.mem_singleton.mp z] at e
    exact Nat.lt_irrefl _ (Heap.lt_size e)
  · show Value.bool _ = Value.bool _
    rw [← L2.all_range, eb, List.size_toArray, List.length_map]
/-- [e for x in a tuple], while an exception is handled -/
theorem pe_lcH {elt tg iter : Expr} {ifs : List Expr} {scope : Scope} {own : List (Str × Nat)} {pos : Pos} {tl te : TE} {g : TG} {tt : TT} (hc : HotC X) (hN : X.N.Nodup) (hi : PE X iter tl) (ok : BlkOk X.N X.env.scope scope own)
    (kg : ∀ (s : Shared) (H : Hp) (C : Addr) (cl : List (Str × Addr)) (fp : List Addr), PG (X.blk s H scope (compEnvC scope cl C X.env) fp) tg g)
    (kt : ∀ (s : Shared) (H : Hp) (C : Addr) (cl : List (Str × Addr)) (fp : List Addr), PTs (X.blk s H scope (compEnvC scope cl C X.env) fp) ifs tt)
    (ke : ∀ (s : Shared) (H : Hp) (C : Addr) (cl : List (Str × Addr)) (fp : List Addr), PE (X.blk s H scope (compEnvC scope cl C X.env) fp) elt te)
    (ks : ∀ x, foldedSetIterable iter X.env x = pure x := by intro _; rfl) : PE X (.ListComp elt [⟨tg, iter, ifs, 0⟩] scope pos) (tLc (iTup X.K tl) g tt te (own.map (·.2))) := by
  refine ⟨fun pins s σ H Q I h => ?_⟩
  rw [eval_ListComp]
  have frees : ∀ y ∈ scope.names, y.2 = .free → ∃ c, X.env.cells.lookup y.1 = some c := fun y hy e => (ok.free y hy e).elim (fun k => I.ok.has _ (.inl k)) fun k => I.ok.has _ (.inr k)
  refine wpAny_comprehension_free rfl ks (closure_ok frees) ok.kind (fun y hy e => by rw [ok.uniq y hy, e]) (thn (hi.run pins s σ H _ I h) fun xv s1 ⟨x, H1, I1, r1, q1⟩ => ?_)
  obtain ⟨a, ex, ⟨xs0, hx0⟩, q⟩ := q1
  subst ex
  cases r1
  obtain ⟨its, rv, p0, hz⟩ := I1.tuple hx0
  refine wpAny_pyIter_tuple (show s1.heap.IsTuple a its.toArray from p0) ?_
  obtain ⟨p, hot, hp⟩ := hc
  -- the walker, the new list
  generalize eit : s1.heap.objs.size = it
  have P1 := I1.pin p (List.mem_append_left _ hp)
  have pit : p.1 ≠ it := by rw [← eit]; exact Nat.ne_of_lt (Heap.lt_size P1.1)
  have nit : H1 it = none := I1.hok.fresh (Nat.le_of_eq eit)
  have fit : FpOk X pins H1 it := by rw [← eit]; exact I1.fpOk (Nat.le_refl _) (I1.hok.fresh (Nat.le_refl _))
  generalize es2 : ({ s1 with heap := s1.heap.push { cls := .type "tuple_iterator", data := .fields #[.ref a, .int 0 0] } } : Shared) = s2
  have I2 : Inv X pins σ H1 s2 := by rw [← es2]; exact I1.kept (t' := s1.toks) fun b o e => Heap.get?_push_of_some _ e
  have st2 : s2.heap.IsTupleIter it a 0 := by rw [← es2, ← eit]; exact ⟨_, Heap.get?_push_size _ rfl, rfl, rfl⟩
  have lit : it < s2.heap.objs.size := let ⟨_, e, _⟩ := st2; Heap.lt_size e
  refine wpAny_newObj_type (newEnv_comp ?_) (by show 0 ≤ sizeLine; decide)
  generalize eD : s2.heap.objs.size = D
  have nD : H1 D = none := I2.hok.fresh (Nat.le_of_eq eD)
  have nDit : it ≠ D := by rw [← eD]; exact Nat.ne_of_lt lit
  obtain ⟨W, ⟨m0, w0⟩, turn⟩ := q D nD
  generalize es3 : ({ s2 with heap := s2.heap.push { cls := .type "list", data := .seq ([] : List Value).toArray } } : Shared) = s3
  have I3 : Inv X pins σ (upd H1 D (.lst [])) s3 := by
    rw [← es3]
    refine I2.laid (t' := s2.toks) (fun b o e => Heap.get?_push_of_some _ e) (Nat.le_of_eq eD) ⟨Nat.zero_le _, [], 0, .nil, ?_⟩
    rw [← eD]
    exact Heap.get?_push_size _ rfl
  have st3 : s3.heap.IsTupleIter it a 0 := by rw [← es3]; exact st2.at fun o e => Heap.get?_push_of_some _ e
  have lit3 : it < s3.heap.objs.size := let ⟨_, e, _⟩ := st3; Heap.lt_size e
  have f3 : FpOk X pins (upd H1 D (.lst [])) it := ⟨by rw [upd_ne nDit]; exact nit, fit.2⟩
  have P3 := I3.pin p (List.mem_append_left _ hp)
  have I4 := block_start (fp := [it]) I3 ok hN fun b hb => by rw [List.mem_singleton.mp hb]; exact ⟨f3, lit3⟩
  have pg := kg s3 (upd H1 D (.lst [])) s3.heap.objs.size (cellsFrom (s3.heap.objs.size + 1) scope.names (cloFrom X.env.cells scope.names [])) [it]
  have pt := kt s3 (upd H1 D (.lst [])) s3.heap.objs.size (cellsFrom (s3.heap.objs.size + 1) scope.names (cloFrom X.env.cells scope.names [])) [it]
  have pe := ke s3 (upd H1 D (.lst [])) s3.heap.objs.size (cellsFrom (s3.heap.objs.size + 1) scope.names (cloFrom X.env.cells scope.names [])) [it]
  show codeAny _ _ (.compStart (.ListComp elt [⟨tg, iter, ifs, 0⟩] scope pos) 0 (.ref it) (.ref D) (compEnvC scope (cellsFrom (s3.heap.objs.size + 1) scope.names (cloFrom X.env.cells scope.names [])) s3.heap.objs.size X.env)) (compPost (model X.prog X.w) X.A X.xe none _ (.ref D) s3.heap.objs.size) { s3 with heap := pushCells (s3.heap.push { cls := .type "dict", data := .dict #[] }) scope.names }
  generalize ece : compEnvC scope (cellsFrom (s3.heap.objs.size + 1) scope.names (cloFrom X.env.cells scope.names [])) s3.heap.objs.size X.env = ce at I4 pg pt pe ⊢
  have cL : ce.locals = s3.heap.objs.size := by subst ece; rfl
  generalize eH3 : upd H1 D (.lst []) = H3 at I3 I4 pg pt pe w0 f3 P3
  generalize es4 : ({ s3 with heap := pushCells (s3.heap.push { cls := .type "dict", data := .dict #[] }) scope.names } : Shared) = s4 at I4 ⊢
  have keep4 : ∀ b o, s3.heap.get? b = some o → s4.heap.get? b = some o := fun b o e => by rw [← es4]; exact pushCells_keeps _ _ _ _ (Heap.get?_push_of_some _ e)
  have st4 : s4.heap.IsTupleIter it a 0 := st3.at fun o e => keep4 _ _ e
  have I5 : Inv (X.blk s3 H3 scope ce [it]) [p] (wipe σ (own.map (·.2))) H3 s4 := I4.pins_of fun u hu => by
    rw [List.mem_singleton.mp hu]
    exact ⟨keep4 _ _ P3.1, P3.2.1, by show p.1 ≠ ce.locals; rw [cL]; exact Nat.ne_of_lt (Heap.lt_size P3.1), fun hm => (List.mem_cons.mp (I3.stkSub p.1 hm)).elim P3.2.2.1 P3.2.2.2.1, P3.2.2.2.2⟩
  have stat : ∀ {σ' : L2.St} {H' : Hp} {s' : Shared}, Inv (X.blk s3 H3 scope ce [it]) [p] σ' H' s' → H' it = none → FpOk (X.blk s3 H3 scope ce [it]) [p] H' it := fun {σ' H' s'} I' n' =>
    ⟨n', (I'.ok.exf it (by simp)).1, I'.ok.exfs it (by simp), .inl (by simp), fun x c e => (I'.ok.exf it (by simp)).2 x c e, fun u hu => by
      have eu : u = p := by simpa using (show u ∈ ([] : List (Addr × Obj)) ++ [p] from hu)
      rw [eu]
      exact pit⟩
  have loop : codeAny (model X.prog X.w) X.A (.compLoop (.ListComp elt [⟨tg, iter, ifs, 0⟩] scope pos) 0 (.ref it) (.ref D) ce) (compPost (model X.prog X.w) X.A X.xe none (fun u s' => ∃ v H', Inv X pins σ H' s' ∧ RelV v u ∧ Q v H') (.ref D) s3.heap.objs.size) s4 := by
    refine compLoop_any (fun n s' => ∃ i H', Inv (X.blk s3 H3 scope ce [it]) [p] (wipe σ (own.map (·.2))) H' s' ∧ s'.heap.IsTupleIter it a i ∧ H' it = none ∧ W i n H') ?_ m0 ⟨0, H3, I5, st4, f3.1, w0⟩
    rintro n s5 ⟨i, H5, J5, st5, n5, w5⟩
    obtain ⟨g0, g1, g2, g3, g4, g5⟩ := stat J5 n5
    rcases turn i n H5 w5 with ⟨⟨ys, hy, hlen⟩, qq⟩ | ⟨⟨ys, y, hy, hyi⟩, Nx, hNx, step⟩
    · obtain ⟨us, rv5, p5, _⟩ := J5.tuple hy
      have P5 := J5.pin p (by simp)
      obtain ⟨vs5, d5, c5⟩ := hot.2
      have lus := rv5.length
      refine tup_end_hot (A := X.A) (x1 := p.1) ⟨hot.1, p.2, vs5, P5.1, d5, c5⟩ pit st5 (show s5.heap.IsTuple a us.toArray from p5) (by simp; omega) fun h' k => ?_
      have J6 : Inv (X.blk s3 H3 scope ce [it]) [p] (wipe σ (own.map (·.2))) H5 { s5 with heap := h' } := J5.turned (t' := s5.toks) (fun b o hb e => k b o hb e) g0 g1 g3 g4 g5
      have I7 : Inv X pins σ H5 { s5 with heap := h' } := I3.call' (ch := [it]) J6.os J6.base J6.hok J6.bare fun b hb => by
        rw [List.mem_singleton.mp hb]
        exact ⟨f3.2.2.2.1, f3.2.1, f3.2.2.2.2.1, f3.2.2.2.2.2⟩
      have nC : H5 s3.heap.objs.size = none := by
        have z : H5 ce.locals = none := J6.free
        rwa [cL] at z
      obtain ⟨m, hn, _⟩ := J6.loc
      have hn : h'.Ns ce.locals m := hn
      rw [cL] at hn
      obtain ⟨e0, e1, e2, e3, e4, e5⟩ := I3.fpOk (Nat.le_refl _) nC
      exact ⟨m, hn, fun h2 sb => ⟨.ref D, H5, I7.turned (t' := s5.toks) (fun b o hb e => (sb.2 b hb).trans e) e0 e1 e3 e4 e5, rfl, qq⟩⟩
    · obtain ⟨us, rv5, p5, _⟩ := J5.tuple hy
      obtain ⟨u, hu, ru⟩ := rv5.get hyi
      refine wpAny_pyNext_tuple_item st5 (show s5.heap.IsTuple a us.toArray from p5) (x := u) (by simpa using hu) fun h' st7 sb => ?_
      have J7 : Inv (X.blk s3 H3 scope ce [it]) [p] (wipe σ (own.map (·.2))) H5 { s5 with heap := h' } := J5.turned (t' := s5.toks) (fun b o hb e => (sb.2 b hb).trans e) g0 g1 g3 g4 g5
      obtain ⟨o7, e7, c7, d7⟩ := id st7
      refine go_of (s := { s5 with heap := h' }) e7 c7 d7 (by decide) ?_
      have J8 := J7.pinned (fp := [it]) (fun b hb => by rw [List.mem_singleton.mp hb]; exact stat J7 n5) (fun b hb => by rw [List.mem_singleton.mp hb]; exact ⟨o7, e7, fun v z => by rw [d7] at z; cases z⟩)
      refine thnF (pg.run _ _ _ H5 y u _ J8 ru (step y H5 ⟨rfl, fun zs hz => by rw [J5.tuple_inj hz hy]; exact hyi⟩)) fun _ s8 ⟨σ8, H8, J9, hw8, q8⟩ => ?_
      refine thnF (pt.run _ s8 σ8 H8 _ J9 q8) fun b s9 ⟨H9, J10, q9⟩ => ?_
      have fin : ∀ {s' : Shared} {H' : Hp}, Inv (X.blk s3 H3 scope ce [it]) ([p] ++ pinsAt [it] h') σ8 H' s' → Nx H' → ∃ m, m < n ∧ ∃ i H', Inv (X.blk s3 H3 scope ce [it]) [p] (wipe σ (own.map (·.2))) H' s' ∧ s'.heap.IsTupleIter it a i ∧ H' it = none ∧ W i m H' := fun {s' H'} J' nx => by
        obtain ⟨m', hm, w'⟩ := hNx H' nx
        have pin' := J'.pin (it, o7) (List.mem_append_right _ (List.mem_append_right _ (mem_pinsAt (by simp) e7)))
        have hl : (wipe σ (own.map (·.2))).length = σ8.length := by rw [← hw8, wipe_length]
        refine ⟨m', hm, i + 1, H', J'.unpinned.weak hl (fun j v e => ?_), ⟨o7, pin'.1, c7, d7⟩, pin'.2.1, w'⟩
        rw [← hw8] at e
        exact (wipe_some e).1
      cases b with
      | false =>
        simp only [Bool.false_eq_true, if_false] at q9 ⊢
        exact fin J10 q9
      | true =>
        simp only [if_true] at q9 ⊢
        refine thnF (pe.run _ s9 σ8 H9 _ J10 q9) fun z s10 ⟨yv, H10, J11, r10, acc, gD, zD, nx⟩ => ?_
        exact app_ok (X := X.blk s3 H3 scope ce [it]) J11 gD zD r10 fun s11 J12 => fin J12 nx
  exact codeAny_compStart_list loop (wpAny_pyIter_tupleiter st4 loop)
end
/-! exceptions whose context is told (what is raised where nothing is handled) -/
section
variable {P : Program} {w : World} {K : PySem.W.Frag} {mg : Str → Option Value} {base : Heap}
theorem okXN {x qual : Str} {st : Stmt} {f : Addr} {fd : FuncData} {N ps : List Str} {k : Nat} {sp : Sp} (F : Fun K x qual st f fd) (S : FnScope N ps (defScope st)) (ln : ∀ vs H Q E, sp vs H Q E → vs.length = ps.length)
    (body : ∀ (cdv : Value) (A : Around) (outer : List Env) (s : Shared) (H : Hp) (vs : List V) (Q : VK) (E : XK), Room k (A.deeper (envOfC qual (defScope st) s.heap.objs.size f cdv)) → sp vs H Q E →
      ∃ t, PSs (cxOf (L2N.CX P w) P w K mg base N qual (defScope st) f cdv A outer s H E) (defBody st) t ∧ t { nx := fun _ H' => Q .non H', rt := Q } (L2.start N vs) H) : FnOk P w K mg base (L2N.CX P w) (k + 1) f fd ps sp := by
  obtain ⟨_, _, _, _, _, _, cv, _, _, rfl, lk, hcd⟩ := F.ex
  exact fn_of lk hcd S ln fun A outer s H vs Q E hr hsp => body cv A outer s H vs Q E hr hsp
/-- the same of a def that is called while an exception is handled -/
theorem okH {CX : CXT} {x qual : Str} {st : Stmt} {f : Addr} {fd : FuncData} {N ps : List Str} {k : Nat} {sp : Sp} (F : Fun K x qual st f fd) (S : FnScope N ps (defScope st)) (ln : ∀ vs H Q E, sp vs H Q E → vs.length = ps.length)
    (body : ∀ (cdv : Value) (A : Around) (outer : List Env) (s : Shared) (H : Hp) (vs : List V) (Q : VK) (E : XK) (p : Addr × Obj), HotC (cxH CX P w K mg base N qual (defScope st) f cdv A outer s H E p) → RoomH k (A.deeper (envOfC qual (defScope st) s.heap.objs.size f cdv)) → sp vs H Q E →
      ∃ t, PSs (cxH CX P w K mg base N qual (defScope st) f cdv A outer s H E p) (defBody st) t ∧ t { nx := fun _ H' => Q .non H', rt := Q } (L2.start N vs) H) : FnH P w K mg base CX (k + 1) f fd ps sp := by
  obtain ⟨_, _, _, _, _, _, cv, _, _, rfl, lk, hcd⟩ := F.ex
  exact fn_ofH lk hcd S ln fun A outer s H vs Q E p hot hr hsp => body cv A outer s H vs Q E p ⟨p, hot, List.mem_singleton.mpr rfl⟩ hr hsp
def DefH (P : Program) (w : World) (K : PySem.W.Frag) (mg : Str → Option Value) (base : Heap) (CX : CXT) (k : Nat) (x : Str) (ps : List Str) (sp : Sp) : Prop :=
  ∃ f fd, mg x = some (.ref f) ∧ PySem.W.keepIn K (.ref f) = true ∧ Binds K fd ps [] ∧ FnH P w K mg base CX k f fd ps sp
theorem DefH.of {CX : CXT} {k : Nat} {x : Str} {ps : List Str} {sp : Sp} {f : Addr} {fd : FuncData} (g : mg x = some (.ref f)) (kp : PySem.W.keepIn K (.ref f) = true) (b : Binds K fd ps []) (G : FnH P w K mg base CX k f fd ps sp) : DefH P w K mg base CX k x ps sp := ⟨f, fd, g, kp, b, G⟩
end
section
variable {X : Cx}
/-- X(e) -/
theorem pmk_own1N {C : Addr} {bs : List Value} {B newId initId : String} {x : Str} {e : Expr} {ta : TE} {p pos : Pos} (F : ExcBaseFacts B newId initId bs) (xi : PySem.W.excIn X.K C bs newId = true) (gC : X.mg x = some (.ref C)) (kC : PySem.W.keepIn X.K (.ref C) = true) (r : Raises X (.ref C)) (hg : Gl X x)
    (he : PE X e ta) (hs : starEach [e] X.env = (false, eval e X.env) :: starEach [] X.env := by rfl) (hdb : (x == ("__debug__" : Str)) = false := by decide) :
    L2N.PMk X (.Call (.Name x p) [e] [] pos) (fun σ H Q => ta σ H fun _ H1 => Q (.ref C) none H1) := by
  intro pins s σ H Q I h
  refine wpAny_Call_Name_kw (ld_glob I hg gC (PySem.W.callWith_K (h₀ := X.base) I.ok.mod.kin kC ?_ hs (by rfl)) hdb)
  rw [hs]
  show wpAny _ _ (spliced ((false, eval e X.env) :: backTo pos (starEach [] X.env))) _ _ s
  refine Calls.spliced_cons (thn (he.run pins s σ H _ I h) fun u s1 ⟨v, H1, J, r1, q1⟩ => Calls.spliced_nil ⟨J.kIn, ?_⟩)
  show wpAny _ _ (call (.ref C) [u]) _ _ _
  obtain ⟨_, _, _, _, _, _, _, _, _, _, _, _, _, _, _, _, _, hC, hN, hni, T⟩ := exc_obj J.kIn xi
  exact wpAny_call_exc_subT F T hC hN hni (fun h' e hm => L2N.mk_of J hm r q1 (J.hok.gone hm.new)) (by show 1 ≤ sizeLine; rw [sizeLine_eq]; omega)
end
theorem roomMark {k : Nat} {A : Around} {v : Option Value} (r : Room k A) : RoomH k (A.mark v) := ⟨r.dp, r.un⟩
theorem pass0H {X : Cx} (σ : L2.St) : PassesAt CX0 X σ E0 := fun _ _ _ _ _ _ h => h.elim
end Ly
set_option Elab.async false
set_option linter.all false
set_option maxRecDepth 100000
set_option maxHeartbeats 2000000
/-! a list extended by a tuple -/
namespace Ly
open PySem PySem.Spec PyProof.Rows L2 Evl
theorem ext_tup (l : Addr) (its : Array Value) (n : Nat) (b : Addr) (more : Array Value) (m : Nat) (dd : Option Addr) (sl : Array (Option Value)) (ok : ¬(!its.isEmpty && Builtin.List.listTooLong (its.size + more.size)) = true) (z1 : its.size ≤ sizeLine) (z2 : its.size + more.size ≤ sizeLine + 1) :
    Meets (Builtin.«list.extend» ⟨[.ref l, .ref b], []⟩) (fun _ R s => s.heap.get? l = some { cls := .type "list", dict := none, data := .seq its n, slots := #[] } ∧ s.heap.get? b = some ⟨.type "tuple", dd, .seq more m, sl⟩ ∧
      R (.ok (.ret Value.none)) { s with heap := s.heap.update l (Obj.mapSeq fun x => x ++ more), toks := s.toks }) :=
  .of_wp fun prog w A R s h => by
    obtain ⟨hp, g, d, tk, os⟩ := s
    obtain ⟨hl, hb, h⟩ := h
    (have f1 := AutoSeq1.idx_int; have f2 := AutoSeq1.sub_tuple_tuple; have f3 := AutoSeq1.sub_list_list; have f4 := AutoSeq1.sub_tuple_list; have f5 := AutoSeq1.sub_list_tuple)
    have zz : (its ++ more).size ≤ sizeLine + 1 := by rw [Array.size_append]; exact z2
    wp_walk using (wpAny_updateSeq hl rfl (hz := z1) (_hz' := zz)), AutoSeq1.wpAny_loadPart' hl, AutoSeq1.wpAny_loadPart' hb
    exact ⟨_, rfl, h⟩
section
variable {X : Cx}
def rExtT (K : PySem.W.Frag) : V → List V → Hp → VK → Prop := fun x vs H Q => ∃ l b xs zs, x = .ref l ∧ vs = [.ref b] ∧ H l = some (.lst xs) ∧ SqT K H b zs ∧ xs.length + zs.length ≤ sizeLine ∧ Q .non (upd H l (.lst (xs ++ zs)))
theorem mt_extT : MtM X "list.extend" (rExtT X.K) := by
  intro pins s σ H x vs v us Q I rx rv h
  obtain ⟨l, b, xs, zs, rfl, rfl, hH, hB, hz, q⟩ := h
  cases rx
  obtain ⟨u, rfl, ru⟩ := rv.one
  cases ru
  obtain ⟨z, its, n, r, hl, e⟩ := I.lstM hH
  obtain ⟨its2, r2, ⟨⟨cls, dd, data, sl⟩, ho, hc, m, hd⟩, hl2⟩ := I.tuple hB
  simp only at hc hd
  subst hc hd
  have l2 := r2.length
  have sz : its.toArray.size + its2.toArray.size ≤ sizeLine := by rw [List.size_toArray, List.size_toArray]; omega
  have ok : ¬ (!its.toArray.isEmpty && Builtin.List.listTooLong (its.toArray.size + its2.toArray.size)) = true := by
    rw [notLongL sz, Bool.and_false]
    exact Bool.false_ne_true
  refine call_meets F.slot_list_extend ⟨_, e, rfl⟩ F.entry_list_extend (F.args_list_extend_2 _ _) (ext_tup l its.toArray n b its2.toArray m dd sl ok (by rw [List.size_toArray]; omega) (by omega)) ⟨e, ho, ?_⟩
  refine ⟨.non, _, I.lset (its' := its ++ its2) hH e (by simp) (r.append r2) (by rw [List.length_append]; omega), rfl, q⟩
end
theorem w_extT {K : PySem.W.Frag} {H : Hp} {Q : VK} {l b : Addr} {xs zs : List V} (h : H l = some (.lst xs)) (h2 : SqT K H b zs) (z : xs.length + zs.length ≤ sizeLine) (q : Q .non (upd H l (.lst (xs ++ zs)))) : rExtT K (.ref l) [.ref b] H Q := ⟨l, b, xs, zs, rfl, rfl, h, h2, z, q⟩
end Ly
set_option Elab.async false
set_option linter.all false
set_option maxRecDepth 100000
set_option maxHeartbeats 2000000
/-! Ly: own classes made by their __init__; enumerate; lists of ranges -/
namespace Ly
open PySem PySem.Spec PyProof.Rows L2 Evl
/-- a class that is made by calling it -/
def DefC (P : Program) (w : World) (K : PySem.W.Frag) (mg : Str → Option Value) (base : Heap) (CX : CXT) (k : Nat) (C : Addr) (ps : List Str) (sp : Sp) : Prop :=
  ∃ (f : Addr) (fd : FuncData), Mk K C f ∧ Binds K fd ps [] ∧ FnOk P w K mg base CX k f fd ps sp
theorem DefC.of {P : Program} {w : World} {K : PySem.W.Frag} {mg : Str → Option Value} {base : Heap} {CX : CXT} {k : Nat} {C : Addr} {ps : List Str} {sp : Sp} {f : Addr} {fd : FuncData} (M : Mk K C f) (b : Binds K fd ps []) (G : FnOk P w K mg base CX k f fd ps sp) : DefC P w K mg base CX k C ps sp := ⟨f, fd, M, b, G⟩
section
variable {K : PySem.W.Frag} {σ : L2.St} {H : Hp} {Q : VK} {D : Ends} {ta tb : TE} {tA : TA} {g : TG} {s1 : TS} {R : It → Hp → Prop}
theorem w_iE (h : tA σ H fun vs H1 => ∃ a xs, vs = [.ref a] ∧ SqL K H1 a xs ∧ R (Ite K a) H1) : iEnum K tA σ H R := h
theorem w_iE1 {a : Addr} {xs : List V} {B : Addr → Prop} (h : SqL K H a xs) (q : B a) : ∃ b ys, [V.ref a] = [V.ref b] ∧ SqL K H b ys ∧ B b := ⟨a, xs, rfl, h, q⟩
theorem for_enum {a : Addr} {xs : List V} (Pv : Nat → L2.St → Hp → Prop) (h0 : Pv 0 σ H) (hl : ∀ i σ H, Pv i σ H → SqL K H a xs)
    (hs : ∀ i x T σ H, xs[i]? = some x → H T = none → Pv i σ H → g (.ref T) σ (upd H T (.tup [.int (i : Nat), x])) fun σ2 H2 => s1 { D with nx := Pv (i + 1), ct := Pv (i + 1), bk := D.nx } σ2 H2) (hd : ∀ σ H, Pv xs.length σ H → D.nx σ H) : ForB (Ite K a) g s1 D σ H := by
  refine ⟨fun i m σ H => m = xs.length - i ∧ i ≤ xs.length ∧ Pv i σ H, ⟨_, rfl, Nat.zero_le _, h0⟩, ?_⟩
  rintro i m σ H ⟨rfl, hi, p⟩
  have sq := hl i σ H p
  by_cases hlt : i < xs.length
  · refine .inr ⟨⟨xs, xs[i], sq, List.getElem?_eq_getElem hlt⟩, Pv (i + 1), fun σ' H' p' => ⟨xs.length - (i + 1), by omega, rfl, hlt, p'⟩, fun x H' y => ?_⟩
    obtain ⟨T, z, rfl, hT, rfl, hz⟩ := y
    exact hs i z T σ H (hz xs sq) hT p
  · have e : i = xs.length := by omega
    subst e
    exact .inl ⟨⟨xs, sq, Nat.le_refl _⟩, hd σ H p⟩
theorem lc_enum {a : Addr} {xs : List V} {tt : TT} {te : TE} {vs : List Nat} {H1 : Hp} {Dl : Addr} (Pv : Nat → Hp → Prop) (h0 : Pv 0 (upd H1 Dl (.lst []))) (hl : ∀ i H, Pv i H → SqL K H a xs)
    (hs : ∀ i x T H, xs[i]? = some x → H T = none → Pv i H → g (.ref T) (wipe σ vs) (upd H T (.tup [.int (i : Nat), x])) fun σ2 H2 => wipe σ2 vs = wipe σ vs ∧ tt σ2 H2 fun b H3 =>
      if b = true then te σ2 H3 fun y H4 => ∃ acc, H4 Dl = some (.lst acc) ∧ acc.length < sizeLine ∧ Pv (i + 1) (upd H4 Dl (.lst (acc ++ [y]))) else Pv (i + 1) H3) (hd : ∀ H, Pv xs.length H → Q (.ref Dl) H) : LcB (Ite K a) g tt te vs Q σ H1 Dl := by
  refine ⟨fun i m H => m = xs.length - i ∧ i ≤ xs.length ∧ Pv i H, ⟨_, rfl, Nat.zero_le _, h0⟩, ?_⟩
  rintro i m H ⟨rfl, hi, p⟩
  have sq := hl i H p
  by_cases hlt : i < xs.length
  · refine .inr ⟨⟨xs, xs[i], sq, List.getElem?_eq_getElem hlt⟩, Pv (i + 1), fun H' p' => ⟨xs.length - (i + 1), by omega, rfl, hlt, p'⟩, fun x H' y => ?_⟩
    obtain ⟨T, z, rfl, hT, rfl, hz⟩ := y
    exact hs i z T H (hz xs sq) hT p
  · have e : i = xs.length := by omega
    subst e
    exact .inl ⟨⟨xs, sq, Nat.le_refl _⟩, hd H p⟩
theorem rgV_nat (a b : Nat) : rgV (a : Int) (b : Int) = nums (List.range' a (b - a)) := by
  unfold rgV
  apply List.ext_getElem
  · simp
  · intro i h1 h2
    simp
theorem w_lstRg {te : L2.St → Hp → (Int → Int → Hp → Prop) → Prop} (h : te σ H fun a b H1 => RgOk a b ∧ ∀ q, H1 q = none → Q (.ref q) (upd H1 q (.lst (rgV a b)))) : tLstRg te σ H Q := h
theorem w_rg1 {R : Int → Int → Hp → Prop} (h : ta σ H fun x H1 => ∃ n, x = .int n ∧ R 0 n H1) : tRg1 ta σ H R := h
theorem w_rg2 {R : Int → Int → Hp → Prop} (h : ta σ H fun x H1 => tb σ H1 fun y H2 => ∃ i j, x = .int i ∧ y = .int j ∧ R i j H2) : tRg2 ta tb σ H R := h
theorem w_rg1a {i : Int} {B : Int → Prop} (q : B i) : ∃ n, V.int i = .int n ∧ B n := ⟨i, rfl, q⟩
theorem w_rg2a {i j : Int} {B : Int → Int → Prop} (q : B i j) : ∃ a b, V.int i = .int a ∧ V.int j = .int b ∧ B a b := ⟨i, j, rfl, rfl, q⟩
theorem pg_tupK {X : Cx} {es : List Expr} {k : Nat} {pos : Pos} {t : TGs} {n : Nat} (e : X.K = K) (hc : X.calm = true) (h : PGs X es t) (hn : (assignEach es X.env).length = n := by rfl) (hst : (assignEach es X.env).findIdx? (·.1) = none := by rfl) : PG X (.Tuple es k pos) (gTup K n t) := by
  subst e
  exact pg_tup hc h hn hst
theorem w_sfld {f : Str} {to tv : TE} (h : tv σ H fun y H1 => to σ H1 fun x H2 => ∃ a C dx fs, x = .ref a ∧ H2 a = some (.ins C dx fs) ∧ Cls K C ∧ NoAttr K C f ∧ fs.length < 1000 ∧ D.nx σ (upd H2 a (.ins C dx (putF f y fs)))) : sFld K to tv f D σ H := h
theorem w_tfld {f : Str} (h : ta σ H fun x H1 => ∃ a C dx fs v, x = .ref a ∧ H1 a = some (.ins C dx fs) ∧ Cls K C ∧ NoAttr K C f ∧ fs.lookup f = some v ∧ Q v H1) : tFld K ta f σ H Q := h
theorem w_make {C : Addr} {sp : Sp} {dvs : List V} {E : XK} (h : tA σ H fun vs H1 => ∀ x dx, H1 x = none → H1 dx = none → dx ≠ x → sp (.ref x :: (vs ++ dvs)) (upd (upd H1 dx (.own x)) x (.ins C dx [])) (fun v H2 => v = .non ∧ Q (.ref x) H2) E) : tMake C sp dvs E tA σ H Q := h
/-- a field read -/
theorem w_fld {f : Str} {a C dx : Addr} {fs : List (Str × V)} {v : V} (h : H a = some (.ins C dx fs)) (c : Cls K C) (n : NoAttr K C f) (l : fs.lookup f = some v) (q : Q v H) : ∃ a' C' dx' fs' v', V.ref a = .ref a' ∧ H a' = some (.ins C' dx' fs') ∧ Cls K C' ∧ NoAttr K C' f ∧ fs'.lookup f = some v' ∧ Q v' H := ⟨a, C, dx, fs, v, rfl, h, c, n, l, q⟩
end
end Ly
set_option Elab.async false
set_option linter.all false
set_option maxRecDepth 100000
/-! Ly: combinations -/
namespace Ly
open PySem PySem.Spec PyProof.Rows L2 Evl
inductive Cb where
  | S
  | K
  | I
  | var (n : Nat)
  | app (f a : Cb)
def Cb.enc : Cb → List V
  | .S => [.str "S"]
  | .K => [.str "K"]
  | .I => [.str "I"]
  | .var n => [.int n]
  | .app f a => .str "app" :: (f.enc ++ a.enc)
/-- its variables are below w -/
def Cb.lt (w : Nat) : Cb → Prop
  | .var n => n < w
  | .app f a => f.lt w ∧ a.lt w
  | _ => True
def cencs (ts : List Cb) : List V := (ts.map Cb.enc).flatten
theorem cencs_cons (t : Cb) (ts : List Cb) : cencs (t :: ts) = t.enc ++ cencs ts := by simp [cencs]
/-- whatever combinations stand for what is missing, the whole is one -/
def CComp (w : Nat) (nodes : List V) (m : Nat) : Prop := ∀ ts : List Cb, ts.length = m → (∀ t ∈ ts, t.lt w) → ∃ t : Cb, t.lt w ∧ t.enc = nodes ++ cencs ts
theorem CComp.start (w : Nat) : CComp w [] 1 := fun ts hl hw => by
  match ts, hl with
  | [t], _ => exact ⟨t, hw t (by simp), by simp [cencs]⟩
theorem CComp.done {w : Nat} {nodes : List V} (h : CComp w nodes 0) : ∃ t : Cb, t.lt w ∧ t.enc = nodes := by
  obtain ⟨t, h1, h2⟩ := h [] rfl (by simp)
  exact ⟨t, h1, by rw [h2]; simp [cencs]⟩
theorem CComp.leaf {w m : Nat} {nodes : List V} (h : CComp w nodes (m + 1)) (c : Cb) (hc : c.lt w) : CComp w (nodes ++ c.enc) m := fun ts hl hw => by
  obtain ⟨t, h1, h2⟩ := h (c :: ts) (by simp [hl]) (fun p hp => by
    rcases List.mem_cons.mp hp with e | e
    · rw [e]
      exact hc
    · exact hw p e)
  exact ⟨t, h1, by rw [h2, cencs_cons, List.append_assoc]⟩
theorem CComp.app {w m : Nat} {nodes : List V} (h : CComp w nodes (m + 1)) : CComp w (nodes ++ [.str "app"]) (m + 2) := fun ts hl hw => by
  match ts, hl with
  | f :: a :: r, hl =>
    obtain ⟨t, h1, h2⟩ := h (.app f a :: r) (by simpa using hl) (fun p hp => by
      rcases List.mem_cons.mp hp with e | e
      · rw [e]
        exact ⟨hw f (by simp), hw a (by simp)⟩
      · exact hw p (List.mem_cons_of_mem _ (List.mem_cons_of_mem _ e)))
    exact ⟨t, h1, by rw [h2, cencs_cons, cencs_cons, cencs_cons]; simp [Cb.enc]⟩
/-- the nodes of combinations -/
def NodeC (v : V) : Prop := (∃ n : Nat, v = .int n) ∨ v = .str "S" ∨ v = .str "K" ∨ v = .str "I" ∨ v = .str "app"
theorem Cb.nodes : ∀ (t : Cb), ∀ v ∈ t.enc, NodeC v
  | .S, v, h => .inr (.inl (List.mem_singleton.mp h))
  | .K, v, h => .inr (.inr (.inl (List.mem_singleton.mp h)))
  | .I, v, h => .inr (.inr (.inr (.inl (List.mem_singleton.mp h))))
  | .var n, v, h => .inl ⟨n, List.mem_singleton.mp h⟩
  | .app f a, v, h => by
    rcases List.mem_cons.mp h with e | e
    · exact .inr (.inr (.inr (.inr e)))
    · rcases List.mem_append.mp e with e | e
      · exact f.nodes v e
      · exact a.nodes v e
theorem NodeC.flat1 {v : V} (h : NodeC v) : (∃ i, v = .int i) ∨ ∃ s, v = .str s := by
  rcases h with ⟨n, rfl⟩ | rfl | rfl | rfl | rfl
  · exact .inl ⟨_, rfl⟩
  all_goals exact .inr ⟨_, rfl⟩
theorem Cb.flat (t : Cb) : Flat t.enc := fun v h => (t.nodes v h).flat1
theorem Cb.pos : ∀ t : Cb, 0 < t.enc.length
  | .S => by simp [Cb.enc]
  | .K => by simp [Cb.enc]
  | .I => by simp [Cb.enc]
  | .var _ => by simp [Cb.enc]
  | .app _ _ => by simp [Cb.enc]
theorem ixN_last {n : Nat} (h : 0 < n) : ixN n (-1) = some (n - 1) := by
  unfold ixN
  rw [if_neg (by omega), if_pos (by omega)]
  congr 1
  omega
theorem set_last (xs : List V) (y z : V) : (xs ++ [y]).set ((xs ++ [y]).length - 1) z = xs ++ [z] := by
  simp
theorem getS_hit {k : Str} {v : V} {r : List (Str × V)} : getS ((k, v) :: r) (.str k) = some v := by simp [getS]
theorem getS_miss {k z : Str} {v : V} {r : List (Str × V)} (h : decide (k = z) = false) : getS ((k, v) :: r) (.str z) = getS r (.str z) := by
  simp only [getS, List.find?_cons, h]
theorem getS_nil {v : V} : getS [] v = none := by cases v <;> rfl
theorem getS_int {r : List (Str × V)} {i : Int} : getS r (.int i) = none := rfl
theorem NodeC.key {v : V} (h : NodeC v) : ∃ k, v = kV k := by
  rcases h with ⟨n, rfl⟩ | rfl | rfl | rfl | rfl
  · exact kV_int _
  all_goals exact kV_str _
/-! nodes of any words, compared -/
def NdS (xs : List V) : Prop := ∀ x ∈ xs, (∃ i, x = .int i) ∨ ∃ s : Str, x = .str s ∧ PyData.strOk s = true
theorem NdS.flat {xs : List V} (h : NdS xs) : Flat xs := fun x hx => by
  rcases h x hx with e | ⟨s, e, _⟩
  · exact .inl e
  · exact .inr ⟨s, e⟩
theorem NdS.tail {x : V} {xs : List V} (h : NdS (x :: xs)) : NdS xs := fun y hy => h y (List.mem_cons_of_mem _ hy)
theorem NdS.app {xs ys : List V} (h : NdS xs) (k : NdS ys) : NdS (xs ++ ys) := fun x hx => by
  rcases List.mem_append.mp hx with e | e
  · exact h x e
  · exact k x e
theorem eqvS : ∀ {xs ys : List V}, NdS xs → NdS ys → PyData.eqvAll (xs.map dv) (ys.map dv) = decide (xs = ys)
  | [], [], _, _ => by simp [PyData.eqvAll]
  | [], _ :: _, _, _ => by simp [PyData.eqvAll]
  | _ :: _, [], _, _ => by simp [PyData.eqvAll]
  | x :: xs, y :: ys, h, k => by
    have ih := eqvS h.tail k.tail
    have hxy : PyData.eqv (dv x) (dv y) = decide (x = y) := by
      rcases h x List.mem_cons_self with ⟨i, rfl⟩ | ⟨s, rfl, _⟩ <;> rcases k y List.mem_cons_self with ⟨j, rfl⟩ | ⟨z, rfl, _⟩ <;> simp [dv, PyData.eqv] <;> (rw [Bool.eq_iff_iff]; simp)
    rw [List.map_cons, List.map_cons, PyData.eqvAll, ih, hxy]
    simp
theorem layS : ∀ {xs : List V}, NdS xs → PyData.canLayAll0 (xs.map dv) = true
  | [], _ => rfl
  | x :: xs, h => by
    have ih := layS h.tail
    have hx : (dv x).canLay0 = true := by
      rcases h x List.mem_cons_self with ⟨i, rfl⟩ | ⟨s, rfl, hs⟩
      · rfl
      · exact hs
    rw [List.map_cons, PyData.canLayAll0, hx, ih]
    rfl
theorem dpS {K : PySem.W.Frag} {H : Hp} : ∀ {xs : List V}, NdS xs → DpAll K H xs (xs.map dv)
  | [], _ => .nil
  | x :: xs, h => by
    refine .cons ?_ (dpS h.tail)
    rcases h x List.mem_cons_self with ⟨i, rfl⟩ | ⟨s, rfl, _⟩
    · exact .int i
    · exact .str _
theorem shapedS {xs : List V} (h : NdS xs) : SeqAt.shaped (.tuple (xs.map dv)) = true := by
  have h1 : (PyData.tuple (xs.map dv)).canLay0 = true := layS h
  have h2 := depth_nodes (xs := xs)
  unfold SeqAt.shaped
  rw [h1, Bool.true_and]
  exact decide_eq_true (by omega)
section
variable {K : PySem.W.Frag} {H : Hp} {Q : VK} {a b : Addr} {xs ys : List V}
theorem w_eqNS (h : SqT K H a xs) (k : SqT K H b ys) (n : NdS xs) (m : NdS ys) (q : Q (.bl (decide (xs = ys))) H) : rEqD K (.ref a) (.ref b) H Q :=
  ⟨_, _, .tup h (dpS n), .tup k (dpS m), shapedS n, shapedS m, by rw [PyData.eqv, eqvS n m]; exact q⟩
theorem w_neNS (h : SqT K H a xs) (k : SqT K H b ys) (n : NdS xs) (m : NdS ys) (q : Q (.bl (!decide (xs = ys))) H) : rNeD K (.ref a) (.ref b) H Q :=
  ⟨_, _, .tup h (dpS n), .tup k (dpS m), shapedS n, shapedS m, by rw [PyData.eqv, eqvS n m]; exact q⟩
theorem w_neTN (h : SqT K H a xs) (n : NdS xs) (q : Q (.bl true) H) : rNeD K (.ref a) .non H Q :=
  ⟨_, _, .tup h (dpS n), .non, shapedS n, by decide, q⟩
theorem w_neNN (q : Q (.bl false) H) : rNeD K .non .non H Q := ⟨_, _, .non, .non, by decide, by decide, q⟩
end
theorem NodeC.nds1 {v : V} (h : NodeC v) : (∃ i, v = .int i) ∨ ∃ s : Str, v = .str s ∧ PyData.strOk s = true := by
  rcases h with ⟨n, rfl⟩ | rfl | rfl | rfl | rfl
  · exact .inl ⟨_, rfl⟩
  all_goals exact .inr ⟨_, rfl, by decide +kernel⟩
theorem NdS.of {xs : List V} (h : ∀ x ∈ xs, NodeC x) : NdS xs := fun x hx => (h x hx).nds1
/-! the nodes of a combination's term; of one with a value put in -/
def tmN : V → List V
  | .str x => if x = "S" then [.str "lam", .str "lam", .str "lam", .str "app", .str "app", .int 2, .int 0, .str "app", .int 1, .int 0]
    else if x = "K" then [.str "lam", .str "lam", .int 1] else if x = "I" then [.str "lam", .int 0] else [.str x]
  | v => [v]
def vpN (ys : List V) : V → List V
  | .int i => if i = 0 then ys else [.int (i - 1)]
  | v => [v]
def dcN : V → V
  | .int i => .int (i - 1)
  | v => v
theorem vpN_z {ys : List V} {i : Int} (h : i = 0) : vpN ys (.int i) = ys := if_pos h
theorem vpN_p {ys : List V} {i : Int} (h : i ≠ 0) : vpN ys (.int i) = [.int (i - 1)] := if_neg h
theorem tmN_int (i : Int) : tmN (.int i) = [.int i] := rfl
theorem tmN_S : tmN (.str "S") = [.str "lam", .str "lam", .str "lam", .str "app", .str "app", .int 2, .int 0, .str "app", .int 1, .int 0] := by decide +kernel
theorem tmN_K : tmN (.str "K") = [.str "lam", .str "lam", .int 1] := by decide +kernel
theorem tmN_I : tmN (.str "I") = [.str "lam", .int 0] := by decide +kernel
theorem tmN_A : tmN (.str "app") = [.str "app"] := by decide +kernel
theorem fm_take {f : V → List V} {xs : List V} {i : Nat} {x : V} (h : xs[i]? = some x) : ((xs.take (i + 1)).map f).flatten = ((xs.take i).map f).flatten ++ f x := by
  rw [List.take_add_one, h]
  simp
theorem fm_len {f : V → List V} {n : Nat} : ∀ {xs : List V}, (∀ x ∈ xs, (f x).length ≤ n) → ((xs.map f).flatten).length ≤ n * xs.length
  | [], _ => by simp
  | x :: xs, h => by
    have ih := fm_len (f := f) (n := n) (xs := xs) fun y hy => h y (List.mem_cons_of_mem _ hy)
    have h1 := h x List.mem_cons_self
    rw [List.map_cons, List.flatten_cons, List.length_append, List.length_cons, Nat.mul_succ]
    omega
theorem Cb.small {w : Nat} : ∀ {t : Cb}, t.lt w → ∀ (i : Int), V.int i ∈ t.enc → i < w
  | .S, _, i, h => by cases List.mem_singleton.mp h
  | .K, _, i, h => by cases List.mem_singleton.mp h
  | .I, _, i, h => by cases List.mem_singleton.mp h
  | .var n, hl, i, h => by
    cases List.mem_singleton.mp h
    have : n < w := hl
    omega
  | .app f a, hl, i, h => by
    rcases List.mem_cons.mp h with e | e
    · cases e
    · rcases List.mem_append.mp e with e | e
      · exact Cb.small hl.1 i e
      · exact Cb.small hl.2 i e
theorem NodeC.ok {v : V} {w : Nat} (h : NodeC v) (hw : w ≤ 1000000) (hs : ∀ i, v = .int i → i < w) : okV v = true := by
  rcases h with ⟨n, rfl⟩ | rfl | rfl | rfl | rfl
  · have := hs _ rfl
    show decide _ = true
    exact decide_eq_true (by omega)
  all_goals rfl
theorem tmN_ok {t : Cb} {w : Nat} (h : t.lt w) (hw : w ≤ 1000000) : ((t.enc.map tmN).flatten).all okV = true := by
  refine List.all_eq_true.mpr fun y hy => ?_
  obtain ⟨l, h1, h2⟩ := List.mem_flatten.mp hy
  obtain ⟨x, hx, rfl⟩ := List.mem_map.mp h1
  rcases t.nodes x hx with ⟨n, rfl⟩ | rfl | rfl | rfl | rfl
  · rw [tmN_int] at h2
    rw [List.mem_singleton.mp h2]
    exact (t.nodes _ hx).ok hw fun i e => by cases e; exact Cb.small h _ hx
  · rw [tmN_S] at h2
    have : ∀ z ∈ ([V.str "lam", V.str "lam", V.str "lam", V.str "app", V.str "app", V.int 2, V.int 0, V.str "app", V.int 1, V.int 0] : List V), okV z = true := by decide +kernel
    exact this y h2
  · rw [tmN_K] at h2
    have : ∀ z ∈ ([V.str "lam", V.str "lam", V.int 1] : List V), okV z = true := by decide +kernel
    exact this y h2
  · rw [tmN_I] at h2
    have : ∀ z ∈ ([V.str "lam", V.int 0] : List V), okV z = true := by decide +kernel
    exact this y h2
  · rw [tmN_A] at h2
    rw [List.mem_singleton.mp h2]
    rfl
theorem vpN_ok {t u : Cb} {w z : Nat} (h : t.lt w) (hw : w ≤ 1000000) (k : u.lt z) (kz : z ≤ 1000000) : ((t.enc.map (vpN u.enc)).flatten).all okV = true := by
  refine List.all_eq_true.mpr fun y hy => ?_
  obtain ⟨l, h1, h2⟩ := List.mem_flatten.mp hy
  obtain ⟨x, hx, rfl⟩ := List.mem_map.mp h1
  rcases t.nodes x hx with ⟨n, rfl⟩ | rfl | rfl | rfl | rfl
  · by_cases c : (n : Int) = 0
    · rw [vpN_z c] at h2
      exact (u.nodes _ h2).ok kz fun i e => by subst e; exact Cb.small k _ h2
    · rw [vpN_p c] at h2
      rw [List.mem_singleton.mp h2]
      have := Cb.small h _ hx
      exact decide_eq_true (by omega)
  all_goals
    rw [List.mem_singleton.mp h2]
    rfl
theorem tmN_nds {xs : List V} (h : ∀ x ∈ xs, NodeC x) : NdS ((xs.map tmN).flatten) := fun y hy => by
  obtain ⟨l, h1, h2⟩ := List.mem_flatten.mp hy
  obtain ⟨x, hx, rfl⟩ := List.mem_map.mp h1
  rcases h x hx with ⟨n, rfl⟩ | rfl | rfl | rfl | rfl
  · rw [tmN_int] at h2
    exact .inl ⟨n, List.mem_singleton.mp h2⟩
  · rw [tmN_S] at h2
    simp only [List.mem_cons, List.not_mem_nil, or_false] at h2
    rcases h2 with rfl | rfl | rfl | rfl | rfl | rfl | rfl | rfl | rfl | rfl <;> first | exact .inl ⟨_, rfl⟩ | exact .inr ⟨_, rfl, by decide +kernel⟩
  · rw [tmN_K] at h2
    simp only [List.mem_cons, List.not_mem_nil, or_false] at h2
    rcases h2 with rfl | rfl | rfl <;> first | exact .inl ⟨_, rfl⟩ | exact .inr ⟨_, rfl, by decide +kernel⟩
  · rw [tmN_I] at h2
    simp only [List.mem_cons, List.not_mem_nil, or_false] at h2
    rcases h2 with rfl | rfl <;> first | exact .inl ⟨_, rfl⟩ | exact .inr ⟨_, rfl, by decide +kernel⟩
  · rw [tmN_A] at h2
    exact .inr ⟨_, List.mem_singleton.mp h2, by decide +kernel⟩
theorem vpN_nds {xs ys : List V} (h : ∀ x ∈ xs, NodeC x) (k : ∀ y ∈ ys, NodeC y) : NdS ((xs.map (vpN ys)).flatten) := fun y hy => by
  obtain ⟨l, h1, h2⟩ := List.mem_flatten.mp hy
  obtain ⟨x, hx, rfl⟩ := List.mem_map.mp h1
  have hn := h x hx
  rcases hn with ⟨n, rfl⟩ | rfl | rfl | rfl | rfl
  · by_cases c : (n : Int) = 0
    · rw [vpN_z c] at h2
      exact (k y h2).nds1
    · rw [vpN_p c] at h2
      exact .inl ⟨_, List.mem_singleton.mp h2⟩
  all_goals exact .inr ⟨_, List.mem_singleton.mp h2, by decide +kernel⟩
/-- what a def tells: the term, or None -/
def Ans (K : PySem.W.Frag) (H : Hp) (Y : List V) (v : V) : Prop := (fitsV Y = true ∧ ∃ p, v = .ref p ∧ SqT K H p Y) ∨ (fitsV Y = false ∧ v = .non)
theorem Ans.mono {K : PySem.W.Frag} {H H' : Hp} {Y : List V} {v : V} (h : Ans K H Y v) (e : Ex H H') : Ans K H' Y v := by
  rcases h with ⟨a, p, b, c⟩ | h
  · exact .inl ⟨a, p, b, ex_t e c⟩
  · exact .inr h
theorem tmN_len {x : V} (h : NodeC x) : (tmN x).length ≤ 10 := by
  rcases h with ⟨n, rfl⟩ | rfl | rfl | rfl | rfl
  · rw [tmN_int]; simp
  · rw [tmN_S]; simp
  · rw [tmN_K]; simp
  · rw [tmN_I]; simp
  · rw [tmN_A]; simp
end Ly
set_option Elab.async false
set_option linter.all false
/-! membership within a comprehension -/
namespace Ly
open PySem PySem.Spec PyProof.Rows L2 Evl
section
variable {X : Cx} {K : PySem.W.Frag}
theorem op_in_seqK (e : X.K = K) : OpR X (compareOp .In) (rIn K false) := by
  rw [← e]
  exact op_in_seq
theorem op_notIn_seqK (e : X.K = K) : OpR X (compareOp .NotIn) (rIn K true) := by
  rw [← e]
  exact op_notIn_seq
theorem op_eqDK (e : X.K = K) (hu : X.A.units + 64 < cLine) : OpR X (compareOp .Eq) (rEqD K) := by
  rw [← e]
  exact op_eqD hu
theorem op_neDK (e : X.K = K) (hu : X.A.units + 64 < cLine) : OpR X (compareOp .NotEq) (rNeD K) := by
  rw [← e]
  exact op_neD hu
end
end Ly
set_option Elab.async false
set_option linter.all false
set_option maxRecDepth 100000
/-! Ly: dicts whose keys are numbers; kinds -/
namespace Ly
open PySem PySem.Spec PyProof.Rows L2 Evl
/-! ### dicts -/
def rDGet (x y : V) (H : Hp) (Q : VK) : Prop := ∃ a v, x = .ref a ∧ DGet H a y (some v) ∧ Q v H
def rDIn (x y : V) (H : Hp) (Q : VK) : Prop := ∃ a o, x = .ref a ∧ DGet H a y o ∧ Q (.bl o.isSome) H
def rDNotIn (x y : V) (H : Hp) (Q : VK) : Prop := ∃ a o, x = .ref a ∧ DGet H a y o ∧ Q (.bl (!o.isSome)) H
def rDPut (x y v : V) (H : Hp) (N : Hp → Prop) : Prop := ∃ a H4, x = .ref a ∧ DPut H a y v H4 ∧ N H4
section
variable {σ : L2.St} {H : Hp} {Q : VK} {D : Ends} {td ty tx tv : TE} {a : Addr} {kvs : List (L2.Key × V)} {i : Int} {v : V}
theorem w_tdget (h : td σ H fun x H1 => ty σ H1 fun y H2 => rDGet x y H2 Q) : tDGet td ty σ H Q := h
theorem w_tdin (h : ty σ H fun y H1 => td σ H1 fun x H2 => rDIn x y H2 Q) : tDIn ty td σ H Q := h
theorem w_tdnotin (h : ty σ H fun y H1 => td σ H1 fun x H2 => rDNotIn x y H2 Q) : tDNotIn ty td σ H Q := h
theorem w_sdput (h : tv σ H fun v H1 => td σ H1 fun x H2 => ty σ H2 fun y H3 => rDPut x y v H3 fun H4 => D.nx σ H4) : sDPut td ty tv D σ H := h
theorem w_dnew (h : ∀ p, H p = none → Q (.ref p) (upd H p (.dK []))) : tDNewK σ H Q := h
theorem w_dget (e : H a = some (.dK kvs)) (hv : valV kvs (.inl i) = some v) (q : Q v H) : rDGet (.ref a) (.int i) H Q :=
  ⟨a, v, rfl, by rw [← hv]; exact DGet.k (k := .inl i) e, q⟩
theorem w_din (e : H a = some (.dK kvs)) (q : Q (.bl (valV kvs (.inl i)).isSome) H) : rDIn (.ref a) (.int i) H Q :=
  ⟨a, _, rfl, DGet.k (k := .inl i) e, q⟩
theorem w_dnotin (e : H a = some (.dK kvs)) (q : Q (.bl (!(valV kvs (.inl i)).isSome)) H) : rDNotIn (.ref a) (.int i) H Q :=
  ⟨a, _, rfl, DGet.k (k := .inl i) e, q⟩
theorem w_dput {N : Hp → Prop} (e : H a = some (.dK kvs)) (z : kvs.length < sizeLine) (q : N (upd H a (.dK (putK kvs (.inl i) v)))) : rDPut (.ref a) (.int i) v H N :=
  ⟨a, _, rfl, DPut.k (k := .inl i) e z, q⟩
def rDSetd (tx : TE) (σ : L2.St) (a : Addr) (y : V) (H : Hp) (Q : VK) : Prop := tx σ H fun z H3 => ∃ (kvs : List (L2.Key × V)) (k : L2.Key), H3 a = some (.dK kvs) ∧ y = kV k ∧ kvs.length < sizeLine ∧
  (∀ v, valV kvs k = some v → Q v H3) ∧ (valV kvs k = none → Q z (upd H3 a (.dK (putK kvs k z))))
theorem w_tdsetd (h : td σ H fun x H1 => ∃ a, x = .ref a ∧ IsD H1 a ∧ ty σ H1 fun y H2 => tx σ H2 fun z H3 => ∃ (kvs : List (L2.Key × V)) (k : L2.Key), H3 a = some (.dK kvs) ∧ y = kV k ∧ kvs.length < sizeLine ∧
  (∀ v, valV kvs k = some v → Q v H3) ∧ (valV kvs k = none → Q z (upd H3 a (.dK (putK kvs k z))))) : tDSetd td ty tx σ H Q := h
theorem isD (e : H a = some (.dK kvs)) : IsD H a := .inl ⟨kvs, .inl e⟩
end
theorem call_lenD {X : Cx} : CallR X (.builtin "len") (fun xs H Q => ∃ a kvs, xs = [.ref a] ∧ H a = some (.dK kvs) ∧ Q (.int kvs.length) H) := by
  intro pins s σ H xs us Q I r h
  obtain ⟨a, kvs, rfl, e, q⟩ := h
  obtain ⟨u, rfl, rx⟩ := vals1 r
  cases rx
  exact d_len I (.inl e) fun t s' I' => ⟨.int kvs.length, H, I', ⟨t, rfl⟩, q⟩
/-! ### numbers in the order of their first occurrence -/
def nodeNo (vs : List Nat) (n : Nat) : List Nat := if n ∈ vs then vs else vs ++ [n]
def renL : List Nat → List V → List V × List Nat
  | vs, [] => ([], vs)
  | vs, x :: r => match x with
    | .int z => (.int ((nodeNo vs z.toNat).idxOf z.toNat : Nat) :: (renL (nodeNo vs z.toNat) r).1, (renL (nodeNo vs z.toNat) r).2)
    | x => (x :: (renL vs r).1, (renL vs r).2)
def renRows : List Nat → List (List V) → List (List V)
  | _, [] => []
  | vs, xs :: r => (renL vs xs).1 :: renRows (renL vs xs).2 r
/-- the dict that numbers vs -/
def NumD (vs : List Nat) (kvs : List (L2.Key × V)) : Prop := kvs.length = vs.length ∧ ∀ n : Nat, valV kvs (.inl (n : Int)) = if n ∈ vs then some (.int (vs.idxOf n : Nat)) else none
theorem NumD.nil : NumD [] [] := ⟨rfl, fun n => rfl⟩
theorem NumD.put {vs : List Nat} {kvs : List (L2.Key × V)} {n : Nat} (h : NumD vs kvs) (hn : n ∉ vs) : NumD (vs ++ [n]) (putK kvs (.inl (n : Int)) (.int (vs.length : Nat))) := by
  have h0 : valV kvs (.inl (n : Int)) = none := by rw [h.2 n, if_neg hn]
  refine ⟨?_, fun m => ?_⟩
  · rw [putK_new _ h0, List.length_append, List.length_append, h.1]
    rfl
  · rw [valV_put, h.2 m]
    by_cases e : m = n
    · subst e
      rw [if_pos rfl, if_pos (by simp), List.idxOf_append, if_neg hn]
      simp
    · have e2 : ¬ ((.inl (m : Int) : L2.Key) = .inl (n : Int)) := fun z => e (by have := Sum.inl.inj z; omega)
      rw [if_neg e2]
      by_cases hm : m ∈ vs
      · rw [if_pos hm, if_pos (by simp [hm]), List.idxOf_append, if_pos hm]
      · rw [if_neg hm, if_neg (by simp [hm, e])]
end Ly
set_option Elab.async false
set_option linter.all false
set_option maxRecDepth 100000
/-! Ly: kinds -/
namespace Ly
open PySem PySem.Spec PyProof.Rows L2 Evl
inductive Kt
  | var (n : Nat)
  | to (a b : Kt)
deriving DecidableEq
def Kt.enc : Kt → List V
  | .var n => [.int (n : Int)]
  | .to a b => .str "to" :: (a.enc ++ b.enc)
def Kt.lt (w : Nat) : Kt → Prop
  | .var n => n < w
  | .to a b => a.lt w ∧ b.lt w
theorem Kt.lt_mono {w z : Nat} (h : w ≤ z) : ∀ t : Kt, t.lt w → t.lt z
  | .var n, l => Nat.lt_of_lt_of_le l h
  | .to a b, l => ⟨Kt.lt_mono h a l.1, Kt.lt_mono h b l.2⟩
def kencs (ts : List Kt) : List V := (ts.map Kt.enc).flatten
theorem kencs_cons (t : Kt) (ts : List Kt) : kencs (t :: ts) = t.enc ++ kencs ts := by simp [kencs]
theorem Kt.enc_ne (t : Kt) : t.enc ≠ [] := by cases t <;> simp [Kt.enc]
theorem Kt.pos (t : Kt) : 1 ≤ t.enc.length := List.length_pos_iff.mpr t.enc_ne
def NodeK (v : V) : Prop := (∃ n : Nat, v = .int (n : Int)) ∨ v = .str "to"
theorem Kt.nodes : ∀ (t : Kt), ∀ v ∈ t.enc, NodeK v
  | .var n, v, h => .inl ⟨n, List.mem_singleton.mp h⟩
  | .to a b, v, h => by
    rcases List.mem_cons.mp h with e | e
    · exact .inr e
    · rcases List.mem_append.mp e with e | e
      · exact a.nodes v e
      · exact b.nodes v e
/-- whatever kinds stand for what is missing, the whole is one -/
def KComp (w : Nat) (nodes : List V) (m : Nat) : Prop := ∀ ts : List Kt, ts.length = m → (∀ t ∈ ts, t.lt w) → ∃ t : Kt, t.lt w ∧ t.enc = nodes ++ kencs ts
theorem KComp.start (w : Nat) : KComp w [] 1 := fun ts hl hw => by
  match ts, hl with
  | [t], _ => exact ⟨t, hw t (by simp), by simp [kencs]⟩
theorem KComp.done {w : Nat} {nodes : List V} (h : KComp w nodes 0) : ∃ t : Kt, t.lt w ∧ t.enc = nodes := by
  obtain ⟨t, h1, h2⟩ := h [] rfl (by simp)
  exact ⟨t, h1, by rw [h2]; simp [kencs]⟩
theorem KComp.leaf {w m n : Nat} {nodes : List V} (h : KComp w nodes (m + 1)) (hn : n < w) : KComp w (nodes ++ [.int (n : Int)]) m := fun ts hl hw => by
  obtain ⟨t, h1, h2⟩ := h (.var n :: ts) (by simp [hl]) (fun p hp => by
    rcases List.mem_cons.mp hp with e | e
    · rw [e]
      exact hn
    · exact hw p e)
  exact ⟨t, h1, by rw [h2, kencs_cons, List.append_assoc]; rfl⟩
theorem KComp.to {w m : Nat} {nodes : List V} (h : KComp w nodes (m + 1)) : KComp w (nodes ++ [.str "to"]) (m + 2) := fun ts hl hw => by
  match ts, hl with
  | f :: a :: r, hl =>
    obtain ⟨t, h1, h2⟩ := h (.to f a :: r) (by simpa using hl) (fun p hp => by
      rcases List.mem_cons.mp hp with e | e
      · rw [e]
        exact ⟨hw f (by simp), hw a (by simp)⟩
      · exact hw p (List.mem_cons_of_mem _ (List.mem_cons_of_mem _ e)))
    exact ⟨t, h1, by rw [h2, kencs_cons, kencs_cons, kencs_cons]; simp [Kt.enc]⟩
/-- forests: the first node tells what follows -/
theorem kforest {x : V} {xs : List V} {ts : List Kt} (h : kencs ts = x :: xs) : (∃ (n : Nat) (us : List Kt), x = .int (n : Int) ∧ ts = .var n :: us ∧ kencs us = xs) ∨ ∃ (a b : Kt) (us : List Kt), x = .str "to" ∧ ts = .to a b :: us ∧ kencs (a :: b :: us) = xs := by
  match ts, h with
  | [], h => simp [kencs] at h
  | .var n :: us, h =>
    rw [kencs_cons] at h
    simp only [Kt.enc, List.cons_append, List.nil_append, List.cons.injEq] at h
    exact .inl ⟨n, us, h.1.symm, rfl, h.2⟩
  | .to a b :: us, h =>
    rw [kencs_cons] at h
    simp only [Kt.enc, List.cons_append, List.cons.injEq] at h
    refine .inr ⟨a, b, us, h.1.symm, rfl, ?_⟩
    rw [kencs_cons, kencs_cons, ← h.2, List.append_assoc]
theorem Kt.enc_pre : ∀ (t u : Kt) {a b : List V}, t.enc ++ a = u.enc ++ b → t = u ∧ a = b
  | .var n, .var m, a, b, h => by
    simp only [Kt.enc, List.cons_append, List.nil_append, List.cons.injEq, V.int.injEq] at h
    exact ⟨by rw [show n = m by omega], h.2⟩
  | .var n, .to _ _, a, b, h => by simp [Kt.enc] at h
  | .to _ _, .var m, a, b, h => by simp [Kt.enc] at h
  | .to a b, .to c d, x, y, h => by
    simp only [Kt.enc, List.cons_append, List.cons.injEq, List.append_assoc, true_and] at h
    obtain ⟨rfl, h2⟩ := Kt.enc_pre a c h
    obtain ⟨rfl, h3⟩ := Kt.enc_pre b d h2
    exact ⟨rfl, h3⟩
theorem Kt.enc_inj {t u : Kt} (h : t.enc = u.enc) : t = u := (Kt.enc_pre t u (a := []) (b := []) (by rw [h])).1
/-! ### rows of nodes; numbering them -/
inductive Rws (K : PySem.W.Frag) (H : Hp) : List Addr → List (List V) → Prop
  | nil : Rws K H [] []
  | cons {a : Addr} {as : List Addr} {xs : List V} {xss : List (List V)} (h : SqT K H a xs) (t : Rws K H as xss) : Rws K H (a :: as) (xs :: xss)
section
variable {K : PySem.W.Frag} {H H' : Hp}
theorem Rws.mono {as : List Addr} {xss : List (List V)} (h : Rws K H as xss) (m : ∀ a xs, SqT K H a xs → SqT K H' a xs) : Rws K H' as xss := by
  induction h with
  | nil => exact .nil
  | cons h _ ih => exact .cons (m _ _ h) ih
theorem Rws.ex {as : List Addr} {xss : List (List V)} (h : Rws K H as xss) (e : Ex H H') : Rws K H' as xss := h.mono fun _ _ z => ex_t e z
theorem sqt_lst {l a : Addr} {xs ys zs : List V} (hl : H l = some (.lst ys)) (h : SqT K H a xs) : SqT K (upd H l (.lst zs)) a xs := by
  rcases h with (h | ⟨ob, h⟩) | h
  · exact .inl (.inl (by rw [upd_ne (fun z => by rw [z, hl] at h; cases h)]; exact h))
  · exact .inl (.inr ⟨ob, by rw [upd_ne (fun z => by rw [z, hl] at h; cases h)]; exact h⟩)
  · exact .inr h
theorem sqt_dic {l a : Addr} {xs : List V} {ys zs : List (L2.Key × V)} (hl : H l = some (.dK ys)) (h : SqT K H a xs) : SqT K (upd H l (.dK zs)) a xs := by
  rcases h with (h | ⟨ob, h⟩) | h
  · exact .inl (.inl (by rw [upd_ne (fun z => by rw [z, hl] at h; cases h)]; exact h))
  · exact .inl (.inr ⟨ob, by rw [upd_ne (fun z => by rw [z, hl] at h; cases h)]; exact h⟩)
  · exact .inr h
theorem Rws.lst {as : List Addr} {xss : List (List V)} {l : Addr} {ys zs : List V} (h : Rws K H as xss) (hl : H l = some (.lst ys)) : Rws K (upd H l (.lst zs)) as xss := h.mono fun _ _ z => sqt_lst hl z
theorem Rws.dic {as : List Addr} {xss : List (List V)} {l : Addr} {ys zs : List (L2.Key × V)} (h : Rws K H as xss) (hl : H l = some (.dK ys)) : Rws K (upd H l (.dK zs)) as xss := h.mono fun _ _ z => sqt_dic hl z
theorem Rws.len {as : List Addr} {xss : List (List V)} (h : Rws K H as xss) : as.length = xss.length := by
  induction h with
  | nil => rfl
  | cons _ _ ih => rw [List.length_cons, List.length_cons, ih]
theorem Rws.at_ {as : List Addr} {xss : List (List V)} (h : Rws K H as xss) : ∀ {i : Nat} {v : V}, (refs as)[i]? = some v → ∃ a xs, v = .ref a ∧ xss[i]? = some xs ∧ SqT K H a xs := by
  induction h with
  | nil => intro i v e; simp [refs] at e
  | @cons a as xs xss h _ ih =>
    intro i v e
    match i, e with
    | 0, e =>
      cases e
      exact ⟨a, xs, rfl, rfl, h⟩
    | i + 1, e => exact ih (i := i) e
theorem Rws.snoc {as : List Addr} {xss : List (List V)} {a : Addr} {xs : List V} (h : Rws K H as xss) (k : SqT K H a xs) : Rws K H (as ++ [a]) (xss ++ [xs]) := by
  induction h with
  | nil => exact .cons k .nil
  | cons h _ ih => exact .cons h ih
end
theorem renL_app : ∀ (xs ys : List V) (vs : List Nat), renL vs (xs ++ ys) = ((renL vs xs).1 ++ (renL (renL vs xs).2 ys).1, (renL (renL vs xs).2 ys).2)
  | [], ys, vs => rfl
  | x :: xs, ys, vs => by
    cases x with
    | int z => simp [renL, renL_app xs ys]
    | _ => simp [renL, renL_app xs ys]
def renV : List Nat → List (List V) → List Nat
  | vs, [] => vs
  | vs, xs :: r => renV (renL vs xs).2 r
theorem renV_snoc : ∀ (xss : List (List V)) (vs : List Nat) (xs : List V), renV vs (xss ++ [xs]) = (renL (renV vs xss) xs).2
  | [], vs, xs => rfl
  | _ :: r, vs, xs => renV_snoc r _ xs
theorem renRows_snoc : ∀ (xss : List (List V)) (vs : List Nat) (xs : List V), renRows vs (xss ++ [xs]) = renRows vs xss ++ [(renL (renV vs xss) xs).1]
  | [], vs, xs => rfl
  | ys :: r, vs, xs => by simp [renRows, renV, renRows_snoc r]
theorem nodeNo_len (vs : List Nat) (n : Nat) : (nodeNo vs n).length ≤ vs.length + 1 := by
  unfold nodeNo
  split <;> simp
theorem renL_len : ∀ (xs : List V) (vs : List Nat), (renL vs xs).1.length = xs.length ∧ (renL vs xs).2.length ≤ vs.length + xs.length
  | [], vs => by simp [renL]
  | x :: xs, vs => by
    cases x with
    | int z =>
      have h := renL_len xs (nodeNo vs z.toNat)
      have h2 := nodeNo_len vs z.toNat
      simp only [renL, List.length_cons]
      omega
    | _ =>
      have h := renL_len xs vs
      simp only [renL, List.length_cons]
      omega
theorem renL_int (vs : List Nat) (n : Nat) : renL vs [.int (n : Int)] = ([.int ((nodeNo vs n).idxOf n : Nat)], nodeNo vs n) := by simp [renL]
theorem renL_to (vs : List Nat) : renL vs [.str "to"] = ([.str "to"], vs) := by simp [renL]
/-! ### where a kind ends -/
def KEnd (xs : List V) (E e : Nat) (ts : List Kt) : Prop := ∃ post, xs.drop e = kencs ts ++ post ∧ e + (kencs ts).length = E
theorem KEnd.start {xs post : List V} {s : Nat} {u : Kt} (h : xs.drop s = u.enc ++ post) : KEnd xs (s + u.enc.length) s [u] := ⟨post, by simpa [kencs] using h, by simp [kencs]⟩
theorem KEnd.nil {xs : List V} {E e : Nat} (h : KEnd xs E e []) : e = E := by
  obtain ⟨post, _, h2⟩ := h
  simpa [kencs] using h2
theorem KEnd.step {xs : List V} {E e : Nat} {t : Kt} {ts : List Kt} (h : KEnd xs E e (t :: ts)) : e < E ∧ e < xs.length ∧ ((∃ n : Nat, xs[e]? = some (.int (n : Int)) ∧ KEnd xs E (e + 1) ts) ∨ ∃ a b, xs[e]? = some (.str "to") ∧ KEnd xs E (e + 1) (a :: b :: ts)) := by
  obtain ⟨post, h1, h2⟩ := h
  have pt := t.pos
  rw [kencs_cons, List.length_append] at h2
  have hl := congrArg List.length h1
  rw [List.length_drop, kencs_cons, List.length_append, List.length_append] at hl
  have dr : ∀ {x : V} {r : List V}, xs.drop e = x :: r → xs[e]? = some x ∧ xs.drop (e + 1) = r := fun {x r} z => by
    refine ⟨?_, ?_⟩
    · rw [← List.head?_drop, z]; rfl
    · rw [← List.drop_drop, z]; rfl
  refine ⟨by omega, by omega, ?_⟩
  cases t with
  | var n =>
    obtain ⟨d1, d2⟩ := dr (show xs.drop e = .int (n : Int) :: (kencs ts ++ post) by rw [h1, kencs_cons]; rfl)
    refine .inl ⟨n, d1, post, d2, ?_⟩
    simp only [Kt.enc, List.length_singleton] at h2
    omega
  | to a b =>
    obtain ⟨d1, d2⟩ := dr (show xs.drop e = .str "to" :: (kencs (a :: b :: ts) ++ post) by rw [h1, kencs_cons, kencs_cons, kencs_cons]; simp [Kt.enc])
    refine .inr ⟨a, b, d1, post, d2, ?_⟩
    simp only [Kt.enc, List.length_cons, List.length_append] at h2
    rw [kencs_cons, kencs_cons]
    simp only [List.length_append]
    omega
/-! ### replacement -/
def Tab (K : PySem.W.Frag) (H : Hp) (kvs : List (L2.Key × V)) (g : Nat → Option Kt) : Prop := ∀ n : Nat, (g n = none ∧ valV kvs (.inl (n : Int)) = none) ∨ ∃ u a, g n = some u ∧ valV kvs (.inl (n : Int)) = some (.ref a) ∧ SqT K H a u.enc
theorem Tab.mono {K : PySem.W.Frag} {H H' : Hp} {kvs : List (L2.Key × V)} {g : Nat → Option Kt} (h : Tab K H kvs g) (m : ∀ a xs, SqT K H a xs → SqT K H' a xs) : Tab K H' kvs g := fun n => by
  rcases h n with h | ⟨u, a, h1, h2, h3⟩
  · exact .inl h
  · exact .inr ⟨u, a, h1, h2, m _ _ h3⟩
def Kt.rpl (g : Nat → Option Kt) : Kt → Kt
  | .var n => (g n).getD (.var n)
  | .to a b => .to (a.rpl g) (b.rpl g)
def rplV (g : Nat → Option Kt) (v : V) : List V := match v with
  | .int z => ((g z.toNat).getD (.var z.toNat)).enc
  | v => [v]
theorem Kt.rpl_enc (g : Nat → Option Kt) : ∀ t : Kt, (t.rpl g).enc = (t.enc.map (rplV g)).flatten
  | .var n => by simp [Kt.rpl, Kt.enc, rplV]
  | .to a b => by
    simp only [Kt.rpl, Kt.enc, List.map_cons, List.map_append, List.flatten_cons, List.flatten_append, Kt.rpl_enc g a, Kt.rpl_enc g b]
    rfl
theorem cut_kind {xs post : List V} {i : Nat} {u : Kt} (h : xs.drop i = u.enc ++ post) : cutV xs (some (i : Int)) (some ((i + u.enc.length : Nat) : Int)) = u.enc := by
  have hl := congrArg List.length h
  rw [List.length_drop, List.length_append] at hl
  have pos := List.length_pos_iff.mpr u.enc_ne
  unfold cutV
  rw [HT.sIx_nat, HT.sIx_nat, Nat.min_eq_left (by omega), Nat.min_eq_left (by omega), h]
  rw [List.take_append_of_le_length (by omega)]
  exact List.take_of_length_le (by omega)
/-! ### instances -/
def NdK (t : Kt) : NdS t.enc := fun x hx => by
  rcases t.nodes x hx with ⟨n, rfl⟩ | rfl
  · exact .inl ⟨_, rfl⟩
  · exact .inr ⟨_, rfl, by decide +kernel⟩
def setG (g : Nat → Option Kt) (n : Nat) (s : Kt) : Nat → Option Kt := fun m => if m = n then some s else g m
theorem setG_same {g : Nat → Option Kt} {n : Nat} {s : Kt} (h : g n = some s) : setG g n s = g := by
  funext m
  unfold setG
  split
  · rename_i e
    rw [e, h]
  · rfl
def mt (g : Nat → Option Kt) : Kt → Kt → Option (Nat → Option Kt)
  | .var n, s => match g n with
    | none => some (setG g n s)
    | some u => if u = s then some g else none
  | .to a b, .to c d => (mt g a c).bind fun g' => mt g' b d
  | .to _ _, .var _ => none
def mts : (Nat → Option Kt) → List Kt → List Kt → Option (Nat → Option Kt)
  | g, [], _ => some g
  | _, _ :: _, [] => none
  | g, t :: ts, s :: ss => (mt g t s).bind fun g' => mts g' ts ss
theorem mts_new {g : Nat → Option Kt} {n : Nat} {s : Kt} {us ss : List Kt} (h : g n = none) : mts g (.var n :: us) (s :: ss) = mts (setG g n s) us ss := by
  rw [mts, mt, h]
  rfl
theorem mts_old {g : Nat → Option Kt} {n : Nat} {s : Kt} {us ss : List Kt} (h : g n = some s) : mts g (.var n :: us) (s :: ss) = mts (setG g n s) us ss := by
  rw [mts, mt, h, setG_same h]
  simp
theorem mts_bad {g : Nat → Option Kt} {n : Nat} {s u : Kt} {us ss : List Kt} (h : g n = some u) (e : u ≠ s) : mts g (.var n :: us) (s :: ss) = none := by
  rw [mts, mt, h]
  simp [e]
theorem mts_to {g : Nat → Option Kt} {a b c d : Kt} {us ss : List Kt} : mts g (.to a b :: us) (.to c d :: ss) = mts g (a :: b :: us) (c :: d :: ss) := by
  rw [mts, mt, mts]
  cases mt g a c with
  | none => rfl
  | some g' => rw [Option.bind_some, Option.bind_some, mts]
theorem mts_var {g : Nat → Option Kt} {a b : Kt} {m : Nat} {us ss : List Kt} : mts g (.to a b :: us) (.var m :: ss) = none := rfl
theorem mts_cons {g : Nat → Option Kt} {t s : Kt} {ts ss : List Kt} {g' : Nat → Option Kt} (h : mts g [t] [s] = some g') : mts g (t :: ts) (s :: ss) = mts g' ts ss := by
  rw [mts] at h ⊢
  cases hm : mt g t s with
  | none => rw [hm] at h; cases h
  | some x =>
    rw [hm, Option.bind_some, mts] at h
    cases h
    rfl
theorem mts_fail {g : Nat → Option Kt} {t s : Kt} {ts ss : List Kt} (h : mts g [t] [s] = none) : mts g (t :: ts) (s :: ss) = none := by
  rw [mts] at h ⊢
  cases hm : mt g t s with
  | none => rfl
  | some x =>
    rw [hm, Option.bind_some, mts] at h
    cases h
theorem Tab.nil {K : PySem.W.Frag} {H : Hp} : Tab K H [] (fun _ => none) := fun n => .inl ⟨rfl, rfl⟩
theorem Tab.put {K : PySem.W.Frag} {H : Hp} {kvs : List (L2.Key × V)} {g : Nat → Option Kt} {n : Nat} {s : Kt} {p : Addr} (h : Tab K H kvs g) (hp : SqT K H p s.enc) : Tab K H (putK kvs (.inl (n : Int)) (.ref p)) (setG g n s) := fun m => by
  by_cases e : m = n
  · subst e
    exact .inr ⟨s, p, by simp [setG], by rw [valV_put]; simp, hp⟩
  · have e2 : ¬ ((.inl (m : Int) : L2.Key) = .inl (n : Int)) := fun z => e (by have := Sum.inl.inj z; omega)
    rw [valV_put, if_neg e2]
    have e3 : setG g n s m = g m := by simp [setG, e]
    rw [e3]
    exact h m
theorem kencs_nil {ts : List Kt} (h : kencs ts = []) : ts = [] := by
  cases ts with
  | nil => rfl
  | cons t ts =>
    rw [kencs_cons] at h
    exact absurd (List.append_eq_nil_iff.mp h).1 t.enc_ne
end Ly
set_option Elab.async false
set_option linter.all false
set_option maxRecDepth 100000
/-! Ly: numbered kinds: numbering twice, instances both ways -/
namespace Ly
open PySem PySem.Spec PyProof.Rows L2 Evl
theorem idx_range {m j : Nat} (h : j < m) : (List.range m).idxOf j = j := by
  have h1 : (List.range m).idxOf j < (List.range m).length := List.idxOf_lt_length_of_mem (List.mem_range.mpr h)
  have h2 := List.getElem_idxOf h1
  rw [List.getElem_range] at h2
  exact h2
theorem no_range (m : Nat) : nodeNo (List.range m) m = List.range (m + 1) := by
  rw [nodeNo, if_neg (by simp), List.range_succ]
theorem ren_twice : ∀ (xs : List V) (vs : List Nat), renL (List.range vs.length) (renL vs xs).1 = ((renL vs xs).1, List.range (renL vs xs).2.length)
  | [], vs => rfl
  | x :: xs, vs => by
    cases x with
    | int z =>
      simp only [renL]
      by_cases h : z.toNat ∈ vs
      · have e : nodeNo vs z.toNat = vs := if_pos h
        have hl := List.idxOf_lt_length_of_mem h
        have e2 : nodeNo (List.range vs.length) (vs.idxOf z.toNat) = List.range vs.length := if_pos (List.mem_range.mpr hl)
        rw [e]
        simp only [Int.toNat_natCast, e2, idx_range hl, ren_twice xs vs]
      · have e : nodeNo vs z.toNat = vs ++ [z.toNat] := if_neg h
        have hi : (vs ++ [z.toNat]).idxOf z.toNat = vs.length := by rw [List.idxOf_append, if_neg h]; simp
        have ih := ren_twice xs (vs ++ [z.toNat])
        rw [List.length_append, List.length_singleton] at ih
        rw [e, hi]
        simp only [Int.toNat_natCast, no_range, idx_range (Nat.lt_succ_self vs.length), ih]
    | _ => simp only [renL, ren_twice xs vs]
theorem renRows_twice : ∀ (xss : List (List V)) (vs : List Nat), renRows (List.range vs.length) (renRows vs xss) = renRows vs xss
  | [], vs => rfl
  | xs :: r, vs => by
    simp only [renRows, ren_twice]
    rw [renRows_twice r]
/-- numbering twice changes nothing more -/
theorem renRows_idem (xss : List (List V)) : renRows [] (renRows [] xss) = renRows [] xss := renRows_twice xss []
theorem w_tmeth {C : Addr} {m : Str} {sp : Sp} {dvs : List V} {E : XK} {ta : TE} {t : TA} {σ : L2.St} {H : Hp} {Q : VK} (h : ta σ H fun x H1 => ∃ a dx fs, x = .ref a ∧ H1 a = some (.ins C dx fs) ∧ List.lookup m fs = none ∧ t σ H1 fun vs H2 => sp (x :: (vs ++ dvs)) H2 Q E) : tMeth C m sp dvs E ta t σ H Q := h
/-! ### instances -/
def Kt.sbs (σ : Nat → Kt) : Kt → Kt
  | .var n => σ n
  | .to a b => .to (a.sbs σ) (b.sbs σ)
theorem mt_sbs (σ : Nat → Kt) : ∀ (t : Kt) (g : Nat → Option Kt), (∀ n u, g n = some u → u = σ n) → ∃ g', mt g t (t.sbs σ) = some g' ∧ ∀ n u, g' n = some u → u = σ n
  | .var n, g, h => by
    rw [mt]
    cases e : g n with
    | none =>
      refine ⟨_, rfl, fun m u hu => ?_⟩
      unfold setG at hu
      split at hu
      · rename_i em
        rw [em]
        exact (Option.some.inj hu).symm
      · exact h m u hu
    | some u => exact ⟨g, by simp [h n u e, Kt.sbs], h⟩
  | .to a b, g, h => by
    obtain ⟨g1, e1, h1⟩ := mt_sbs σ a g h
    obtain ⟨g2, e2, h2⟩ := mt_sbs σ b g1 h1
    exact ⟨g2, by rw [Kt.sbs, mt, e1, Option.bind_some, e2], h2⟩
theorem mts_sbs (σ : Nat → Kt) : ∀ (ts : List Kt) (g : Nat → Option Kt), (∀ n u, g n = some u → u = σ n) → ∃ g', mts g ts (ts.map (Kt.sbs σ)) = some g'
  | [], g, h => ⟨g, rfl⟩
  | t :: ts, g, h => by
    obtain ⟨g1, e1, h1⟩ := mt_sbs σ t g h
    obtain ⟨g2, e2⟩ := mts_sbs σ ts g1 h1
    exact ⟨g2, by rw [List.map_cons, mts, e1, Option.bind_some, e2]⟩
/-- a list of kinds has its replacements for instances -/
theorem inst_sbs (σ : Nat → Kt) (ts : List Kt) : (mts (fun _ => none) ts (ts.map (Kt.sbs σ))).isSome = true := by
  obtain ⟨g, e⟩ := mts_sbs σ ts (fun _ => none) (fun n u h => by cases h)
  rw [e]
  rfl
/-! ### numbered kinds are renamed kinds -/
def Kt.rnm (f : Nat → Nat) : Kt → Kt := Kt.sbs fun n => .var (f n)
theorem nodeNo_pre (vs : List Nat) (n : Nat) : vs <+: nodeNo vs n := by
  unfold nodeNo
  split
  · exact List.prefix_rfl
  · exact List.prefix_append _ _
theorem nodeNo_mem (vs : List Nat) (n : Nat) : n ∈ nodeNo vs n := by
  unfold nodeNo
  split
  · assumption
  · simp
theorem idx_pre {vs ws : List Nat} {n : Nat} (h : vs <+: ws) (m : n ∈ vs) : ws.idxOf n = vs.idxOf n := by
  obtain ⟨r, rfl⟩ := h
  rw [List.idxOf_append, if_pos m]
theorem renL_pre : ∀ (xs : List V) (vs : List Nat), vs <+: (renL vs xs).2
  | [], vs => List.prefix_rfl
  | x :: xs, vs => by
    cases x with
    | int z => exact (nodeNo_pre vs z.toNat).trans (renL_pre xs _)
    | _ => exact renL_pre xs vs
theorem renL_kt : ∀ (t : Kt) (vs ws : List Nat), (renL vs t.enc).2 <+: ws → (renL vs t.enc).1 = (t.rnm fun n => ws.idxOf n).enc ∧ ∀ n : Nat, V.int (n : Int) ∈ t.enc → n ∈ (renL vs t.enc).2
  | .var n, vs, ws, h => by
    rw [Kt.enc, renL_int] at h ⊢
    refine ⟨?_, fun m hm => ?_⟩
    · show _ = [V.int ((ws.idxOf n : Nat) : Int)]
      rw [idx_pre h (nodeNo_mem vs n)]
    · simp only [List.mem_singleton, V.int.injEq] at hm
      rw [show m = n by omega]
      exact nodeNo_mem vs n
  | .to a b, vs, ws, h => by
    have e : renL vs (Kt.to a b).enc = (.str "to" :: ((renL vs a.enc).1 ++ (renL (renL vs a.enc).2 b.enc).1), (renL (renL vs a.enc).2 b.enc).2) := by
      rw [Kt.enc]
      simp only [renL, renL_app]
    rw [e] at h ⊢
    obtain ⟨b1, b2⟩ := renL_kt b (renL vs a.enc).2 ws h
    obtain ⟨a1, a2⟩ := renL_kt a vs ws ((renL_pre b.enc _).trans h)
    refine ⟨by rw [a1, b1]; rfl, fun n hn => ?_⟩
    simp only [Kt.enc, List.mem_cons, List.mem_append] at hn
    rcases hn with hn | hn | hn
    · cases hn
    · exact (renL_pre b.enc _).subset (a2 n hn)
    · exact b2 n hn
theorem renV_pre : ∀ (xss : List (List V)) (vs : List Nat), vs <+: renV vs xss
  | [], vs => List.prefix_rfl
  | xs :: r, vs => (renL_pre xs vs).trans (renV_pre r _)
theorem renRows_kt : ∀ (gs : List Kt) (vs ws : List Nat), renV vs (gs.map Kt.enc) <+: ws → renRows vs (gs.map Kt.enc) = (gs.map fun t => t.rnm fun n => ws.idxOf n).map Kt.enc ∧ ∀ t ∈ gs, ∀ n : Nat, V.int (n : Int) ∈ t.enc → n ∈ ws
  | [], vs, ws, h => ⟨rfl, fun t ht => nomatch ht⟩
  | t :: gs, vs, ws, h => by
    rw [List.map_cons, renV] at h
    obtain ⟨b1, b2⟩ := renRows_kt gs _ ws h
    have h2 := (renV_pre (gs.map Kt.enc) (renL vs t.enc).2).trans h
    obtain ⟨a1, a2⟩ := renL_kt t vs ws h2
    refine ⟨by rw [List.map_cons, renRows, a1, b1]; rfl, fun u hu n hn => ?_⟩
    rcases List.mem_cons.mp hu with rfl | hu
    · exact h2.subset (a2 n hn)
    · exact b2 u hu n hn
theorem sbs_back {ws : List Nat} : ∀ t : Kt, (∀ n : Nat, V.int (n : Int) ∈ t.enc → n ∈ ws) → (t.rnm fun n => ws.idxOf n).sbs (fun m => .var (ws.getD m 0)) = t
  | .var n, h => by
    have hn := h n (by simp [Kt.enc])
    have hl := List.idxOf_lt_length_of_mem hn
    show Kt.var (ws.getD (ws.idxOf n) 0) = Kt.var n
    rw [List.getD_eq_getElem?_getD, List.getElem?_eq_getElem hl, List.getElem_idxOf hl]
    rfl
  | .to a b, h => by
    show Kt.to ((a.rnm fun n => ws.idxOf n).sbs fun m => .var (ws.getD m 0)) ((b.rnm fun n => ws.idxOf n).sbs fun m => .var (ws.getD m 0)) = Kt.to a b
    rw [sbs_back a fun n hn => h n (by simp [Kt.enc, hn]), sbs_back b fun n hn => h n (by simp [Kt.enc, hn])]
/-- the numbered list: its kinds, and an instance of the list, and the list one of it -/
theorem rnm_len (f : Nat → Nat) : ∀ t : Kt, (t.rnm f).enc.length = t.enc.length
  | .var n => rfl
  | .to a b => by
    show (Kt.to (a.rnm f) (b.rnm f)).enc.length = _
    simp only [Kt.enc, List.length_cons, List.length_append, rnm_len f a, rnm_len f b]
theorem ren_inst (gs : List Kt) : ∃ rs : List Kt, renRows [] (gs.map Kt.enc) = rs.map Kt.enc ∧ rs.length = gs.length ∧ (∀ M, (∀ t ∈ gs, t.enc.length ≤ M) → ∀ t ∈ rs, t.enc.length ≤ M) ∧ (mts (fun _ => none) rs gs).isSome = true ∧ (mts (fun _ => none) gs rs).isSome = true := by
  obtain ⟨h1, h2⟩ := renRows_kt gs [] (renV [] (gs.map Kt.enc)) List.prefix_rfl
  generalize renV [] (gs.map Kt.enc) = ws at *
  refine ⟨_, h1, by simp, fun M hM t ht => ?_, ?_, inst_sbs _ gs⟩
  · obtain ⟨u, hu, rfl⟩ := List.mem_map.mp ht
    rw [rnm_len]
    exact hM u hu
  have e : (gs.map fun t => t.rnm fun n => ws.idxOf n).map (Kt.sbs fun m => .var (ws.getD m 0)) = gs := by
    rw [List.map_map]
    refine (List.map_congr_left fun t ht => ?_).trans (List.map_id gs)
    exact sbs_back t (h2 t ht)
  have := inst_sbs (fun m => .var (ws.getD m 0)) (gs.map fun t => t.rnm fun n => ws.idxOf n)
  rw [e] at this
  exact this
/-! ### rows as data -/
def rowD (xs : List V) : PyData := .tuple (xs.map dv)
theorem Rws.dp {K : PySem.W.Frag} {H : Hp} {as : List Addr} {xss : List (List V)} (h : Rws K H as xss) (n : ∀ xs ∈ xss, NdS xs) : DpAll K H (refs as) (xss.map rowD) := by
  induction h with
  | nil => exact .nil
  | @cons a as xs xss h _ ih => exact .cons (.tup h (dpS (n xs List.mem_cons_self))) (ih fun ys hy => n ys (List.mem_cons_of_mem _ hy))
theorem lay_rows : ∀ {xss : List (List V)}, (∀ xs ∈ xss, NdS xs) → PyData.canLayAll0 (xss.map rowD) = true
  | [], _ => rfl
  | xs :: xss, n => by
    have h1 : (rowD xs).canLay0 = true := layS (n xs List.mem_cons_self)
    show ((rowD xs).canLay0 && PyData.canLayAll0 (xss.map rowD)) = true
    rw [h1, lay_rows fun ys hy => n ys (List.mem_cons_of_mem _ hy)]
    rfl
theorem depth_rows : ∀ xss : List (List V), PyData.depthAll (xss.map rowD) ≤ 2
  | [] => by simp [PyData.depthAll]
  | xs :: xss => by
    have h1 : (rowD xs).depth ≤ 2 := depth_nodes
    have h2 := depth_rows xss
    simp only [List.map_cons, PyData.depthAll]
    omega
theorem shaped_rows {xss : List (List V)} (n : ∀ xs ∈ xss, NdS xs) : SeqAt.shaped (.list (xss.map rowD)) = true := by
  have h1 : (PyData.list (xss.map rowD)).canLay0 = true := lay_rows n
  have h2 : (PyData.list (xss.map rowD)).depth ≤ 3 := by
    have h := depth_rows xss
    simp only [PyData.depth]
    omega
  unfold SeqAt.shaped
  rw [h1, Bool.true_and]
  exact decide_eq_true (by omega)
theorem eqv_rows : ∀ {xss : List (List V)}, (∀ xs ∈ xss, NdS xs) → PyData.eqvAll (xss.map rowD) (xss.map rowD) = true
  | [], _ => by simp [PyData.eqvAll]
  | xs :: xss, n => by
    have ih := eqv_rows fun ys hy => n ys (List.mem_cons_of_mem xs hy)
    have h1 : PyData.eqv (rowD xs) (rowD xs) = true := by
      show PyData.eqv (.tuple (xs.map dv)) (.tuple (xs.map dv)) = true
      rw [PyData.eqv, eqvS (n xs List.mem_cons_self) (n xs List.mem_cons_self), decide_eq_true rfl]
    rw [List.map_cons, PyData.eqvAll, ih, h1]
    rfl
section
variable {K : PySem.W.Frag} {H : Hp} {Q : VK} {x y : Addr} {as bs : List Addr} {xss : List (List V)}
theorem w_neR (h : H x = some (.lst (refs as))) (k : H y = some (.lst (refs bs))) (hr : Rws K H as xss) (kr : Rws K H bs xss) (n : ∀ xs ∈ xss, NdS xs) (q : Q (.bl false) H) : rNeD K (.ref x) (.ref y) H Q :=
  ⟨_, _, .lst (SqL.of h) (hr.dp n), .lst (SqL.of k) (kr.dp n), shaped_rows n, shaped_rows n, by rw [PyData.eqv, eqv_rows n]; exact q⟩
theorem w_eqR (h : H x = some (.lst (refs as))) (k : H y = some (.lst (refs bs))) (hr : Rws K H as xss) (kr : Rws K H bs xss) (n : ∀ xs ∈ xss, NdS xs) (q : Q (.bl true) H) : rEqD K (.ref x) (.ref y) H Q :=
  ⟨_, _, .lst (SqL.of h) (hr.dp n), .lst (SqL.of k) (kr.dp n), shaped_rows n, shaped_rows n, by rw [PyData.eqv, eqv_rows n]; exact q⟩
end
theorem nds_kts (ts : List Kt) : ∀ xs ∈ ts.map Kt.enc, NdS xs := fun xs h => by
  obtain ⟨t, _, rfl⟩ := List.mem_map.mp h
  exact NdK t
end Ly
set_option Elab.async false
set_option linter.all false
set_option maxRecDepth 100000
/-! Ly: the graph of kinds: what its nodes stand for -/
namespace Ly
open PySem PySem.Spec PyProof.Rows L2 Evl
theorem kencs_inj : ∀ (us vs : List Kt), kencs us = kencs vs → us = vs
  | [], vs, h => (kencs_nil h.symm).symm
  | u :: us, [], h => (kencs_nil h)
  | u :: us, v :: vs, h => by
    rw [kencs_cons, kencs_cons] at h
    obtain ⟨rfl, h2⟩ := Kt.enc_pre u v h
    rw [kencs_inj us vs h2]
theorem kforest_drop (t : Kt) : ∀ i, i ≤ t.enc.length → ∃ us, kencs us = t.enc.drop i
  | 0, _ => ⟨[t], by simp [kencs]⟩
  | i + 1, h => by
    obtain ⟨us, hu⟩ := kforest_drop t i (by omega)
    have hd : t.enc.drop i = t.enc[i] :: t.enc.drop (i + 1) := List.drop_eq_getElem_cons (by omega)
    rw [hd] at hu
    rcases kforest hu with ⟨_, us2, _, _, e⟩ | ⟨a, b, us2, _, _, e⟩
    · exact ⟨_, e⟩
    · exact ⟨_, e⟩
theorem kforest_step {t : Kt} {i : Nat} {x : V} {us : List Kt} (h : t.enc[i]? = some x) (hu : kencs us = t.enc.drop (i + 1)) :
    ∃ ws, kencs ws = t.enc.drop i ∧ ((∃ n : Nat, x = .int (n : Int) ∧ ws = .var n :: us) ∨ ∃ a b us2, x = .str "to" ∧ us = a :: b :: us2 ∧ ws = .to a b :: us2) := by
  obtain ⟨hi, hx⟩ := List.getElem?_eq_some_iff.mp h
  obtain ⟨ws, hw⟩ := kforest_drop t i (by omega)
  have hd : t.enc.drop i = x :: t.enc.drop (i + 1) := by rw [← hx]; exact List.drop_eq_getElem_cons hi
  refine ⟨ws, hw, ?_⟩
  rw [hd] at hw
  rcases kforest hw with ⟨n, us2, rfl, rfl, e⟩ | ⟨a, b, us2, rfl, rfl, e⟩
  · exact .inl ⟨n, rfl, by rw [kencs_inj us2 us (e.trans hu.symm)]⟩
  · exact .inr ⟨a, b, us2, rfl, (kencs_inj _ us (e.trans hu.symm)).symm, rfl⟩
/-- the node i of the graph stands for a kind -/
inductive Den (K : PySem.W.Frag) (H : Hp) (es : List V) (kvs : List (L2.Key × V)) : Nat → Kt → Prop
  | var {i n : Nat} (h : es[i]? = some .non) (v : valV kvs (.inl (n : Int)) = some (.int (i : Int))) : Den K H es kvs i (.var n)
  | to {i a b : Nat} {r : Addr} {A B : Kt} (h : es[i]? = some (.ref r)) (hr : SqT K H r [.int (a : Int), .int (b : Int)]) (la : a < es.length) (lb : b < es.length) (ha : Den K H es kvs a A) (hb : Den K H es kvs b B) : Den K H es kvs i (.to A B)
theorem pre_at {es es' : List V} {i : Nat} {v : V} (p : es <+: es') (h : es[i]? = some v) : es'[i]? = some v := by
  obtain ⟨r, rfl⟩ := p
  rw [List.getElem?_append_left (List.getElem?_eq_some_iff.mp h).1]
  exact h
theorem Den.mono {K : PySem.W.Frag} {H H' : Hp} {es es' : List V} {kvs kvs' : List (L2.Key × V)} (m : ∀ a xs, SqT K H a xs → SqT K H' a xs) (p : es <+: es') (e : ∀ (n : Nat) v, valV kvs (.inl (n : Int)) = some v → valV kvs' (.inl (n : Int)) = some v) {i : Nat} {t : Kt} (h : Den K H es kvs i t) : Den K H' es' kvs' i t := by
  induction h with
  | var h v => exact .var (pre_at p h) (e _ _ v)
  | to h hr la lb _ _ iha ihb => exact .to (pre_at p h) (m _ _ hr) (Nat.lt_of_lt_of_le la p.length_le) (Nat.lt_of_lt_of_le lb p.length_le) iha ihb
theorem Den.lt {K : PySem.W.Frag} {H : Hp} {es : List V} {kvs : List (L2.Key × V)} {i : Nat} {t : Kt} (h : Den K H es kvs i t) : i < es.length := by
  cases h with
  | var h _ => exact (List.getElem?_eq_some_iff.mp h).1
  | to h _ _ _ _ _ => exact (List.getElem?_eq_some_iff.mp h).1
inductive DenL (K : PySem.W.Frag) (H : Hp) (es : List V) (kvs : List (L2.Key × V)) : List Nat → List Kt → Prop
  | nil : DenL K H es kvs [] []
  | cons {i : Nat} {is : List Nat} {t : Kt} {ts : List Kt} (h : Den K H es kvs i t) (r : DenL K H es kvs is ts) : DenL K H es kvs (i :: is) (t :: ts)
theorem DenL.mono {K : PySem.W.Frag} {H H' : Hp} {es es' : List V} {kvs kvs' : List (L2.Key × V)} (m : ∀ a xs, SqT K H a xs → SqT K H' a xs) (p : es <+: es') (e : ∀ (n : Nat) v, valV kvs (.inl (n : Int)) = some v → valV kvs' (.inl (n : Int)) = some v) {is : List Nat} {ts : List Kt} (h : DenL K H es kvs is ts) : DenL K H' es' kvs' is ts := by
  induction h with
  | nil => exact .nil
  | cons h _ ih => exact .cons (h.mono m p e) ih
theorem DenL.len {K : PySem.W.Frag} {H : Hp} {es : List V} {kvs : List (L2.Key × V)} {is : List Nat} {ts : List Kt} (h : DenL K H es kvs is ts) : is.length = ts.length := by
  induction h with
  | nil => rfl
  | cons _ _ ih => rw [List.length_cons, List.length_cons, ih]
theorem kencs_pos : ∀ ts : List Kt, ts.length ≤ (kencs ts).length
  | [] => by simp
  | t :: ts => by
    have h1 := kencs_pos ts
    have h2 := t.pos
    rw [kencs_cons, List.length_append, List.length_cons]
    omega
/-- the numbers of the variables -/
structure GVar (es : List V) (kvs : List (L2.Key × V)) : Prop where
  at_ : ∀ (n : Nat) v, valV kvs (.inl (n : Int)) = some v → ∃ i : Nat, v = .int (i : Int) ∧ es[i]? = some .non
  inj : ∀ (n m : Nat) v, valV kvs (.inl (n : Int)) = some v → valV kvs (.inl (m : Int)) = some v → n = m
theorem GVar.grow {es es' : List V} {kvs : List (L2.Key × V)} (g : GVar es kvs) (p : es <+: es') : GVar es' kvs :=
  ⟨fun n v h => by
    obtain ⟨i, e, hi⟩ := g.at_ n v h
    exact ⟨i, e, pre_at p hi⟩, g.inj⟩
theorem GVar.put {es : List V} {kvs : List (L2.Key × V)} {n : Nat} (g : GVar es kvs) (hn : valV kvs (.inl (n : Int)) = none) : GVar (es ++ [.non]) (putK kvs (.inl (n : Int)) (.int (es.length : Int))) ∧ ∀ (m : Nat) v, valV kvs (.inl (m : Int)) = some v → valV (putK kvs (.inl (n : Int)) (.int (es.length : Int))) (.inl (m : Int)) = some v := by
  have hv : ∀ m : Nat, valV (putK kvs (.inl (n : Int)) (.int (es.length : Int))) (.inl (m : Int)) = if m = n then some (.int (es.length : Int)) else valV kvs (.inl (m : Int)) := fun m => by
    rw [valV_put]
    by_cases e : m = n
    · subst e
      simp
    · have e2 : ¬ ((.inl (m : Int) : L2.Key) = .inl (n : Int)) := fun z => e (by have := Sum.inl.inj z; omega)
      rw [if_neg e2, if_neg e]
  refine ⟨⟨fun m v h => ?_, fun m k v h1 h2 => ?_⟩, fun m v h => ?_⟩
  · rw [hv] at h
    split at h
    · cases h
      exact ⟨_, rfl, by simp⟩
    · obtain ⟨i, e, hi⟩ := g.at_ m v h
      exact ⟨i, e, pre_at (List.prefix_append _ _) hi⟩
  · have far : ∀ {k : Nat}, valV kvs (.inl (k : Int)) = some (.int (es.length : Int)) → False := fun {k} z => by
      obtain ⟨i, e, hi⟩ := g.at_ k _ z
      have := (List.getElem?_eq_some_iff.mp hi).1
      simp only [V.int.injEq] at e
      omega
    rw [hv] at h1 h2
    split at h1 <;> split at h2
    · omega
    · cases h1
      exact absurd h2 far
    · cases h2
      exact absurd h1 far
    · exact g.inj m k v h1 h2
  · rw [hv]
    split
    · rename_i e
      rw [e, hn] at h
      cases h
    · exact h
/-- all but c, s, d is kept -/
def Off (c s d : Addr) (H H' : Hp) : Prop := ∀ a o, a ≠ c → a ≠ s → a ≠ d → H a = some o → H' a = some o
theorem Off.refl (c s d : Addr) (H : Hp) : Off c s d H H := fun _ _ _ _ _ h => h
theorem Off.trans {c s d : Addr} {H H1 H2 : Hp} (a : Off c s d H H1) (b : Off c s d H1 H2) : Off c s d H H2 := fun x o h1 h2 h3 h => b x o h1 h2 h3 (a x o h1 h2 h3 h)
theorem Off.ex {c s d : Addr} {H H' : Hp} (e : Ex H H') : Off c s d H H' := fun a o _ _ _ h => e a o h
theorem off_sqt {K : PySem.W.Frag} {c s d : Addr} {H H' : Hp} (o : Off c s d H H') {l1 l2 : List V} {kv : List (L2.Key × V)} (hc : H c = some (.lst l1)) (hs : H s = some (.lst l2)) (hd : H d = some (.dK kv)) {a : Addr} {xs : List V} (h : SqT K H a xs) : SqT K H' a xs := by
  have ne : ∀ {u : HO}, H a = some u → (∀ l, u ≠ .lst l) → (∀ k, u ≠ .dK k) → H' a = some u := fun {u} hu n1 n2 => o a u (fun z => by rw [z, hc] at hu; exact n1 _ (Option.some.inj hu).symm) (fun z => by rw [z, hs] at hu; exact n1 _ (Option.some.inj hu).symm) (fun z => by rw [z, hd] at hu; exact n2 _ (Option.some.inj hu).symm) hu
  rcases h with (h | ⟨ob, h⟩) | h
  · exact .inl (.inl (ne h (fun _ z => by cases z) (fun _ z => by cases z)))
  · exact .inl (.inr ⟨ob, ne h (fun _ z => by cases z) (fun _ z => by cases z)⟩)
  · exact .inr h
/-- the parts by the numbers of the variables -/
def PT (K : PySem.W.Frag) (H : Hp) (kvs pkvs : List (L2.Key × V)) (g : Nat → Option Kt) : Prop := ∀ n i : Nat, valV kvs (.inl (n : Int)) = some (.int (i : Int)) → (g n = none ∧ valV pkvs (.inl (i : Int)) = none) ∨ ∃ u a, g n = some u ∧ valV pkvs (.inl (i : Int)) = some (.ref a) ∧ SqT K H a u.enc
theorem PT.mono {K : PySem.W.Frag} {H H' : Hp} {kvs pkvs : List (L2.Key × V)} {g : Nat → Option Kt} (h : PT K H kvs pkvs g) (m : ∀ a xs, SqT K H a xs → SqT K H' a xs) : PT K H' kvs pkvs g := fun n i hi => by
  rcases h n i hi with h | ⟨u, a, h1, h2, h3⟩
  · exact .inl h
  · exact .inr ⟨u, a, h1, h2, m _ _ h3⟩
theorem PT.put {K : PySem.W.Frag} {H : Hp} {es : List V} {kvs pkvs : List (L2.Key × V)} {g : Nat → Option Kt} {n i : Nat} {s : Kt} {p : Addr} (h : PT K H kvs pkvs g) (v : GVar es kvs) (hn : valV kvs (.inl (n : Int)) = some (.int (i : Int))) (hp : SqT K H p s.enc) : PT K H kvs (putK pkvs (.inl (i : Int)) (.ref p)) (setG g n s) := fun m j hm => by
  by_cases e : j = i
  · subst e
    have em := v.inj m n _ hm hn
    subst em
    exact .inr ⟨s, p, by simp [setG], by rw [valV_put]; simp, hp⟩
  · have e2 : ¬ ((.inl (j : Int) : L2.Key) = .inl (i : Int)) := fun z => e (by have := Sum.inl.inj z; omega)
    have e4 : m ≠ n := fun z => by
      subst z
      rw [hn] at hm
      simp only [Option.some.injEq, V.int.injEq] at hm
      omega
    rw [valV_put, if_neg e2]
    have e3 : setG g n s m = g m := by simp [setG, e4]
    rw [e3]
    exact h m j hm
/-- all but d is kept -/
def OffD (d : Addr) (H H' : Hp) : Prop := ∀ a o, a ≠ d → H a = some o → H' a = some o
theorem OffD.refl (d : Addr) (H : Hp) : OffD d H H := fun _ _ _ h => h
theorem OffD.trans {d : Addr} {H H1 H2 : Hp} (a : OffD d H H1) (b : OffD d H1 H2) : OffD d H H2 := fun x o h1 h => b x o h1 (a x o h1 h)
theorem OffD.ex {d : Addr} {H H' : Hp} (e : Ex H H') : OffD d H H' := fun a o _ h => e a o h
theorem offD_sqt {K : PySem.W.Frag} {d : Addr} {H H' : Hp} (o : OffD d H H') {kv : List (L2.Key × V)} (hd : H d = some (.dK kv)) {a : Addr} {xs : List V} (h : SqT K H a xs) : SqT K H' a xs := by
  have ne : ∀ {u : HO}, H a = some u → (∀ k, u ≠ .dK k) → H' a = some u := fun {u} hu n2 => o a u (fun z => by rw [z, hd] at hu; exact n2 _ (Option.some.inj hu).symm) hu
  rcases h with (h | ⟨ob, h⟩) | h
  · exact .inl (.inl (ne h (fun _ z => by cases z)))
  · exact .inl (.inr ⟨ob, ne h (fun _ z => by cases z)⟩)
  · exact .inr h
end Ly
set_option Elab.async false
set_option linter.all false
set_option maxRecDepth 100000
/-! Ly: zip of two lists; comprehensions over a zip -/
namespace Ly
open PySem PySem.Spec PyProof.Rows L2 Evl
def iZipLL (K : PySem.W.Frag) (ta : TA) : TI := fun σ H R => ta σ H fun vs H1 => ∃ a b xs ys, vs = [.ref a, .ref b] ∧ SqL K H1 a xs ∧ SqL K H1 b ys ∧ R (ItzC (fun H xs => SqL K H a xs) (fun H ys => SqL K H b ys)) H1
theorem pi_zipL {X : Cx} {e e2 : Expr} {ta : TA} {p pos tpos : Pos} {elts : List Expr} {kk : Nat} (hg : Gl X "zip") (hm : X.mg "zip" = none) (ha : PA X [e, e2] ta)
    (hs : starEach [e, e2] X.env = (false, eval e X.env) :: starEach [e2] X.env := by rfl) (hpl : (backTo pos (starEach [e2] X.env)).any (·.1) = false := by rfl) :
    PI X (.Tuple elts kk tpos) (.Call (.Name "zip" p) [e, e2] [] pos) (iZipLL X.K ta) := ⟨fun pins s σ H R I h =>
  Call_ (ld_blt I hg hm PyProof.Rows.boot_zip (PyProof.Rows.callWith_type1 (thn (ha.run pos pins s σ H _ I h) fun us s1 ⟨vs, H1, J, rv, q⟩ => by
    obtain ⟨a, b, xs, ys, ev, hx, hy, q⟩ := q
    subst ev
    obtain ⟨u1, us1, e1, r1, rv1⟩ : ∃ u1 us1, us = u1 :: us1 ∧ RelV (.ref a) u1 ∧ Vals [.ref b] us1 := by
      cases rv with
      | cons r rr => exact ⟨_, _, rfl, r, rr⟩
    obtain ⟨u2, e2', r2⟩ := vals1 rv1
    subst e1 e2'
    cases r1
    cases r2
    obtain ⟨its, _, p1, _⟩ := J.list hx
    obtain ⟨its2, _, p2, _⟩ := J.list hy
    refine zip_begins2 (begins_list a its.toArray) (begins_list b its2.toArray) p1.isList p2.isList fun h' hz hI hO g1 g2 hsz hk => wpAny_pyIter_zip hz ?_
    have la := p1.lt
    have lb := p2.lt
    refine ⟨s1.heap.objs.size + 4, _, _, _, H1, rfl, J.kept (t' := s1.toks) hk, turn_zipC (zip_sep2 (N := s1.heap.objs.size) (fp1 := [a]) (fp2 := [b]) ?_ ?_) (src_lst (Nat.ne_of_lt la)) (src_lst (Nat.ne_of_lt (Nat.lt_succ_of_lt lb))), ⟨hz, hI, ⟨_, _, hO⟩, ⟨_, g1, rfl, rfl⟩, ⟨_, g2, rfl, rfl⟩⟩, fresh_cells J, q⟩
    · intro c hc
      rw [List.mem_singleton.mp hc]
      exact la
    · intro c hc
      rw [List.mem_singleton.mp hc]
      exact lb) hs hpl))⟩
section
variable {K : PySem.W.Frag} {σ : L2.St} {H : Hp} {Q : VK} {tA : TA} {R : It → Hp → Prop} {g : TG}
theorem w_iZL (h : tA σ H fun vs H1 => ∃ a b xs ys, vs = [.ref a, .ref b] ∧ SqL K H1 a xs ∧ SqL K H1 b ys ∧ R (ItzC (fun H xs => SqL K H a xs) (fun H ys => SqL K H b ys)) H1) : iZipLL K tA σ H R := h
theorem w_iZL1 {a b : Addr} {xs ys : List V} {B : Addr → Addr → Prop} (h : SqL K H a xs) (h2 : SqL K H b ys) (q : B a b) : ∃ a' b' us vs, [V.ref a, V.ref b] = [.ref a', .ref b'] ∧ SqL K H a' us ∧ SqL K H b' vs ∧ B a' b' := ⟨a, b, xs, ys, rfl, h, h2, q⟩
theorem lc_zipC {C1 C2 : Hp → List V → Prop} {xs ys : List V} {n : Nat} (hn : n = min xs.length ys.length) {tt : TT} {te : TE} {vs : List Nat} {H1 : Hp} {Dl : Addr} (Pv : Nat → Hp → Prop) (h0 : Pv 0 (upd H1 Dl (.lst []))) (hC : ∀ i H, Pv i H → C1 H xs ∧ C2 H ys)
    (hs : ∀ i x y T H, xs[i]? = some x → ys[i]? = some y → H T = none → Pv i H → g (.ref T) (wipe σ vs) (upd H T (.tup [x, y])) fun σ2 H2 => wipe σ2 vs = wipe σ vs ∧ tt σ2 H2 fun b H3 =>
      if b = true then te σ2 H3 fun y H4 => ∃ acc, H4 Dl = some (.lst acc) ∧ acc.length < sizeLine ∧ Pv (i + 1) (upd H4 Dl (.lst (acc ++ [y]))) else Pv (i + 1) H3) (hd : ∀ H, Pv n H → Q (.ref Dl) H) : LcB (ItzC C1 C2) g tt te vs Q σ H1 Dl := by
  refine ⟨fun i m H => m = n - i ∧ i ≤ n ∧ Pv i H, ⟨_, rfl, Nat.zero_le _, h0⟩, ?_⟩
  rintro i m H ⟨rfl, hi, p⟩
  obtain ⟨k1, k2⟩ := hC i H p
  by_cases hlt : i < n
  · have l1 : i < xs.length := by omega
    have l2 : i < ys.length := by omega
    refine .inr ⟨⟨xs, ys, xs[i], ys[i], k1, k2, List.getElem?_eq_getElem l1, List.getElem?_eq_getElem l2⟩, Pv (i + 1), fun H' p' => ⟨n - (i + 1), by omega, rfl, hlt, p'⟩, fun v H' hy => ?_⟩
    obtain ⟨T, x, y, e1, e2, e3, g1, g2⟩ := hy
    subst e1 e3
    exact hs i x y T H (g1 xs k1) (g2 ys k2) e2 p
  · have e : i = n := by omega
    subst e
    exact .inl ⟨⟨xs, ys, k1, k2, by omega, by omega, by omega⟩, hd H p⟩
end
end Ly
set_option Elab.async false
set_option linter.all false
set_option maxRecDepth 100000
set_option maxHeartbeats 8000000
namespace Ly
open PySem PySem.Spec PyProof.Rows L2 Evl
local macro_rules | `(tactic| walk_at "ne") => `(tactic| first
  | assumption
  | ((refine' Ne.symm ?hq); (case hq => assumption))
  | ((refine' ne_of_none ?nh1 ?nh2); (case nh2 => assumption); (case nh1 => walk_at "hp"))
  | ((refine' Ne.symm (ne_of_none ?nh1 ?nh2)); (case nh2 => assumption); (case nh1 => walk_at "hp")))
local macro_rules | `(tactic| walk_at "hp") => `(tactic| first
  | assumption
  | exact upd_same
  | ((refine' SqL.of ?hq); (case hq => walk_at "hp"))
  | ((refine' SqT.of ?hq); (case hq => walk_at "hp"))
  | ((refine' (upd_ne ?hne).trans ?hrest); (case hne => walk_at "ne"); (case hrest => walk_at "hp"))
  | ((refine' ly_at ?hex ?hh); (case hex => assumption); (case hh => walk_at "hp"))
  | ((refine' ly_atF ?hex ?hnn ?hh); (case hex => assumption); (case hh => walk_at "hp"); (case hnn => walk_at "ne"))
  | ((refine' ex_t ?hex ?hh); (case hh => assumption); (case hex => walk_at "ex"))
  | ((refine' ex_l ?hex ?hh); (case hh => assumption); (case hex => walk_at "ex")))
local macro_rules | `(tactic| walk_at "ex") => `(tactic| first
  | assumption
  | exact Ex.refl _
  | ((refine' ex_new ?xa ?xb); (case xb => assumption); (case xa => walk_at "ex"))
  | ((refine' ex_upd ?xa ?xb); (case xb => walk_at "free"); (case xa => walk_at "ex"))
  | ((refine' Ex.trans ?xa ?xb); (case xb => assumption); (case xa => walk_at "ex")))
local macro_rules | `(tactic| walk_at "free") => `(tactic| first
  | assumption
  | ((refine' fresh_back ?xa ?xb); (case xb => assumption); (case xa => walk_at "ex")))
local macro_rules | `(tactic| walk_at "fr") => `(tactic| first
  | assumption
  | exact Fr.refl _ _
  | ((refine' Fr.own ?hq); (case hq => walk_at "fr"))
  | ((refine' Fr.new ?xa ?xb); (case xb => assumption); (case xa => walk_at "fr"))
  | ((refine' Fr.mut ?xa ?xb); (case xb => assumption); (case xa => walk_at "fr"))
  | ((refine' Fr.trans ?xa ?xb); (case xb => assumption); (case xa => walk_at "fr"))
  | ((refine' Fr.trans ?xa (Fr.ex ?xb)); (case xb => assumption); (case xa => walk_at "fr")))
local macro_rules | `(tactic| walk_at "go1") => `(tactic| first
  | (with_reducible refine' w_seq ?_)
  | (with_reducible refine' w_asg ?_)
  | (with_reducible refine' w_ret ?_)
  | (with_reducible refine' w_drop ?_)
  | (with_reducible refine' w_if ?_)
  | (with_reducible refine' w_next ?_)
  | (with_reducible refine' w_name ?_)
  | (with_reducible refine' w_sub ?_)
  | ((with_reducible refine' w_var ?hv ?_); (case hv => exact rfl))
  | (with_reducible refine' w_c ?_)
  | (with_reducible refine' w_op ?_)
  | (with_reducible refine' w_un ?_)
  | (with_reducible refine' w_ch ?_)
  | (with_reducible refine' w_I0 ?_)
  | ((with_reducible refine' w_I ?hc ?_); (case hc => first | (exact ly_mulL (by decide) (by decide)) | (exact ly_mulR (by decide) (by decide)) | (exact ly_mulL (by omega) (by omega)) | (show (_ : Int) ≠ 0; decide) | (show (_ : Int) ≠ 0; omega) | (exact ⟨by decide, by decide⟩) | (exact ⟨by omega, by omega⟩)))
  | (with_reducible refine' w_U ?_)
  | ((with_reducible refine' w_eq ?hs ?_); (case hs => exact rfl))
  | ((with_reducible refine' w_ne ?hs ?_); (case hs => exact rfl))
  | (with_reducible refine' w_isB ?_)
  | (with_reducible refine' w_notB ?_)
  | (with_reducible refine' w_nil ?_)
  | (with_reducible refine' w_cons ?_)
  | (with_reducible refine' w_tup ?_)
  | (with_reducible refine' w_lst ?_)
  | (with_reducible refine' w_cb ?_)
  | (with_reducible refine' w_call ?_)
  | (with_reducible refine' w_bm ?_)
  | (with_reducible refine' w_bm0 ?_)
  | ((with_reducible refine' w_app ?hh ?hz ?_); (case hh => walk_at "hp"); (case hz => first | exact ly_lt (by omega) | exact ly_lt (by simp only [List.length_append, List.length_map, List.length_cons, List.length_nil]; omega)))
  | ((with_reducible refine' w_popA ?hh ?_); (case hh => walk_at "hp"))
  | ((with_reducible refine' w_ext ?hh ?hh2 ?hz ?_); (case hh => walk_at "hp"); (case hh2 => walk_at "hp"))
  | ((with_reducible refine' w_ixL ?hh ?ha ?_); (case hh => walk_at "hp"); (case ha => first | exact rfl | exact at_map (by omega) | exact atI_last _ _ | ((refine' at_of ?ae ?ah); (case ah => assumption); (case ae => omega))))
  | ((with_reducible refine' w_ixT ?hh ?ha ?_); (case hh => walk_at "hp"); (case ha => first | exact rfl | exact at_map (by omega) | exact atI_last _ _ | ((refine' at_of ?ae ?ah); (case ah => assumption); (case ae => omega))))
  | ((with_reducible refine' w_cat ?hh ?hh2 ?hz ?_); (case hh => walk_at "hp"); (case hh2 => walk_at "hp"))
  | ((with_reducible refine' w_setL ?hh ?ha ?_); (case hh => walk_at "hp"); (case ha => exact rfl))
  | (with_reducible refine' w_test ?_)
  | (with_reducible refine' w_tB ?_)
  | (with_reducible refine' w_bl ?_)
  | (with_reducible refine' w_and ?_)
  | (with_reducible refine' w_or ?_)
  | (with_reducible refine' w_not ?_)
  | (with_reducible refine' w_andV ?_)
  | (with_reducible refine' w_orV ?_)
  | (with_reducible refine' w_notV ?_)
  | (with_reducible refine' w_ifE ?_)
  | (with_reducible refine' w_for ?_)
  | ((with_reducible refine' w_nin ?hh ?_); (case hh => walk_at "hp"))
  | ((with_reducible refine' w_sorted ?hh ?_); (case hh => walk_at "hp"))
  | (with_reducible refine' w_tsadd ?_)
  | ((with_reducible refine' w_tsadd1 ?hh ?_); (case hh => walk_at "hp"))
  | ((with_reducible refine' w_sadd ?hh ?hr ?_); (case hh => walk_at "hp"); (case hr => omega))
  | (with_reducible refine' w_iZ ?_)
  | ((with_reducible refine' w_iZ1 ?hh ?hh2 ?_); (case hh => walk_at "hp"); (case hh2 => walk_at "hp"))
  | (with_reducible refine' w_iS ?_)
  | (with_reducible refine' w_iS1 ?_)
  | ((with_reducible refine' w_gtup ?hh ?hn ?_); (case hh => walk_at "hp"); (case hn => exact rfl))
  | (with_reducible refine' w_gcons ?_)
  | (with_reducible refine' w_gnil ?_)
  | (with_reducible refine' w_js ?_)
  | (with_reducible refine' w_jsn ?_)
  | ((with_reducible refine' w_js1 ?hl ?_); (case hl => decide +kernel))
  | (with_reducible refine' w_fmt ?_)
  | ((with_reducible refine' w_fmt1 ?hl ?_); (case hl => decide +kernel))
  | (with_reducible refine' w_callS ?_)
  | ((with_reducible refine' w_truL ?hh ?_); (case hh => walk_at "hp"))
  | (with_reducible refine' w_lc ?_)
  | (with_reducible refine' w_yes ?_)
  | ((with_reducible refine' w_wipe ?he ?_); (case he => exact rfl))
  | (with_reducible refine' w_iL ?_)
  | (with_reducible refine' w_iT ?_)
  | (with_reducible refine' w_iR ?_)
  | ((with_reducible refine' w_iL1 ?hh ?_); (case hh => walk_at "hp"))
  | ((with_reducible refine' w_iT1 ?hh ?_); (case hh => walk_at "hp"))
  | ((with_reducible refine' w_iR1 ?h1 ?h2 ?_); (case h1 => omega); (case h2 => omega))
  | ((with_reducible refine' w_aug ?hv ?_); (case hv => exact rfl))
  | (with_reducible refine' w_ipI ?_)
  | ((with_reducible refine' w_isi ?hy ?hk ?_); (case hy => walk_at "ty"); (case hk => walk_at "kit"))
  | ((with_reducible refine' w_int ?_))
  | ((with_reducible refine' w_intB ?_))
  | ((with_reducible refine' w_abs ?_))
  | ((with_reducible refine' w_lenL ?hh ?_); (case hh => walk_at "hp"))
  | ((with_reducible refine' w_lenT ?hh ?_); (case hh => walk_at "hp"))
  | ((with_reducible refine' w_tupL ?hh ?_); (case hh => walk_at "hp"))
  | ((with_reducible refine' w_tupT ?hh ?_); (case hh => walk_at "hp"))
  | ((with_reducible refine' w_catA ?hh ?hh2 ?hz ?_); (case hh => walk_at "hp"); (case hh2 => walk_at "hp"); (case hz => walk_at "len"))
  | ((with_reducible refine' w_repB ?hh ?hne ?h2 ?h3 ?hz ?_); (case hh => walk_at "hp"); (case hne => simp); (case h2 => omega); (case h3 => omega); (case hz => exact Nat.le_of_ble_eq_true rfl))
  | ((with_reducible refine' w_eqN ?hh ?hh2 ?n1 ?n2 ?_); (case hh => walk_at "hp"); (case hh2 => walk_at "hp"); (case n1 => walk_at "nd"); (case n2 => walk_at "nd"))
  | ((with_reducible refine' w_neN ?hh ?hh2 ?n1 ?n2 ?_); (case hh => walk_at "hp"); (case hh2 => walk_at "hp"); (case n1 => walk_at "nd"); (case n2 => walk_at "nd"))
  | ((with_reducible refine' w_eqL ?hh ?hh2 ?n1 ?n2 ?_); (case hh => walk_at "hp"); (case hh2 => walk_at "hp"); (case n1 => walk_at "nd"); (case n2 => walk_at "nd"))
  | ((with_reducible refine' w_neL ?hh ?hh2 ?n1 ?n2 ?_); (case hh => walk_at "hp"); (case hh2 => walk_at "hp"); (case n1 => walk_at "nd"); (case n2 => walk_at "nd"))
  | ((with_reducible refine' w_neNon ?hh2 ?n2 ?_); (case hh2 => walk_at "hp"); (case n2 => walk_at "nd"))
  | ((with_reducible refine' w_eqNon ?hh2 ?n2 ?_); (case hh2 => walk_at "hp"); (case n2 => walk_at "nd"))
  | ((with_reducible refine' w_slA ?hh ?_); (case hh => walk_at "hp"))
  | ((with_reducible refine' w_disp ?hz ?_); (case hz => exact sz_of (Nat.le_of_ble_eq_true rfl)))
  | ((with_reducible refine' w_tyL ?hh ?_); (case hh => walk_at "hp"))
  | (with_reducible refine' iteT ?_)
  | (with_reducible refine' iteF ?_)
  | (with_reducible refine' w_nT ?_)
  | (with_reducible refine' w_nn ?_)
  | (with_reducible refine' w_nnT ?_)
  | (with_reducible refine' w_nnR ?_)
  | (with_reducible refine' w_neG ?_)
  | (with_reducible refine' w_eqG ?_)
  | (with_reducible refine' w_neS ?_)
  | (with_reducible refine' w_eqS ?_)
  | (with_reducible refine' w_neSb ?_)
  | (with_reducible refine' w_eqSb ?_)
  | (with_reducible refine' w_deIS ?_)
  | (with_reducible refine' w_deSI ?_)
  | (with_reducible refine' w_deISn ?_)
  | ((with_reducible refine' w_deST ?he ?_); (case he => decide +kernel))
  | ((with_reducible refine' w_deSF ?he ?_); (case he => decide +kernel))
  | ((with_reducible refine' w_deSTn ?he ?_); (case he => decide +kernel))
  | ((with_reducible refine' w_deSFn ?he ?_); (case he => decide +kernel))
  | (with_reducible refine' w_nF ?_)
  | dsimp only [Bool.not_true, Bool.not_false])
local macro_rules | `(tactic| walk_at "ty") => `(tactic| first
  | exact .base (.int _) | exact .base (.str _) | exact .base (.bl _) | exact .base .non
  | ((refine' tyx_t ?hq); (case hq => walk_at "hp")) | ((refine' tyx_l ?hq); (case hq => walk_at "hp")) | ((refine' .base (.tup ?hq)); (case hq => walk_at "hp")) | assumption)
local macro_rules | `(tactic| walk_at "go") => `(tactic| repeat walk_at "go1")
local macro_rules | `(tactic| walk_at "st") => `(tactic| try dsimp only [cxOf, Cx.nox, Cx.wish])
local macro_rules | `(tactic| walk_at "kit") => `(tactic| with_reducible first | exact kit_int_int | exact kit_int_str | exact kit_int_bool | exact kit_int_tuple | exact kit_int_list | exact kit_str_int | exact kit_str_str | exact kit_str_bool | exact kit_str_tuple | exact kit_str_list | exact kit_bool_int | exact kit_bool_str | exact kit_bool_bool | exact kit_bool_tuple | exact kit_bool_list | exact kit_NoneType_int | exact kit_NoneType_str | exact kit_NoneType_bool | exact kit_NoneType_tuple | exact kit_NoneType_list | exact kit_list_int | exact kit_list_str | exact kit_list_bool | exact kit_list_tuple | exact kit_list_list | exact kit_tuple_int | exact kit_tuple_str | exact kit_tuple_bool | exact kit_tuple_tuple | exact kit_tuple_list)
local macro_rules | `(tactic| walk_at "nd") => `(tactic| first
  | assumption
  | exact Tm.nds _
  | exact Nds.nil
  | exact Nds.ofInts _
  | ((refine' Nds.cons ?na ?nb); (case na => first | exact Nds.I _ | exact Nds.L | exact Nds.A); (case nb => walk_at "nd"))
  | ((refine' Nds.app ?na ?nb); (case na => walk_at "nd"); (case nb => walk_at "nd"))
  | ((refine' Nds.rep ?na _); (case na => walk_at "nd")))
local macro_rules | `(tactic| walk_at "len") => `(tactic| first
  | exact ly_sz (by omega)
  | ((simp only [List.length_append, List.length_cons, List.length_nil, List.length_map, PyProof.Rows.lm_len_rep_flat]); exact ly_sz (by omega)))
local macro_rules | `(tactic| walk_at "go1") => `(tactic| first
  | (with_reducible refine' w_kget2 ?_)
  | (with_reducible refine' w_isRN ?_)
  | (with_reducible refine' w_isNN ?_)
  | (with_reducible refine' w_isIN ?_)
  | ((with_reducible refine' w_kg ?hd ?_); (case hd => assumption)))
local macro_rules | `(tactic| walk_at "go1") => `(tactic| first
  | ((with_reducible refine' w_extT ?hh ?hh2 ?hz ?_); (case hh => walk_at "hp"); (case hh2 => walk_at "hp"))
  | ((with_reducible refine' w_I ?hc ?_); (case hc => exact ⟨by decide, by decide, by decide⟩))
  | (with_reducible refine' w_sl ?_)
  | (with_reducible refine' w_noP ?_)
  | (with_reducible refine' w_part ?_)
  | (with_reducible refine' w_part1 ?_)
  | (with_reducible refine' w_it ?_)
  | (with_reducible refine' w_it1 ?_)
  | ((with_reducible refine' w_lenZ ?hz ?_); (case hz => omega))
  | ((with_reducible refine' w_addZb ?hz ?_); (case hz => omega))
  | ((with_reducible refine' w_addZf ?hz ?_); (case hz => omega))
  | ((with_reducible refine' w_addZa ?hz ?_); (case hz => omega))
  | ((with_reducible refine' w_inS ?hh ?_); (case hh => walk_at "hp"))
  | ((with_reducible refine' w_ixT ?hh ?ha ?_); (case hh => assumption); (case ha => exact atI_nat (by assumption))))
def topS (i : Nat) : Stmt := PySem.Challenge.pw_lydite_k70_renamed_and_instances.main.body.getD i (.Pass ⟨0, 0, 0, 0⟩)
abbrev s_wall : Stmt := topS 0
abbrev N_wall : List Str := ["k"]
theorem sc_wall : FnScope ["k"] ["k"] (defScope s_wall) := ⟨rfl, rfl, rfl, by decide +kernel, rfl, by decide +kernel, by decide +kernel⟩
abbrev s_part_count : Stmt := topS 3
abbrev N_part_count : List Str := ["node"]
theorem sc_part_count : FnScope ["node"] ["node"] (defScope s_part_count) := ⟨rfl, rfl, rfl, by decide +kernel, rfl, by decide +kernel, by decide +kernel⟩
abbrev s_end_of : Stmt := topS 5
abbrev N_end_of : List Str := ["term", "start", "missing", "end"]
theorem sc_end_of : FnScope ["term", "start", "missing", "end"] ["term", "start"] (defScope s_end_of) := ⟨rfl, rfl, rfl, by decide +kernel, rfl, by decide +kernel, by decide +kernel⟩
abbrev s_renamed : Stmt := topS 9
abbrev N_renamed : List Str := ["kinds", "numbers", "found", "kind", "nodes", "node"]
theorem sc_renamed : FnScope ["kinds", "numbers", "found", "kind", "nodes", "node"] ["kinds"] (defScope s_renamed) := ⟨rfl, rfl, rfl, by decide +kernel, rfl, by decide +kernel, by decide +kernel⟩
abbrev s_are_general : Stmt := topS 10
abbrev N_are_general : List Str := ["graph", "nodes", "kinds", "parts", "node", "kind"]
theorem sc_are_general : FnScope ["graph", "nodes", "kinds", "parts", "node", "kind"] ["graph", "nodes", "kinds"] (defScope s_are_general) := ⟨rfl, rfl, rfl, by decide +kernel, rfl, by decide +kernel, by decide +kernel⟩
abbrev s_is_instance : Stmt := topS 11
abbrev N_is_instance : List Str := ["general", "special", "graph", "variables", "nodes", "kind"]
theorem sc_is_instance : FnScope ["general", "special", "graph", "variables", "nodes", "kind"] ["general", "special"] (defScope s_is_instance) := ⟨rfl, rfl, rfl, by decide +kernel, rfl, by decide +kernel, by decide +kernel⟩
abbrev s_law_stream : Stmt := topS 13
abbrev N_law_stream : List Str := ["script", "mixed", "cell"]
theorem sc_law_stream : FnScope ["script", "mixed", "cell"] ["script"] (defScope s_law_stream) := ⟨rfl, rfl, rfl, by decide +kernel, rfl, by decide +kernel, by decide +kernel⟩
abbrev s_law_draw : Stmt := topS 14
abbrev N_law_draw : List Str := ["stream", "many", "value"]
theorem sc_law_draw : FnScope ["stream", "many", "value"] ["stream", "many"] (defScope s_law_draw) := ⟨rfl, rfl, rfl, by decide +kernel, rfl, by decide +kernel, by decide +kernel⟩
abbrev s_law_kind : Stmt := topS 15
abbrev N_law_kind : List Str := ["stream", "size", "many", "nodes", "missing"]
theorem sc_law_kind : FnScope ["stream", "size", "many", "nodes", "missing"] ["stream", "size", "many"] (defScope s_law_kind) := ⟨rfl, rfl, rfl, by decide +kernel, rfl, by decide +kernel, by decide +kernel⟩
abbrev s_law_replaced : Stmt := topS 16
abbrev N_law_replaced : List Str := ["kind", "table", "nodes", "node"]
theorem sc_law_replaced : FnScope ["kind", "table", "nodes", "node"] ["kind", "table"] (defScope s_law_replaced) := ⟨rfl, rfl, rfl, by decide +kernel, rfl, by decide +kernel, by decide +kernel⟩
abbrev s_law_seen : Stmt := topS 17
abbrev N_law_seen : List Str := ["table", "kind"]
theorem sc_law_seen : FnScope ["table", "kind"] ["table", "kind"] (defScope s_law_seen) := ⟨rfl, rfl, rfl, by decide +kernel, rfl, by decide +kernel, by decide +kernel⟩
abbrev s_law_inside : Stmt := topS 18
abbrev N_law_inside : List Str := ["table", "number", "kind"]
theorem sc_law_inside : FnScope ["table", "number", "kind"] ["table", "number", "kind"] (defScope s_law_inside) := ⟨rfl, rfl, rfl, by decide +kernel, rfl, by decide +kernel, by decide +kernel⟩
abbrev s_law_join : Stmt := topS 19
abbrev N_law_join : List Str := ["table", "left", "right"]
theorem sc_law_join : FnScope ["table", "left", "right"] ["table", "left", "right"] (defScope s_law_join) := ⟨rfl, rfl, rfl, by decide +kernel, rfl, by decide +kernel, by decide +kernel⟩
abbrev s_law_flat_kind : Stmt := topS 20
abbrev N_law_flat_kind : List Str := ["table", "kind"]
theorem sc_law_flat_kind : FnScope ["table", "kind"] ["table", "kind"] (defScope s_law_flat_kind) := ⟨rfl, rfl, rfl, by decide +kernel, rfl, by decide +kernel, by decide +kernel⟩
abbrev s_law_renamed : Stmt := topS 21
abbrev N_law_renamed : List Str := ["rows", "numbers", "found", "row", "nodes", "node"]
theorem sc_law_renamed : FnScope ["rows", "numbers", "found", "row", "nodes", "node"] ["rows"] (defScope s_law_renamed) := ⟨rfl, rfl, rfl, by decide +kernel, rfl, by decide +kernel, by decide +kernel⟩
abbrev s_law_nested_kind : Stmt := topS 22
abbrev N_law_nested_kind : List Str := ["kind", "at", "left", "middle", "right", "end"]
theorem sc_law_nested_kind : FnScope ["kind", "at", "left", "middle", "right", "end"] ["kind", "at"] (defScope s_law_nested_kind) := ⟨rfl, rfl, rfl, by decide +kernel, rfl, by decide +kernel, by decide +kernel⟩
abbrev s_law_kind_end : Stmt := topS 23
abbrev N_law_kind_end : List Str := ["kind", "at", "missing"]
theorem sc_law_kind_end : FnScope ["kind", "at", "missing"] ["kind", "at"] (defScope s_law_kind_end) := ⟨rfl, rfl, rfl, by decide +kernel, rfl, by decide +kernel, by decide +kernel⟩
abbrev s_law_is_instance : Stmt := topS 24
abbrev N_law_is_instance : List Str := ["general", "special", "table", "k", "at", "node", "end"]
theorem sc_law_is_instance : FnScope ["general", "special", "table", "k", "at", "node", "end"] ["general", "special"] (defScope s_law_is_instance) := ⟨rfl, rfl, rfl, by decide +kernel, rfl, by decide +kernel, by decide +kernel⟩
abbrev s_law : Stmt := topS 25
abbrev N_law : List Str := ["script", "stream", "many", "rows", "k", "far", "row", "given", "actual", "spoilt", "table", "node", "other", "pick", "at", "kept", "told"]
theorem sc_law : FnScope ["script", "stream", "many", "rows", "k", "far", "row", "given", "actual", "spoilt", "table", "node", "other", "pick", "at", "kept", "told"] ["script"] (defScope s_law) := ⟨rfl, rfl, rfl, by decide +kernel, rfl, by decide +kernel, by decide +kernel⟩
abbrev s_KindGraph_init : Stmt := inClass (topS 7) 0
abbrev N_KindGraph_init : List Str := ["self"]
theorem sc_KindGraph_init : FnScope ["self"] ["self"] (defScope s_KindGraph_init) := ⟨rfl, rfl, rfl, by decide +kernel, rfl, by decide +kernel, by decide +kernel⟩
abbrev s_KindGraph_new_node : Stmt := inClass (topS 7) 1
abbrev N_KindGraph_new_node : List Str := ["self", "sides"]
theorem sc_KindGraph_new_node : FnScope ["self", "sides"] ["self", "sides"] (defScope s_KindGraph_new_node) := ⟨rfl, rfl, rfl, by decide +kernel, rfl, by decide +kernel, by decide +kernel⟩
abbrev s_KindGraph_loaded : Stmt := inClass (topS 7) 2
abbrev N_KindGraph_loaded : List Str := ["self", "kind", "variables", "pending", "node", "left"]
theorem sc_KindGraph_loaded : FnScope ["self", "kind", "variables", "pending", "node", "left"] ["self", "kind", "variables"] (defScope s_KindGraph_loaded) := ⟨rfl, rfl, rfl, by decide +kernel, rfl, by decide +kernel, by decide +kernel⟩
abbrev s_KindGraph_chief : Stmt := inClass (topS 7) 3
abbrev N_KindGraph_chief : List Str := ["self", "node"]
theorem sc_KindGraph_chief : FnScope ["self", "node"] ["self", "node"] (defScope s_KindGraph_chief) := ⟨rfl, rfl, rfl, by decide +kernel, rfl, by decide +kernel, by decide +kernel⟩
abbrev s_KindGraph_unite : Stmt := inClass (topS 7) 4
abbrev N_KindGraph_unite : List Str := ["self", "first", "second"]
theorem sc_KindGraph_unite : FnScope ["self", "first", "second"] ["self", "first", "second"] (defScope s_KindGraph_unite) := ⟨rfl, rfl, rfl, by decide +kernel, rfl, by decide +kernel, by decide +kernel⟩
abbrev s_KindGraph_sides_of : Stmt := inClass (topS 7) 5
abbrev N_KindGraph_sides_of : List Str := ["self", "node", "side"]
theorem sc_KindGraph_sides_of : FnScope ["self", "node", "side"] ["self", "node"] (defScope s_KindGraph_sides_of) := ⟨rfl, rfl, rfl, by decide +kernel, rfl, by decide +kernel, by decide +kernel⟩
abbrev s_KindGraph_ordered : Stmt := inClass (topS 7) 6
abbrev N_KindGraph_ordered : List Str := ["self"]
theorem sc_KindGraph_ordered : FnScope ["self"] ["self"] (defScope s_KindGraph_ordered) := ⟨rfl, rfl, rfl, by decide +kernel, rfl, by decide +kernel, by decide +kernel⟩
abbrev s_KindGraph_sizes : Stmt := inClass (topS 7) 7
abbrev N_KindGraph_sizes : List Str := ["self"]
theorem sc_KindGraph_sizes : FnScope ["self"] ["self"] (defScope s_KindGraph_sizes) := ⟨rfl, rfl, rfl, by decide +kernel, rfl, by decide +kernel, by decide +kernel⟩
abbrev s_KindGraph_written : Stmt := inClass (topS 7) 8
abbrev N_KindGraph_written : List Str := ["self", "node"]
theorem sc_KindGraph_written : FnScope ["self", "node"] ["self", "node"] (defScope s_KindGraph_written) := ⟨rfl, rfl, rfl, by decide +kernel, rfl, by decide +kernel, by decide +kernel⟩
abbrev s_KindGraph_is_general : Stmt := inClass (topS 7) 9
abbrev N_KindGraph_is_general : List Str := ["self", "node", "kind", "parts", "at", "pending", "current", "end"]
theorem sc_KindGraph_is_general : FnScope ["self", "node", "kind", "parts", "at", "pending", "current", "end"] ["self", "node", "kind", "parts"] (defScope s_KindGraph_is_general) := ⟨rfl, rfl, rfl, by decide +kernel, rfl, by decide +kernel, by decide +kernel⟩
structure Txt (w : World) (K : PySem.W.Frag) (mg : Str → Option Value) (tk : Nat → Tok) (cl : Nat → Addr) : Prop where
  n_int : mg "int" = none
  n_list : mg "list" = none
  n_len : mg "len" = none
  n_abs : mg "abs" = none
  n_isinstance : mg "isinstance" = none
  n_tuple : mg "tuple" = none
  n_range : mg "range" = none
  n_zip : mg "zip" = none
  n_reversed : mg "reversed" = none
  n_all : mg "all" = none
  n_bool : mg "bool" = none
  g_PART_COUNTS : mg "PART_COUNTS" = some (.ref (cl 40))
  d_PART_COUNTS : KD K w (cl 40) [("lam", .int 1), ("app", .int 2), ("to", .int 2)]
  g_KindGraph : mg "KindGraph" = some (.ref (cl 23))
  pg_KindGraph : PySem.W.plainGet K (cl 23) Str.empty = true
  hd_KindGraph : PySem.W.hasDictIn K (cl 23) = true
  po_KindGraph : PySem.W.plainOver K (cl 23) = true
  sa_KindGraph : PySem.W.findIn K (.ref (cl 23)) "__setattr__" = some (some (.builtin "object.__setattr__"))
  mk_KindGraph : PySem.W.makesIn K (cl 23) = true
  kc_KindGraph : PySem.W.keepIn K (.ref (cl 23)) = true
  nf_KindGraph_chiefs : PySem.W.findIn K (.ref (cl 23)) "chiefs" = some none
  nf_KindGraph_sides : PySem.W.findIn K (.ref (cl 23)) "sides" = some none
theorem Txt.cls_KindGraph {w : World} {K : PySem.W.Frag} {mg : Str → Option Value} {tk : Nat → Tok} {cl : Nat → Addr} (T : Txt w K mg tk cl) : Cls K (cl 23) := ⟨T.pg_KindGraph, T.hd_KindGraph, T.po_KindGraph, T.sa_KindGraph⟩
section
variable {P : Program} {w : World} {K : PySem.W.Frag} {mg : Str → Option Value} {base : Heap} {tk : Nat → Tok} {cl : Nat → Addr}
/-! ### the stream's start, a draw -/
def spStream (K : PySem.W.Frag) : Sp := fun vs H Q _ => ∃ (a : Addr) (ns : List Int), vs = [.ref a] ∧ SqL K H a (ns.map V.int) ∧ ns.length ≤ 63 ∧ ∀ H' p l, Ex H H' → H p = none → StAt H' p ⟨l, ns, 0, 0, mixOf ns⟩ → Q (.ref p) H'
theorem ok_stream {f : Addr} {fd : FuncData} {k : Nat} (F : Fun K "_law_stream" "_law_stream" s_law_stream f fd) (T : Txt w K mg tk cl) : FnOk P w K mg base CX0 (k + 1) f fd ["script"] (spStream K) := by
  refine F.ok sc_law_stream (fun vs H Q E h => ?_) (fun cdv A outer s H vs Q E hr h => ?_)
  · obtain ⟨a, ns, rfl, _⟩ := h
    rfl
  · obtain ⟨a, ns, rfl, hS, hlen, q⟩ := h
    refine ⟨_, (pss_cons (ps_set (i := 1) sc_law_stream.nd rfl (.inl rfl) pe_int) (pss_cons (ps_for PassesOwn.never rfl (pi_list (pv 0)) (pg_name (i := 2) sc_law_stream.nd rfl (.inl rfl)) (pss_one (ps_set (i := 1) sc_law_stream.nd rfl (.inl rfl) (pe_op op_modN (pe_callTy call_int1 (by rfl) T.n_int (by decide +kernel) (pa_cons (pe_op op_add (pe_op op_add (pe_op op_mul (pv 1) pe_int) (pe_op op_modN (pe_callTy call_int1 (by rfl) T.n_int (by decide +kernel) (pa_cons (pv 2) pa_nil)) pe_int)) pe_int) pa_nil)) pe_int)))) (pss_one (ps_ret (pe_lst (pa_cons (pe_callTy call_list_of (by rfl) T.n_list (by decide +kernel) (pa_cons (pv 0) pa_nil)) (pa_cons pe_int (pa_cons pe_int (pa_cons (pv 1) pa_nil))))))))), ?_⟩
    refine sl_of (σ2 := [some _, none, none]) rfl ?_
    walk_at "st"
    walk_at "go"
    refine for_list (K := K) (a := a) (xs := ns.map V.int) (fun i σ H' => H' = H ∧ ∃ y, σ = [some (.ref a), some (.int (mixOf (ns.take i))), y]) ⟨rfl, none, rfl⟩ (fun i σ H' _ e => by rw [e.1]; exact hS) ?_ ?_
    · rintro i x σ H' hi ⟨rfl, y, rfl⟩
      obtain ⟨z, hz, rfl⟩ := get_int hi
      walk_at "go"
      exact ⟨rfl, _, by rw [mixOf_take hz]; rfl⟩
    · rintro σ H' ⟨rfl, y, rfl⟩
      walk_at "go"
      intro l hl
      walk_at "go"
      intro p hp
      rw [List.take_of_length_le (by simp)]
      refine q _ _ l ?_ ?_ ⟨?_, ?_, ?_⟩
      · walk_at "ex"
      · walk_at "free"
      · walk_at "ne"
      · walk_at "hp"
      · walk_at "hp"
def spDraw : Sp := fun vs H Q _ => ∃ (s : Addr) (m : Stm) (n : Int), vs = [.ref s, .int n] ∧ StAt H s m ∧ 0 < n ∧ n < 1073741824 ∧ ∀ H', Fr s H H' → StAt H' s (m.next n) → Q (.int (m.val n)) H'
theorem ok_draw {f : Addr} {fd : FuncData} {k : Nat} (F : Fun K "_law_draw" "_law_draw" s_law_draw f fd) (T : Txt w K mg tk cl) : FnOk P w K mg base CX0 (k + 1) f fd ["stream", "many"] spDraw := by
  refine F.ok sc_law_draw (fun vs H Q E h => ?_) (fun cdv A outer s H vs Q E hr h => ?_)
  · obtain ⟨a, m, n, rfl, _⟩ := h
    rfl
  · obtain ⟨a, m, n, rfl, ⟨hla, ha, hl⟩, n0, n1, q⟩ := h
    refine ⟨_, (pss_cut (ps_if (PW.pt (pw_and (pt_cmpR op_eq (pe_ix ix_list (pv 0) pe_int (fun _ _ => rfl)) pe_int (nomark _)) (pw_and1 (pt_cmpR op_lt (pe_ix ix_list (pv 0) pe_int (fun _ _ => rfl)) (pe_callB call_len_seq (by rfl) T.n_len (by decide +kernel) (pa_cons (pe_ix ix_list (pv 0) pe_int (fun _ _ => rfl)) pa_nil)) (nomark _))))) (pss_cons (ps_asg (pe_callB call_abs (by rfl) T.n_abs (by decide +kernel) (pa_cons (pe_callTy call_int1 (by rfl) T.n_int (by decide +kernel) (pa_cons (pe_ix ix_list (pe_ix ix_list (pv 0) pe_int (fun _ _ => rfl)) (pe_ix ix_list (pv 0) pe_int (fun _ _ => rfl)) (fun _ _ => rfl)) pa_nil)) pa_nil)) (pg_sub (pv 0) pe_int set_list)) (pss_one (ps_asg (pe_op op_add (pe_ix ix_list (pv 0) pe_int (fun _ _ => rfl)) pe_int) (pg_sub (pv 0) pe_int set_list)))) pss_nil) (pss_cons (ps_if (pt_cmpR op_eq (pe_ix ix_list (pv 0) pe_int (fun _ _ => rfl)) pe_int (nomark _)) (pss_cons (ps_asg (pe_op op_modN (pe_callTy call_int1 (by rfl) T.n_int (by decide +kernel) (pa_cons (pe_op op_add (pe_op op_mul (pe_ix ix_list (pv 0) pe_int (fun _ _ => rfl)) pe_int) pe_int) pa_nil)) pe_int) (pg_sub (pv 0) pe_int set_list)) (pss_one (ps_ret (pe_op op_modN (pe_callTy call_int1 (by rfl) T.n_int (by decide +kernel) (pa_cons (pe_op op_fdivN (pe_ix ix_list (pv 0) pe_int (fun _ _ => rfl)) pe_int) pa_nil)) (pv 1))))) pss_nil) (pss_cons (ps_set (i := 2) sc_law_draw.nd rfl (.inl rfl) (pe_op op_modN (pe_callTy call_int1 (by rfl) T.n_int (by decide +kernel) (pa_cons (pe_ix ix_list (pv 0) pe_int (fun _ _ => rfl)) pa_nil)) (pv 1))) (pss_cons (ps_asg (pe_op op_fdivN (pe_ix ix_list (pv 0) pe_int (fun _ _ => rfl)) (pv 1)) (pg_sub (pv 0) pe_int set_list)) (pss_one (ps_ret (pv 2))))))), ?_⟩
    refine sl_of (σ2 := [some _, some _, none]) rfl ?_
    walk_at "st"
    walk_at "go"
    refine w_cut (M := fun σ' H' => σ' = [some (.ref a), some (.int n), none] ∧ Fr a H H' ∧ H' a = some (.lst [.ref m.home, .int m.take.cur, .int m.take.pos, .int m.take.mix]) ∧ H' m.home = some (.lst (m.cells.map V.int))) ?_ ?_
    · walk_at "go"
      refine w_brI (fun hc => ?_) (fun hc => ?_)
      · walk_at "go"
        refine w_br (fun hp => ?_) (fun hp => ?_)
        · rw [List.length_map] at hp
          have hp2 : m.pos < m.cells.length := by omega
          have e : m.take = { m with cur := (if m.cells.getD m.pos 0 < 0 then -(m.cells.getD m.pos 0) else m.cells.getD m.pos 0), pos := m.pos + 1 } := if_pos ⟨hc, hp2⟩
          walk_at "go"
          refine ⟨rfl, ?_, ?_, ?_⟩
          · walk_at "fr"
          · rw [e]
            exact upd_same
          · walk_at "hp"
        · rw [List.length_map] at hp
          have e : m.take = m := if_neg (fun z => hp (by omega))
          walk_at "go"
          rw [e]
          exact ⟨rfl, Fr.refl _ _, ha, hl⟩
      · have e : m.take = m := if_neg (fun z => hc z.1)
        walk_at "go"
        rw [e]
        exact ⟨rfl, Fr.refl _ _, ha, hl⟩
    · rintro σ' H' ⟨rfl, fr, ea, el⟩
      walk_at "go"
      refine w_brI (fun hc => ?_) (fun hc => ?_)
      · walk_at "go"
        have e1 : m.next n = m.take.turn := if_pos hc
        have e2 : m.val n = (m.take.turn.mix.fdiv 97).fmod n := if_pos hc
        rw [e1, e2] at q
        refine q _ ?_ ⟨?_, ?_, ?_⟩
        · walk_at "fr"
        · show m.take.home ≠ a
          rw [m.take_home]
          exact hla
        · show _ = some (HO.lst [.ref m.take.home, _, _, _])
          rw [upd_same, m.take_home]
          rfl
        · show _ = some (HO.lst (List.map V.int m.take.cells))
          rw [m.take_cells]
          show upd _ a _ m.take.home = _
          rw [m.take_home]
          walk_at "hp"
      · walk_at "go"
        have e1 : m.next n = { m.take with cur := m.take.cur.fdiv n } := if_neg hc
        have e2 : m.val n = m.take.cur.fmod n := if_neg hc
        rw [e1, e2] at q
        refine q _ ?_ ⟨?_, ?_, ?_⟩
        · walk_at "fr"
        · show m.take.home ≠ a
          rw [m.take_home]
          exact hla
        · show _ = some (HO.lst [.ref m.take.home, _, _, _])
          rw [upd_same, m.take_home]
          rfl
        · show _ = some (HO.lst (List.map V.int m.take.cells))
          rw [m.take_cells]
          show upd _ a _ m.take.home = _
          rw [m.take_home]
          walk_at "hp"
def spKind (K : PySem.W.Frag) : Sp := fun vs H Q _ => ∃ (s : Addr) (m : Stm) (size many : Nat), vs = [.ref s, .int (size : Int), .int (many : Int)] ∧ StAt H s m ∧ 1 ≤ size ∧ size ≤ 1000000 ∧ 1 ≤ many ∧ many ≤ 1000000 ∧
  ∀ H' p m' (t : Kt), Fr s H H' → StAt H' s m' → Fol m m' → SqT K H' p t.enc → t.lt many → t.enc.length ≤ size → Q (.ref p) H'
def KInv (a nl : Addr) (H : Hp) (size many : Nat) (m : Stm) (n : Nat) (σ : L2.St) (H' : Hp) : Prop := ∃ (m' : Stm) (nodes : List V) (k : Nat), σ = [some (.ref a), some (.int (size : Int)), some (.int (many : Int)), some (.ref nl), some (.int (k : Int))] ∧ Fr a H H' ∧ StAt H' a m' ∧ Fol m m' ∧ H' nl = some (.lst nodes) ∧
  KComp many nodes k ∧ nodes.length + k ≤ size ∧ nodes.length = n
theorem ok_kind {f : Addr} {fd : FuncData} (F : Fun K "_law_kind" "_law_kind" s_law_kind f fd) (T : Txt w K mg tk cl)
    (D1 : Def P w K mg base CX0 1 "_law_draw" ["stream", "many"] spDraw) : FnOk P w K mg base CX0 2 f fd ["stream", "size", "many"] (spKind K) := by
  obtain ⟨f1, fd1, g_law_draw, kp_law_draw, b_law_draw, G_law_draw⟩ := D1
  refine F.ok sc_law_kind (fun vs H Q E h => ?_) (fun cdv A outer s H vs Q E hr h => ?_)
  · obtain ⟨a, m, n1, n2, rfl, _⟩ := h
    rfl
  · obtain ⟨a, m, size, many, rfl, hst, hs1, hs2, hw1, hw, q⟩ := h
    refine ⟨_, (pss_cons (ps_set (i := 3) sc_law_kind.nd rfl (.inl rfl) (pe_lst pa_nil)) (pss_cons (ps_set (i := 4) sc_law_kind.nd rfl (.inl rfl) pe_int) (pss_cons (ps_while PassesOwn.never (pt_cmpR op_gt (pv 4) pe_int (nomark _)) (pss_cons (ps_set (i := 4) sc_law_kind.nd rfl (.inl rfl) (pe_op op_sub (pv 4) pe_int)) (pss_one (ps_if (PW.pt (pw_and (pt_cmpR op_gt (pe_op op_sub (pe_op op_sub (pe_op op_sub (pv 1) (pe_callB call_len_seq (by rfl) T.n_len (by decide +kernel) (pa_cons (pv 3) pa_nil))) (pv 4)) pe_int) pe_int (nomark _)) (pw_and1 (pt_cmpR op_eq (pe_call G_law_draw (hr.mono (by first | decide | omega)) (by rfl) g_law_draw kp_law_draw b_law_draw .nil pass0 (pa_cons (pv 0) (pa_cons pe_int pa_nil))) pe_int (nomark _))))) (pss_cons (ps_expr (pe_bm PySem.F.plainAttrs_list PySem.F.slot_list_append PySem.F.type_list_append mt_append (pv 3) (pa_cons pe_str pa_nil))) (pss_one (ps_set (i := 4) sc_law_kind.nd rfl (.inl rfl) (pe_op op_add (pv 4) pe_int)))) (pss_one (ps_expr (pe_bm PySem.F.plainAttrs_list PySem.F.slot_list_append PySem.F.type_list_append mt_append (pv 3) (pa_cons (pe_call G_law_draw (hr.mono (by first | decide | omega)) (by rfl) g_law_draw kp_law_draw b_law_draw .nil pass0 (pa_cons (pv 0) (pa_cons (pv 2) pa_nil))) pa_nil)))))))) (pss_one (ps_ret (pe_callTy call_tuple_of (by rfl) T.n_tuple (by decide +kernel) (pa_cons (pv 3) pa_nil))))))), ?_⟩
    refine sl_of (σ2 := [some _, some _, some _, none, none]) rfl ?_
    walk_at "st"
    walk_at "go"
    intro nl hnl
    obtain ⟨hna, hnh⟩ := hst.ne hnl
    walk_at "go"
    refine w_while (fun k σ' H' => ∃ n, KInv a nl H size many m n σ' H' ∧ k = size + 1 - n) (size + 1) ⟨0, ⟨m, [], 1, rfl, by walk_at "fr", hst.new hnl, Fol.refl _, upd_same, KComp.start _, by simp; omega, rfl⟩, rfl⟩ ?_
    rintro k σ H1 ⟨n, ⟨m1, nodes, mi, rfl, fr1, st1, fol1, hn1, hcomp, hphi, hlen⟩, rfl⟩
    have hnh1 : ∀ {m2 : Stm}, Fol m m2 → nl ≠ m2.home := fun {m2} h => by
      rw [h.1]
      exact hnh
    walk_at "go"
    refine w_br (fun h0 => ?_) (fun h0 => ?_)
    · obtain ⟨mi, rfl⟩ : ∃ j, mi = j + 1 := ⟨mi - 1, by omega⟩
      refine ⟨KInv a nl H size many m (n + 1), fun σ' H' h => ⟨size + 1 - (n + 1), by omega, n + 1, h, rfl⟩, ?_⟩
      walk_at "go"
      have e0 : (((mi + 1 : Nat) : Int) - 1) = (mi : Int) := by omega
      rw [e0]
      have leafW : ∀ {H4 : Hp} {m4 : Stm} {j : Int}, Fr a H H4 → StAt H4 a m4 → Fol m m4 → H4 nl = some (.lst nodes) → 0 ≤ j ∧ j < (many : Int) → KInv a nl H size many m (n + 1) [some (.ref a), some (.int (size : Int)), some (.int (many : Int)), some (.ref nl), some (.int (mi : Int))] (upd H4 nl (.lst (nodes ++ [.int j]))) := fun {H4 m4 j} fr st fol h4 hj => by
        obtain ⟨n0, rfl⟩ : ∃ n0 : Nat, j = (n0 : Int) := ⟨j.toNat, (Int.toNat_of_nonneg hj.1).symm⟩
        exact ⟨m4, nodes ++ [.int (n0 : Int)], mi, rfl, Fr.mut fr hnl, st.put hna (hnh1 fol), fol, upd_same, hcomp.leaf (by omega), by rw [List.length_append, List.length_singleton]; omega, by rw [List.length_append, List.length_singleton, hlen]⟩
      have dr : ∀ {H4 : Hp} {m4 : Stm} {Q4 : VK}, Fr a H H4 → StAt H4 a m4 → Fol m m4 → H4 nl = some (.lst nodes) → (∀ H5 j m5, H5 nl = some (.lst nodes) → 0 ≤ j ∧ j < (many : Int) → Fr a H H5 → StAt H5 a m5 → Fol m m5 → Q4 (.int j) H5) → spDraw [.ref a, .int (many : Int)] H4 Q4 E0 := fun {H4 m4 Q4} fr st fol h4 k4 =>
        ⟨a, m4, (many : Int), rfl, st, by omega, by omega, fun H5 fr5 st5 => k4 H5 _ _ (fr5 _ _ hna h4) (m4.val_lt (n := (many : Int)) (by omega)) (fr.trans fr5) st5 (fol.step _)⟩
      refine w_br (fun h1 => ?_) (fun h1 => ?_)
      · walk_at "go"
        refine ⟨a, m1, 2, rfl, st1, by decide, by decide, fun H2 fr2 st2 => ?_⟩
        have fol2 := fol1.step 2
        have hn2 : H2 nl = some (.lst nodes) := fr2 _ _ hna hn1
        have fr2 := fr1.trans fr2
        generalize m1.val 2 = i2 at *
        generalize m1.next 2 = m2 at *
        walk_at "go"
        refine w_brI (fun h2 => ?_) (fun h2 => ?_)
        · walk_at "go"
          have e2 : ((mi : Int) + 2) = ((mi + 2 : Nat) : Int) := by omega
          rw [e2]
          exact ⟨m2, nodes ++ [.str "to"], mi + 2, rfl, Fr.mut fr2 hnl, st2.put hna (hnh1 fol2), fol2, upd_same, hcomp.to, by rw [List.length_append, List.length_singleton]; omega, by rw [List.length_append, List.length_singleton, hlen]⟩
        · walk_at "go"
          refine dr fr2 st2 fol2 hn2 fun H5 j m5 h5 hj fr5 st5 fol5 => ?_
          walk_at "go"
          exact leafW fr5 st5 fol5 h5 hj
      · walk_at "go"
        refine dr fr1 st1 fol1 hn1 fun H5 j m5 h5 hj fr5 st5 fol5 => ?_
        walk_at "go"
        exact leafW fr5 st5 fol5 h5 hj
    · obtain rfl : mi = 0 := by omega
      obtain ⟨t, ht1, ht2⟩ := hcomp.done
      walk_at "go"
      intro p hp
      exact q _ p m1 t (Fr.new fr1 hp) (st1.new hp) fol1 (SqT.of (by rw [ht2]; exact upd_same)) ht1 (by rw [ht2]; omega)
end
end Ly
set_option Elab.async false
set_option linter.all false
set_option maxRecDepth 100000
set_option maxHeartbeats 8000000
namespace Ly
open PySem PySem.Spec PyProof.Rows L2 Evl
local macro_rules | `(tactic| walk_at "ne") => `(tactic| first
  | assumption
  | ((refine' Ne.symm ?hq); (case hq => assumption))
  | ((refine' ne_of_none ?nh1 ?nh2); (case nh2 => assumption); (case nh1 => walk_at "hp"))
  | ((refine' Ne.symm (ne_of_none ?nh1 ?nh2)); (case nh2 => assumption); (case nh1 => walk_at "hp")))
local macro_rules | `(tactic| walk_at "hp") => `(tactic| first
  | assumption
  | exact upd_same
  | ((refine' SqL.of ?hq); (case hq => walk_at "hp"))
  | ((refine' SqT.of ?hq); (case hq => walk_at "hp"))
  | ((refine' (upd_ne ?hne).trans ?hrest); (case hne => walk_at "ne"); (case hrest => walk_at "hp"))
  | ((refine' ly_at ?hex ?hh); (case hex => assumption); (case hh => walk_at "hp"))
  | ((refine' ly_atF ?hex ?hnn ?hh); (case hex => assumption); (case hh => walk_at "hp"); (case hnn => walk_at "ne"))
  | ((refine' ex_t ?hex ?hh); (case hh => assumption); (case hex => walk_at "ex"))
  | ((refine' ex_l ?hex ?hh); (case hh => assumption); (case hex => walk_at "ex")))
local macro_rules | `(tactic| walk_at "ex") => `(tactic| first
  | assumption
  | exact Ex.refl _
  | ((refine' ex_new ?xa ?xb); (case xb => assumption); (case xa => walk_at "ex"))
  | ((refine' ex_upd ?xa ?xb); (case xb => walk_at "free"); (case xa => walk_at "ex"))
  | ((refine' Ex.trans ?xa ?xb); (case xb => assumption); (case xa => walk_at "ex")))
local macro_rules | `(tactic| walk_at "free") => `(tactic| first
  | assumption
  | ((refine' fresh_back ?xa ?xb); (case xb => assumption); (case xa => walk_at "ex")))
local macro_rules | `(tactic| walk_at "fr") => `(tactic| first
  | assumption
  | exact Fr.refl _ _
  | ((refine' Fr.own ?hq); (case hq => walk_at "fr"))
  | ((refine' Fr.new ?xa ?xb); (case xb => assumption); (case xa => walk_at "fr"))
  | ((refine' Fr.mut ?xa ?xb); (case xb => assumption); (case xa => walk_at "fr"))
  | ((refine' Fr.trans ?xa ?xb); (case xb => assumption); (case xa => walk_at "fr"))
  | ((refine' Fr.trans ?xa (Fr.ex ?xb)); (case xb => assumption); (case xa => walk_at "fr")))
local macro_rules | `(tactic| walk_at "go1") => `(tactic| first
  | (with_reducible refine' w_seq ?_)
  | (with_reducible refine' w_asg ?_)
  | (with_reducible refine' w_ret ?_)
  | (with_reducible refine' w_drop ?_)
  | (with_reducible refine' w_if ?_)
  | (with_reducible refine' w_next ?_)
  | (with_reducible refine' w_name ?_)
  | (with_reducible refine' w_sub ?_)
  | ((with_reducible refine' w_var ?hv ?_); (case hv => exact rfl))
  | (with_reducible refine' w_c ?_)
  | (with_reducible refine' w_op ?_)
  | (with_reducible refine' w_un ?_)
  | (with_reducible refine' w_ch ?_)
  | (with_reducible refine' w_I0 ?_)
  | ((with_reducible refine' w_I ?hc ?_); (case hc => first | (exact ly_mulL (by decide) (by decide)) | (exact ly_mulR (by decide) (by decide)) | (exact ly_mulL (by omega) (by omega)) | (show (_ : Int) ≠ 0; decide) | (show (_ : Int) ≠ 0; omega) | (exact ⟨by decide, by decide⟩) | (exact ⟨by omega, by omega⟩)))
  | (with_reducible refine' w_U ?_)
  | ((with_reducible refine' w_eq ?hs ?_); (case hs => exact rfl))
  | ((with_reducible refine' w_ne ?hs ?_); (case hs => exact rfl))
  | (with_reducible refine' w_isB ?_)
  | (with_reducible refine' w_notB ?_)
  | (with_reducible refine' w_nil ?_)
  | (with_reducible refine' w_cons ?_)
  | (with_reducible refine' w_tup ?_)
  | (with_reducible refine' w_lst ?_)
  | (with_reducible refine' w_cb ?_)
  | (with_reducible refine' w_call ?_)
  | (with_reducible refine' w_bm ?_)
  | (with_reducible refine' w_bm0 ?_)
  | ((with_reducible refine' w_app ?hh ?hz ?_); (case hh => walk_at "hp"); (case hz => first | exact ly_lt (by omega) | exact ly_lt (by simp only [List.length_append, List.length_map, List.length_cons, List.length_nil]; omega)))
  | ((with_reducible refine' w_popA ?hh ?_); (case hh => walk_at "hp"))
  | ((with_reducible refine' w_ext ?hh ?hh2 ?hz ?_); (case hh => walk_at "hp"); (case hh2 => walk_at "hp"))
  | ((with_reducible refine' w_ixL ?hh ?ha ?_); (case hh => walk_at "hp"); (case ha => first | exact rfl | exact at_map (by omega) | exact atI_last _ _ | ((refine' at_of ?ae ?ah); (case ah => assumption); (case ae => omega))))
  | ((with_reducible refine' w_ixT ?hh ?ha ?_); (case hh => walk_at "hp"); (case ha => first | exact rfl | exact at_map (by omega) | exact atI_last _ _ | ((refine' at_of ?ae ?ah); (case ah => assumption); (case ae => omega))))
  | ((with_reducible refine' w_cat ?hh ?hh2 ?hz ?_); (case hh => walk_at "hp"); (case hh2 => walk_at "hp"))
  | ((with_reducible refine' w_setL ?hh ?ha ?_); (case hh => walk_at "hp"); (case ha => exact rfl))
  | (with_reducible refine' w_test ?_)
  | (with_reducible refine' w_tB ?_)
  | (with_reducible refine' w_bl ?_)
  | (with_reducible refine' w_and ?_)
  | (with_reducible refine' w_or ?_)
  | (with_reducible refine' w_not ?_)
  | (with_reducible refine' w_andV ?_)
  | (with_reducible refine' w_orV ?_)
  | (with_reducible refine' w_notV ?_)
  | (with_reducible refine' w_ifE ?_)
  | (with_reducible refine' w_for ?_)
  | ((with_reducible refine' w_nin ?hh ?_); (case hh => walk_at "hp"))
  | ((with_reducible refine' w_sorted ?hh ?_); (case hh => walk_at "hp"))
  | (with_reducible refine' w_tsadd ?_)
  | ((with_reducible refine' w_tsadd1 ?hh ?_); (case hh => walk_at "hp"))
  | ((with_reducible refine' w_sadd ?hh ?hr ?_); (case hh => walk_at "hp"); (case hr => omega))
  | (with_reducible refine' w_iZ ?_)
  | ((with_reducible refine' w_iZ1 ?hh ?hh2 ?_); (case hh => walk_at "hp"); (case hh2 => walk_at "hp"))
  | (with_reducible refine' w_iS ?_)
  | (with_reducible refine' w_iS1 ?_)
  | ((with_reducible refine' w_gtup ?hh ?hn ?_); (case hh => walk_at "hp"); (case hn => exact rfl))
  | (with_reducible refine' w_gcons ?_)
  | (with_reducible refine' w_gnil ?_)
  | (with_reducible refine' w_js ?_)
  | (with_reducible refine' w_jsn ?_)
  | ((with_reducible refine' w_js1 ?hl ?_); (case hl => decide +kernel))
  | (with_reducible refine' w_fmt ?_)
  | ((with_reducible refine' w_fmt1 ?hl ?_); (case hl => decide +kernel))
  | (with_reducible refine' w_callS ?_)
  | ((with_reducible refine' w_truL ?hh ?_); (case hh => walk_at "hp"))
  | (with_reducible refine' w_lc ?_)
  | (with_reducible refine' w_yes ?_)
  | ((with_reducible refine' w_wipe ?he ?_); (case he => exact rfl))
  | (with_reducible refine' w_iL ?_)
  | (with_reducible refine' w_iT ?_)
  | (with_reducible refine' w_iR ?_)
  | ((with_reducible refine' w_iL1 ?hh ?_); (case hh => walk_at "hp"))
  | ((with_reducible refine' w_iT1 ?hh ?_); (case hh => walk_at "hp"))
  | ((with_reducible refine' w_iR1 ?h1 ?h2 ?_); (case h1 => omega); (case h2 => omega))
  | ((with_reducible refine' w_aug ?hv ?_); (case hv => exact rfl))
  | (with_reducible refine' w_ipI ?_)
  | ((with_reducible refine' w_isi ?hy ?hk ?_); (case hy => walk_at "ty"); (case hk => walk_at "kit"))
  | ((with_reducible refine' w_int ?_))
  | ((with_reducible refine' w_intB ?_))
  | ((with_reducible refine' w_abs ?_))
  | ((with_reducible refine' w_lenL ?hh ?_); (case hh => walk_at "hp"))
  | ((with_reducible refine' w_lenT ?hh ?_); (case hh => walk_at "hp"))
  | ((with_reducible refine' w_tupL ?hh ?_); (case hh => walk_at "hp"))
  | ((with_reducible refine' w_tupT ?hh ?_); (case hh => walk_at "hp"))
  | ((with_reducible refine' w_catA ?hh ?hh2 ?hz ?_); (case hh => walk_at "hp"); (case hh2 => walk_at "hp"); (case hz => walk_at "len"))
  | ((with_reducible refine' w_repB ?hh ?hne ?h2 ?h3 ?hz ?_); (case hh => walk_at "hp"); (case hne => simp); (case h2 => omega); (case h3 => omega); (case hz => exact Nat.le_of_ble_eq_true rfl))
  | ((with_reducible refine' w_eqN ?hh ?hh2 ?n1 ?n2 ?_); (case hh => walk_at "hp"); (case hh2 => walk_at "hp"); (case n1 => walk_at "nd"); (case n2 => walk_at "nd"))
  | ((with_reducible refine' w_neN ?hh ?hh2 ?n1 ?n2 ?_); (case hh => walk_at "hp"); (case hh2 => walk_at "hp"); (case n1 => walk_at "nd"); (case n2 => walk_at "nd"))
  | ((with_reducible refine' w_eqL ?hh ?hh2 ?n1 ?n2 ?_); (case hh => walk_at "hp"); (case hh2 => walk_at "hp"); (case n1 => walk_at "nd"); (case n2 => walk_at "nd"))
  | ((with_reducible refine' w_neL ?hh ?hh2 ?n1 ?n2 ?_); (case hh => walk_at "hp"); (case hh2 => walk_at "hp"); (case n1 => walk_at "nd"); (case n2 => walk_at "nd"))
  | ((with_reducible refine' w_neNon ?hh2 ?n2 ?_); (case hh2 => walk_at "hp"); (case n2 => walk_at "nd"))
  | ((with_reducible refine' w_eqNon ?hh2 ?n2 ?_); (case hh2 => walk_at "hp"); (case n2 => walk_at "nd"))
  | ((with_reducible refine' w_slA ?hh ?_); (case hh => walk_at "hp"))
  | ((with_reducible refine' w_disp ?hz ?_); (case hz => exact sz_of (Nat.le_of_ble_eq_true rfl)))
  | ((with_reducible refine' w_tyL ?hh ?_); (case hh => walk_at "hp"))
  | (with_reducible refine' iteT ?_)
  | (with_reducible refine' iteF ?_)
  | (with_reducible refine' w_nT ?_)
  | (with_reducible refine' w_nn ?_)
  | (with_reducible refine' w_nnT ?_)
  | (with_reducible refine' w_nnR ?_)
  | (with_reducible refine' w_neG ?_)
  | (with_reducible refine' w_eqG ?_)
  | (with_reducible refine' w_neS ?_)
  | (with_reducible refine' w_eqS ?_)
  | (with_reducible refine' w_neSb ?_)
  | (with_reducible refine' w_eqSb ?_)
  | (with_reducible refine' w_deIS ?_)
  | (with_reducible refine' w_deSI ?_)
  | (with_reducible refine' w_deISn ?_)
  | ((with_reducible refine' w_deST ?he ?_); (case he => decide +kernel))
  | ((with_reducible refine' w_deSF ?he ?_); (case he => decide +kernel))
  | ((with_reducible refine' w_deSTn ?he ?_); (case he => decide +kernel))
  | ((with_reducible refine' w_deSFn ?he ?_); (case he => decide +kernel))
  | (with_reducible refine' w_nF ?_)
  | dsimp only [Bool.not_true, Bool.not_false])
local macro_rules | `(tactic| walk_at "ty") => `(tactic| first
  | exact .base (.int _) | exact .base (.str _) | exact .base (.bl _) | exact .base .non
  | ((refine' tyx_t ?hq); (case hq => walk_at "hp")) | ((refine' tyx_l ?hq); (case hq => walk_at "hp")) | ((refine' .base (.tup ?hq)); (case hq => walk_at "hp")) | assumption)
local macro_rules | `(tactic| walk_at "go") => `(tactic| repeat walk_at "go1")
local macro_rules | `(tactic| walk_at "st") => `(tactic| try dsimp only [cxOf, Cx.nox, Cx.wish])
local macro_rules | `(tactic| walk_at "kit") => `(tactic| with_reducible first | exact kit_int_int | exact kit_int_str | exact kit_int_bool | exact kit_int_tuple | exact kit_int_list | exact kit_str_int | exact kit_str_str | exact kit_str_bool | exact kit_str_tuple | exact kit_str_list | exact kit_bool_int | exact kit_bool_str | exact kit_bool_bool | exact kit_bool_tuple | exact kit_bool_list | exact kit_NoneType_int | exact kit_NoneType_str | exact kit_NoneType_bool | exact kit_NoneType_tuple | exact kit_NoneType_list | exact kit_list_int | exact kit_list_str | exact kit_list_bool | exact kit_list_tuple | exact kit_list_list | exact kit_tuple_int | exact kit_tuple_str | exact kit_tuple_bool | exact kit_tuple_tuple | exact kit_tuple_list)
local macro_rules | `(tactic| walk_at "nd") => `(tactic| first
  | assumption
  | exact Tm.nds _
  | exact Nds.nil
  | exact Nds.ofInts _
  | ((refine' Nds.cons ?na ?nb); (case na => first | exact Nds.I _ | exact Nds.L | exact Nds.A); (case nb => walk_at "nd"))
  | ((refine' Nds.app ?na ?nb); (case na => walk_at "nd"); (case nb => walk_at "nd"))
  | ((refine' Nds.rep ?na _); (case na => walk_at "nd")))
local macro_rules | `(tactic| walk_at "len") => `(tactic| first
  | exact ly_sz (by omega)
  | ((simp only [List.length_append, List.length_cons, List.length_nil, List.length_map, PyProof.Rows.lm_len_rep_flat]); exact ly_sz (by omega)))
local macro_rules | `(tactic| walk_at "go1") => `(tactic| first
  | (with_reducible refine' w_kget2 ?_)
  | (with_reducible refine' w_isRN ?_)
  | (with_reducible refine' w_isNN ?_)
  | (with_reducible refine' w_isIN ?_)
  | ((with_reducible refine' w_kg ?hd ?_); (case hd => assumption)))
local macro_rules | `(tactic| walk_at "go1") => `(tactic| first
  | ((with_reducible refine' w_extT ?hh ?hh2 ?hz ?_); (case hh => walk_at "hp"); (case hh2 => walk_at "hp"))
  | ((with_reducible refine' w_I ?hc ?_); (case hc => exact ⟨by decide, by decide, by decide⟩))
  | (with_reducible refine' w_sl ?_)
  | (with_reducible refine' w_noP ?_)
  | (with_reducible refine' w_part ?_)
  | (with_reducible refine' w_part1 ?_)
  | (with_reducible refine' w_it ?_)
  | (with_reducible refine' w_it1 ?_)
  | ((with_reducible refine' w_lenZ ?hz ?_); (case hz => omega))
  | ((with_reducible refine' w_addZb ?hz ?_); (case hz => omega))
  | ((with_reducible refine' w_addZf ?hz ?_); (case hz => omega))
  | ((with_reducible refine' w_addZa ?hz ?_); (case hz => omega))
  | ((with_reducible refine' w_inS ?hh ?_); (case hh => walk_at "hp"))
  | ((with_reducible refine' w_ixT ?hh ?ha ?_); (case hh => assumption); (case ha => exact atI_nat (by assumption))))
local macro_rules | `(tactic| walk_at "go1") => `(tactic| first
  | (with_reducible refine' w_iR2 ?_)
  | ((with_reducible refine' w_iR21 ?h1 ?h2 ?h3 ?h4 ?_); (case h1 => omega); (case h2 => omega); (case h3 => omega); (case h4 => omega))
  | (with_reducible refine' w_nnI ?_)
  | (with_reducible refine' w_max ?_)
  | (with_reducible refine' w_break ?_)
  | (with_reducible refine' w_cont ?_))
local macro_rules | `(tactic| walk_at "go1") => `(tactic| first
  | (with_reducible refine' w_tdget ?_)
  | (with_reducible refine' w_tdin ?_)
  | (with_reducible refine' w_tdnotin ?_)
  | (with_reducible refine' w_sdput ?_)
  | (with_reducible refine' w_tdsetd ?_)
  | (with_reducible refine' w_dnew ?_))
section
variable {P : Program} {w : World} {K : PySem.W.Frag} {mg : Str → Option Value} {base : Heap} {tk : Nat → Tok} {cl : Nat → Addr}
def spRenamed (K : PySem.W.Frag) : Sp := fun vs H Q _ => ∃ (l : Addr) (as : List Addr) (xss : List (List V)), vs = [.ref l] ∧ H l = some (.lst (refs as)) ∧ Rws K H as xss ∧ xss.length ≤ 1000 ∧ (∀ xs ∈ xss, xs.length ≤ 1000 ∧ ∀ x ∈ xs, NodeK x) ∧
  ∀ H' p bs, Ex H H' → H p = none → H' p = some (.lst (refs bs)) → Rws K H' bs (renRows [] xss) → Q (.ref p) H'
theorem ok_renamed {f : Addr} {fd : FuncData} {k : Nat} (F : Fun K "renamed" "renamed" s_renamed f fd) (T : Txt w K mg tk cl) : FnOk P w K mg base CX0 (k + 1) f fd ["kinds"] (spRenamed K) := by
  refine F.ok sc_renamed (fun vs H Q E h => ?_) (fun cdv A outer s H vs Q E hr h => ?_)
  · obtain ⟨l, as, xss, rfl, _⟩ := h
    rfl
  · obtain ⟨l, as, xss, rfl, hl, hR, hz, hn, q⟩ := h
    refine ⟨_, (pss_cons (ps_set (i := 1) sc_renamed.nd rfl (.inl rfl) pe_dnewK) (pss_cons (ps_set (i := 2) sc_renamed.nd rfl (.inl rfl) (pe_lst pa_nil)) (pss_cons (ps_for PassesOwn.never rfl (pi_list (pv 0)) (pg_name (i := 3) sc_renamed.nd rfl (.inl rfl)) (pss_cons (ps_set (i := 4) sc_renamed.nd rfl (.inl rfl) (pe_lst pa_nil)) (pss_cons (ps_for PassesOwn.never rfl (pi_tup (pv 3)) (pg_name (i := 5) sc_renamed.nd rfl (.inl rfl)) (pss_one (ps_if (pt_cmpR op_eq (pv 5) pe_str (nomark _)) (pss_one (ps_expr (pe_bm PySem.F.plainAttrs_list PySem.F.slot_list_append PySem.F.type_list_append mt_append (pv 4) (pa_cons (pv 5) pa_nil)))) (pss_one (ps_expr (pe_bm PySem.F.plainAttrs_list PySem.F.slot_list_append PySem.F.type_list_append mt_append (pv 4) (pa_cons (pe_dsetd (pv 1) (pv 5) (pe_callB call_lenD (by rfl) T.n_len (by decide +kernel) (pa_cons (pv 1) pa_nil)) ⟨by rfl, by rfl, by rfl, by rfl⟩) pa_nil))))))) (pss_one (ps_expr (pe_bm PySem.F.plainAttrs_list PySem.F.slot_list_append PySem.F.type_list_append mt_append (pv 2) (pa_cons (pe_callTy call_tuple_of (by rfl) T.n_tuple (by decide +kernel) (pa_cons (pv 4) pa_nil)) pa_nil))))))) (pss_one (ps_ret (pv 2)))))), ?_⟩
    refine sl_of (σ2 := [some _, none, none, none, none, none]) rfl ?_
    walk_at "st"
    walk_at "go"
    intro d hd
    walk_at "go"
    intro fl hfl
    have hfd : fl ≠ d := (ne_of_none upd_same hfl).symm
    have hfl0 : H fl = none := by rw [upd_ne hfd] at hfl; exact hfl
    walk_at "go"
    refine for_list (K := K) (a := l) (xs := refs as) (fun j σ H' => ∃ (kvs : List (L2.Key × V)) (bs : List Addr) (y3 y4 y5 : Option V), σ = [some (.ref l), some (.ref d), some (.ref fl), y3, y4, y5] ∧ Ex H H' ∧ H' d = some (.dK kvs) ∧ NumD (renV [] (xss.take j)) kvs ∧ H' fl = some (.lst (refs bs)) ∧ Rws K H' bs (renRows [] (xss.take j)) ∧ (renV [] (xss.take j)).length ≤ 1000 * j ∧ bs.length = j)
      ⟨[], [], none, none, none, rfl, (ex_new (Ex.new hd) hfl), by rw [upd_ne hfd.symm]; exact upd_same, NumD.nil, upd_same, .nil, Nat.zero_le _, rfl⟩ (fun j σ H' _ ⟨_, _, _, _, _, _, e, _⟩ => SqL.of (e _ _ hl)) ?_ ?_
    · clear hfl
      rintro j x σ H1 hj ⟨kvs, bs, y3, y4, y5, rfl, e1, hd1, hN1, hf1, hR1, hL1, hbl⟩
      have hjz : j < xss.length := by
        have := (List.getElem?_eq_some_iff.mp hj).1
        rw [List.length_map, hR.len] at this
        exact this
      obtain ⟨a, xs, rfl, hxs, hS⟩ := hR.at_ hj
      obtain ⟨hxl, hxn⟩ := hn xs (List.mem_of_getElem? hxs)
      have tk : xss.take (j + 1) = xss.take j ++ [xs] := by rw [List.take_add_one, hxs]; rfl
      rw [tk, renV_snoc, renRows_snoc]
      generalize renV [] (xss.take j) = vs0 at *
      generalize renRows [] (xss.take j) = rr at *
      walk_at "go"
      intro nl hnl
      have hnd : nl ≠ d := (ne_of_none hd1 hnl).symm
      have hnf : nl ≠ fl := (ne_of_none hf1 hnl).symm
      have hnl0 : H nl = none := fresh_back e1 hnl
      walk_at "go"
      refine for_tup (K := K) (a := a) (xs := xs) (fun i σ H' => ∃ (kvs : List (L2.Key × V)) (y5 : Option V), σ = [some (.ref l), some (.ref d), some (.ref fl), some (.ref a), some (.ref nl), y5] ∧ Ex H H' ∧ H' d = some (.dK kvs) ∧ NumD (renL vs0 (xs.take i)).2 kvs ∧ H' nl = some (.lst (renL vs0 (xs.take i)).1) ∧ H' fl = some (.lst (refs bs)) ∧ Rws K H' bs rr)
        ⟨kvs, y5, rfl, ex_new e1 hnl, by rw [upd_ne hnd.symm]; exact hd1, by simpa [renL] using hN1, upd_same, by rw [upd_ne hnf.symm]; exact hf1, hR1.mono fun _ _ z => ex_t (Ex.new hnl) z⟩ (fun i σ H' _ ⟨_, _, _, e, _⟩ => ex_t e hS) ?_ ?_
      · clear hnl hd1 hN1 hf1 hR1
        rintro i x σ H2 hi ⟨kvs, y5, rfl, e2, hd2, hN2, hn2, hf2, hR2⟩
        have hil : i < xs.length := (List.getElem?_eq_some_iff.mp hi).1
        have tk2 : xs.take (i + 1) = xs.take i ++ [x] := by rw [List.take_add_one, hi]; rfl
        have b1 := renL_len (xs.take i) vs0
        have b2 : (xs.take i).length ≤ i := by rw [List.length_take]; omega
        rw [tk2, renL_app]
        generalize renL vs0 (xs.take i) = pr at *
        obtain ⟨ns, vs⟩ := pr
        dsimp only at b1 hn2 hN2
        walk_at "go"
        rcases hxn x (List.mem_of_getElem? hi) with ⟨n, rfl⟩ | rfl
        · rw [renL_int]
          have hkl := hN2.1
          walk_at "go"
          refine ⟨d, rfl, isD hd2, ?_⟩
          walk_at "go"
          refine ⟨d, kvs, rfl, hd2, ?_⟩
          refine ⟨kvs, .inl (n : Int), hd2, rfl, ly_lt (by omega), fun v hv => ?_, fun hv => ?_⟩
          · rw [hN2.2 n] at hv
            split at hv
            · rename_i hin
              cases hv
              have hno : nodeNo vs n = vs := if_pos hin
              rw [hno]
              walk_at "go"
              exact ⟨kvs, _, rfl, e2.mut hnl0, by rw [upd_ne hnd.symm]; exact hd2, hN2, upd_same, by rw [upd_ne hnf.symm]; exact hf2, hR2.lst hn2⟩
            · cases hv
          · rw [hN2.2 n] at hv
            split at hv
            · cases hv
            · rename_i hin
              have hno : nodeNo vs n = vs ++ [n] := if_neg hin
              have hix : (vs ++ [n]).idxOf n = vs.length := by rw [List.idxOf_append, if_neg hin]; simp
              have hN3 := hN2.put hin
              rw [hno, hix]
              rw [hkl]
              have hn3 : upd H2 d (.dK (putK kvs (.inl (n : Int)) (.int (vs.length : Nat)))) nl = some (.lst ns) := by rw [upd_ne hnd]; exact hn2
              have hf3 : upd H2 d (.dK (putK kvs (.inl (n : Int)) (.int (vs.length : Nat)))) fl = some (.lst (refs bs)) := by rw [upd_ne hfd]; exact hf2
              have hd3 : upd H2 d (.dK (putK kvs (.inl (n : Int)) (.int (vs.length : Nat)))) d = some (.dK (putK kvs (.inl (n : Int)) (.int (vs.length : Nat)))) := upd_same
              have hR3 := hR2.dic (zs := putK kvs (.inl (n : Int)) (.int (vs.length : Nat))) hd2
              have e3 := e2.mut hd (o := .dK (putK kvs (.inl (n : Int)) (.int (vs.length : Nat))))
              generalize upd H2 d (.dK (putK kvs (.inl (n : Int)) (.int (vs.length : Nat)))) = H3 at *
              walk_at "go"
              exact ⟨_, _, rfl, e3.mut hnl0, by rw [upd_ne hnd.symm]; exact hd3, hN3, upd_same, by rw [upd_ne hnf.symm]; exact hf3, hR3.lst hn3⟩
        · rw [renL_to]
          walk_at "go"
          exact ⟨kvs, _, rfl, e2.mut hnl0, by rw [upd_ne hnd.symm]; exact hd2, hN2, upd_same, by rw [upd_ne hnf.symm]; exact hf2, hR2.lst hn2⟩
      · clear hnl hd1 hN1 hf1 hR1
        rintro σ H2 ⟨kvs, y5, rfl, e2, hd2, hN2, hn2, hf2, hR2⟩
        rw [List.take_length] at hN2 hn2
        have b1 := renL_len xs vs0
        walk_at "go"
        intro p hp
        have hpf : fl ≠ p := ne_of_none hf2 hp
        have hpd : d ≠ p := ne_of_none hd2 hp
        have hf3 : upd H2 p (.tup (renL vs0 xs).1) fl = some (.lst (refs bs)) := by rw [upd_ne hpf]; exact hf2
        have hd3 : upd H2 p (.tup (renL vs0 xs).1) d = some (.dK kvs) := by rw [upd_ne hpd]; exact hd2
        have hp3 : SqT K (upd H2 p (.tup (renL vs0 xs).1)) p (renL vs0 xs).1 := SqT.of upd_same
        have hR3 := hR2.ex (Ex.new hp (o := .tup (renL vs0 xs).1))
        have e3 := ex_new e2 hp (o := .tup (renL vs0 xs).1)
        generalize upd H2 p (.tup (renL vs0 xs).1) = H3 at *
        walk_at "go"
        exact ⟨kvs, bs ++ [p], _, _, _, rfl, e3.mut hfl0, by rw [upd_ne hfd.symm]; exact hd3, hN2, by rw [upd_same]; simp [refs], (hR3.snoc hp3).lst hf3, by omega, by simp [hbl]⟩
    · rintro σ H1 ⟨kvs, bs, y3, y4, y5, rfl, e1, hd1, hN1, hf1, hR1, hL1, hbl⟩
      rw [List.length_map, hR.len, List.take_length] at hR1
      walk_at "go"
      exact q _ _ bs e1 hfl0 hf1 hR1
theorem ok_lrenamed {f : Addr} {fd : FuncData} {k : Nat} (F : Fun K "_law_renamed" "_law_renamed" s_law_renamed f fd) (T : Txt w K mg tk cl) : FnOk P w K mg base CX0 (k + 1) f fd ["rows"] (spRenamed K) := by
  refine F.ok sc_law_renamed (fun vs H Q E h => ?_) (fun cdv A outer s H vs Q E hr h => ?_)
  · obtain ⟨l, as, xss, rfl, _⟩ := h
    rfl
  · obtain ⟨l, as, xss, rfl, hl, hR, hz, hn, q⟩ := h
    refine ⟨_, (pss_cons (ps_set (i := 1) sc_law_renamed.nd rfl (.inl rfl) pe_dnewK) (pss_cons (ps_set (i := 2) sc_law_renamed.nd rfl (.inl rfl) (pe_lst pa_nil)) (pss_cons (ps_for PassesOwn.never rfl (pi_list (pv 0)) (pg_name (i := 3) sc_law_renamed.nd rfl (.inl rfl)) (pss_cons (ps_set (i := 4) sc_law_renamed.nd rfl (.inl rfl) (pe_lst pa_nil)) (pss_cons (ps_for PassesOwn.never rfl (pi_tup (pv 3)) (pg_name (i := 5) sc_law_renamed.nd rfl (.inl rfl)) (pss_cons (ps_if (pt_val (pe_callB call_isi (by rfl) T.n_isinstance (by decide +kernel) (pa_cons (pv 5) (pa_cons (pe_bltn (v := .ty "int") (by rfl) T.n_int (by decide +kernel) rfl) pa_nil)))) (pss_cons (ps_if (pt_cmp (pc_dnotin (by exact Nat.lt_of_le_of_lt (Nat.add_le_add_left (by decide) _) hr.units) (pv 5) (pv 1))) (pss_one (ps_dput (by exact Nat.lt_of_le_of_lt (Nat.add_le_add_left (by decide) _) hr.units) (pv 1) (pv 5) (pe_callB call_lenD (by rfl) T.n_len (by decide +kernel) (pa_cons (pv 1) pa_nil)) (by rfl))) pss_nil) (pss_one (ps_set (i := 5) sc_law_renamed.nd rfl (.inl rfl) (pe_dget (by exact Nat.lt_of_le_of_lt (Nat.add_le_add_left (by decide) _) hr.units) (pv 1) (pv 5) (fun _ _ => rfl))))) pss_nil) (pss_one (ps_expr (pe_bm PySem.F.plainAttrs_list PySem.F.slot_list_append PySem.F.type_list_append mt_append (pv 4) (pa_cons (pv 5) pa_nil)))))) (pss_one (ps_expr (pe_bm PySem.F.plainAttrs_list PySem.F.slot_list_append PySem.F.type_list_append mt_append (pv 2) (pa_cons (pe_callTy call_tuple_of (by rfl) T.n_tuple (by decide +kernel) (pa_cons (pv 4) pa_nil)) pa_nil))))))) (pss_one (ps_ret (pv 2)))))), ?_⟩
    refine sl_of (σ2 := [some _, none, none, none, none, none]) rfl ?_
    walk_at "st"
    walk_at "go"
    intro d hd
    walk_at "go"
    intro fl hfl
    have hfd : fl ≠ d := (ne_of_none upd_same hfl).symm
    have hfl0 : H fl = none := by rw [upd_ne hfd] at hfl; exact hfl
    walk_at "go"
    refine for_list (K := K) (a := l) (xs := refs as) (fun j σ H' => ∃ (kvs : List (L2.Key × V)) (bs : List Addr) (y3 y4 y5 : Option V), σ = [some (.ref l), some (.ref d), some (.ref fl), y3, y4, y5] ∧ Ex H H' ∧ H' d = some (.dK kvs) ∧ NumD (renV [] (xss.take j)) kvs ∧ H' fl = some (.lst (refs bs)) ∧ Rws K H' bs (renRows [] (xss.take j)) ∧ (renV [] (xss.take j)).length ≤ 1000 * j ∧ bs.length = j)
      ⟨[], [], none, none, none, rfl, (ex_new (Ex.new hd) hfl), by rw [upd_ne hfd.symm]; exact upd_same, NumD.nil, upd_same, .nil, Nat.zero_le _, rfl⟩ (fun j σ H' _ ⟨_, _, _, _, _, _, e, _⟩ => SqL.of (e _ _ hl)) ?_ ?_
    · clear hfl
      rintro j x σ H1 hj ⟨kvs, bs, y3, y4, y5, rfl, e1, hd1, hN1, hf1, hR1, hL1, hbl⟩
      have hjz : j < xss.length := by
        have := (List.getElem?_eq_some_iff.mp hj).1
        rw [List.length_map, hR.len] at this
        exact this
      obtain ⟨a, xs, rfl, hxs, hS⟩ := hR.at_ hj
      obtain ⟨hxl, hxn⟩ := hn xs (List.mem_of_getElem? hxs)
      have tk : xss.take (j + 1) = xss.take j ++ [xs] := by rw [List.take_add_one, hxs]; rfl
      rw [tk, renV_snoc, renRows_snoc]
      generalize renV [] (xss.take j) = vs0 at *
      generalize renRows [] (xss.take j) = rr at *
      walk_at "go"
      intro nl hnl
      have hnd : nl ≠ d := (ne_of_none hd1 hnl).symm
      have hnf : nl ≠ fl := (ne_of_none hf1 hnl).symm
      have hnl0 : H nl = none := fresh_back e1 hnl
      walk_at "go"
      refine for_tup (K := K) (a := a) (xs := xs) (fun i σ H' => ∃ (kvs : List (L2.Key × V)) (y5 : Option V), σ = [some (.ref l), some (.ref d), some (.ref fl), some (.ref a), some (.ref nl), y5] ∧ Ex H H' ∧ H' d = some (.dK kvs) ∧ NumD (renL vs0 (xs.take i)).2 kvs ∧ H' nl = some (.lst (renL vs0 (xs.take i)).1) ∧ H' fl = some (.lst (refs bs)) ∧ Rws K H' bs rr)
        ⟨kvs, y5, rfl, ex_new e1 hnl, by rw [upd_ne hnd.symm]; exact hd1, by simpa [renL] using hN1, upd_same, by rw [upd_ne hnf.symm]; exact hf1, hR1.mono fun _ _ z => ex_t (Ex.new hnl) z⟩ (fun i σ H' _ ⟨_, _, _, e, _⟩ => ex_t e hS) ?_ ?_
      · clear hnl hd1 hN1 hf1 hR1
        rintro i x σ H2 hi ⟨kvs, y5, rfl, e2, hd2, hN2, hn2, hf2, hR2⟩
        have hil : i < xs.length := (List.getElem?_eq_some_iff.mp hi).1
        have tk2 : xs.take (i + 1) = xs.take i ++ [x] := by rw [List.take_add_one, hi]; rfl
        have b1 := renL_len (xs.take i) vs0
        have b2 : (xs.take i).length ≤ i := by rw [List.length_take]; omega
        rw [tk2, renL_app]
        generalize renL vs0 (xs.take i) = pr at *
        obtain ⟨ns, vs⟩ := pr
        dsimp only at b1 hn2 hN2
        walk_at "go"
        rcases hxn x (List.mem_of_getElem? hi) with ⟨n, rfl⟩ | rfl
        · rw [renL_int]
          have hkl := hN2.1
          walk_at "go"
          refine w_dnotin hd2 ?_
          rw [hN2.2 n]
          by_cases hin : n ∈ vs
          · have hno : nodeNo vs n = vs := if_pos hin
            rw [if_pos hin, hno]
            simp only [Option.isSome_some, Bool.not_true]
            walk_at "go"
            refine w_dget hd2 (by rw [hN2.2 n, if_pos hin]) ?_
            walk_at "go"
            exact ⟨kvs, _, rfl, e2.mut hnl0, by rw [upd_ne hnd.symm]; exact hd2, hN2, upd_same, by rw [upd_ne hnf.symm]; exact hf2, hR2.lst hn2⟩
          · have hno : nodeNo vs n = vs ++ [n] := if_neg hin
            have hix : (vs ++ [n]).idxOf n = vs.length := by rw [List.idxOf_append, if_neg hin]; simp
            have hN3 := hN2.put hin
            rw [if_neg hin, hno, hix]
            simp only [Option.isSome_none, Bool.not_false]
            walk_at "go"
            refine ⟨d, kvs, rfl, hd2, ?_⟩
            walk_at "go"
            refine w_dput hd2 (ly_lt (by omega)) ?_
            rw [hkl]
            have hn3 : upd H2 d (.dK (putK kvs (.inl (n : Int)) (.int (vs.length : Nat)))) nl = some (.lst ns) := by rw [upd_ne hnd]; exact hn2
            have hf3 : upd H2 d (.dK (putK kvs (.inl (n : Int)) (.int (vs.length : Nat)))) fl = some (.lst (refs bs)) := by rw [upd_ne hfd]; exact hf2
            have hd3 : upd H2 d (.dK (putK kvs (.inl (n : Int)) (.int (vs.length : Nat)))) d = some (.dK (putK kvs (.inl (n : Int)) (.int (vs.length : Nat)))) := upd_same
            have hR3 := hR2.dic (zs := putK kvs (.inl (n : Int)) (.int (vs.length : Nat))) hd2
            have e3 := e2.mut hd (o := .dK (putK kvs (.inl (n : Int)) (.int (vs.length : Nat))))
            generalize upd H2 d (.dK (putK kvs (.inl (n : Int)) (.int (vs.length : Nat)))) = H3 at *
            walk_at "go"
            refine w_dget hd3 (by rw [hN3.2 n, if_pos (by simp), hix]) ?_
            walk_at "go"
            exact ⟨_, _, rfl, e3.mut hnl0, by rw [upd_ne hnd.symm]; exact hd3, hN3, upd_same, by rw [upd_ne hnf.symm]; exact hf3, hR3.lst hn3⟩
        · rw [renL_to]
          walk_at "go"
          exact ⟨kvs, _, rfl, e2.mut hnl0, by rw [upd_ne hnd.symm]; exact hd2, hN2, upd_same, by rw [upd_ne hnf.symm]; exact hf2, hR2.lst hn2⟩
      · clear hnl hd1 hN1 hf1 hR1
        rintro σ H2 ⟨kvs, y5, rfl, e2, hd2, hN2, hn2, hf2, hR2⟩
        rw [List.take_length] at hN2 hn2
        have b1 := renL_len xs vs0
        walk_at "go"
        intro p hp
        have hpf : fl ≠ p := ne_of_none hf2 hp
        have hpd : d ≠ p := ne_of_none hd2 hp
        have hf3 : upd H2 p (.tup (renL vs0 xs).1) fl = some (.lst (refs bs)) := by rw [upd_ne hpf]; exact hf2
        have hd3 : upd H2 p (.tup (renL vs0 xs).1) d = some (.dK kvs) := by rw [upd_ne hpd]; exact hd2
        have hp3 : SqT K (upd H2 p (.tup (renL vs0 xs).1)) p (renL vs0 xs).1 := SqT.of upd_same
        have hR3 := hR2.ex (Ex.new hp (o := .tup (renL vs0 xs).1))
        have e3 := ex_new e2 hp (o := .tup (renL vs0 xs).1)
        generalize upd H2 p (.tup (renL vs0 xs).1) = H3 at *
        walk_at "go"
        exact ⟨kvs, bs ++ [p], _, _, _, rfl, e3.mut hfl0, by rw [upd_ne hfd.symm]; exact hd3, hN2, by rw [upd_same]; simp [refs], (hR3.snoc hp3).lst hf3, by omega, by simp [hbl]⟩
    · rintro σ H1 ⟨kvs, bs, y3, y4, y5, rfl, e1, hd1, hN1, hf1, hR1, hL1, hbl⟩
      rw [List.length_map, hR.len, List.take_length] at hR1
      walk_at "go"
      exact q _ _ bs e1 hfl0 hf1 hR1
end
end Ly
set_option Elab.async false
set_option linter.all false
set_option maxRecDepth 100000
set_option maxHeartbeats 8000000
namespace Ly
open PySem PySem.Spec PyProof.Rows L2 Evl
local macro_rules | `(tactic| walk_at "ne") => `(tactic| first
  | assumption
  | ((refine' Ne.symm ?hq); (case hq => assumption))
  | ((refine' ne_of_none ?nh1 ?nh2); (case nh2 => assumption); (case nh1 => walk_at "hp"))
  | ((refine' Ne.symm (ne_of_none ?nh1 ?nh2)); (case nh2 => assumption); (case nh1 => walk_at "hp")))
local macro_rules | `(tactic| walk_at "hp") => `(tactic| first
  | assumption
  | exact upd_same
  | ((refine' SqL.of ?hq); (case hq => walk_at "hp"))
  | ((refine' SqT.of ?hq); (case hq => walk_at "hp"))
  | ((refine' (upd_ne ?hne).trans ?hrest); (case hne => walk_at "ne"); (case hrest => walk_at "hp"))
  | ((refine' ly_at ?hex ?hh); (case hex => assumption); (case hh => walk_at "hp"))
  | ((refine' ly_atF ?hex ?hnn ?hh); (case hex => assumption); (case hh => walk_at "hp"); (case hnn => walk_at "ne"))
  | ((refine' ex_t ?hex ?hh); (case hh => assumption); (case hex => walk_at "ex"))
  | ((refine' ex_l ?hex ?hh); (case hh => assumption); (case hex => walk_at "ex")))
local macro_rules | `(tactic| walk_at "ex") => `(tactic| first
  | assumption
  | exact Ex.refl _
  | ((refine' ex_new ?xa ?xb); (case xb => assumption); (case xa => walk_at "ex"))
  | ((refine' ex_upd ?xa ?xb); (case xb => walk_at "free"); (case xa => walk_at "ex"))
  | ((refine' Ex.trans ?xa ?xb); (case xb => assumption); (case xa => walk_at "ex")))
local macro_rules | `(tactic| walk_at "free") => `(tactic| first
  | assumption
  | ((refine' fresh_back ?xa ?xb); (case xb => assumption); (case xa => walk_at "ex")))
local macro_rules | `(tactic| walk_at "fr") => `(tactic| first
  | assumption
  | exact Fr.refl _ _
  | ((refine' Fr.own ?hq); (case hq => walk_at "fr"))
  | ((refine' Fr.new ?xa ?xb); (case xb => assumption); (case xa => walk_at "fr"))
  | ((refine' Fr.mut ?xa ?xb); (case xb => assumption); (case xa => walk_at "fr"))
  | ((refine' Fr.trans ?xa ?xb); (case xb => assumption); (case xa => walk_at "fr"))
  | ((refine' Fr.trans ?xa (Fr.ex ?xb)); (case xb => assumption); (case xa => walk_at "fr")))
local macro_rules | `(tactic| walk_at "go1") => `(tactic| first
  | (with_reducible refine' w_seq ?_)
  | (with_reducible refine' w_asg ?_)
  | (with_reducible refine' w_ret ?_)
  | (with_reducible refine' w_drop ?_)
  | (with_reducible refine' w_if ?_)
  | (with_reducible refine' w_next ?_)
  | (with_reducible refine' w_name ?_)
  | (with_reducible refine' w_sub ?_)
  | ((with_reducible refine' w_var ?hv ?_); (case hv => exact rfl))
  | (with_reducible refine' w_c ?_)
  | (with_reducible refine' w_op ?_)
  | (with_reducible refine' w_un ?_)
  | (with_reducible refine' w_ch ?_)
  | (with_reducible refine' w_I0 ?_)
  | ((with_reducible refine' w_I ?hc ?_); (case hc => first | (exact ly_mulL (by decide) (by decide)) | (exact ly_mulR (by decide) (by decide)) | (exact ly_mulL (by omega) (by omega)) | (show (_ : Int) ≠ 0; decide) | (show (_ : Int) ≠ 0; omega) | (exact ⟨by decide, by decide⟩) | (exact ⟨by omega, by omega⟩)))
  | (with_reducible refine' w_U ?_)
  | ((with_reducible refine' w_eq ?hs ?_); (case hs => exact rfl))
  | ((with_reducible refine' w_ne ?hs ?_); (case hs => exact rfl))
  | (with_reducible refine' w_isB ?_)
  | (with_reducible refine' w_notB ?_)
  | (with_reducible refine' w_nil ?_)
  | (with_reducible refine' w_cons ?_)
  | (with_reducible refine' w_tup ?_)
  | (with_reducible refine' w_lst ?_)
  | (with_reducible refine' w_cb ?_)
  | (with_reducible refine' w_call ?_)
  | (with_reducible refine' w_bm ?_)
  | (with_reducible refine' w_bm0 ?_)
  | ((with_reducible refine' w_app ?hh ?hz ?_); (case hh => walk_at "hp"); (case hz => first | exact ly_lt (by omega) | exact ly_lt (by simp only [List.length_append, List.length_map, List.length_cons, List.length_nil]; omega)))
  | ((with_reducible refine' w_popA ?hh ?_); (case hh => walk_at "hp"))
  | ((with_reducible refine' w_ext ?hh ?hh2 ?hz ?_); (case hh => walk_at "hp"); (case hh2 => walk_at "hp"))
  | ((with_reducible refine' w_ixL ?hh ?ha ?_); (case hh => walk_at "hp"); (case ha => first | exact rfl | exact at_map (by omega) | exact atI_last _ _ | ((refine' at_of ?ae ?ah); (case ah => assumption); (case ae => omega))))
  | ((with_reducible refine' w_ixT ?hh ?ha ?_); (case hh => walk_at "hp"); (case ha => first | exact rfl | exact at_map (by omega) | exact atI_last _ _ | ((refine' at_of ?ae ?ah); (case ah => assumption); (case ae => omega))))
  | ((with_reducible refine' w_cat ?hh ?hh2 ?hz ?_); (case hh => walk_at "hp"); (case hh2 => walk_at "hp"))
  | ((with_reducible refine' w_setL ?hh ?ha ?_); (case hh => walk_at "hp"); (case ha => exact rfl))
  | (with_reducible refine' w_test ?_)
  | (with_reducible refine' w_tB ?_)
  | (with_reducible refine' w_bl ?_)
  | (with_reducible refine' w_and ?_)
  | (with_reducible refine' w_or ?_)
  | (with_reducible refine' w_not ?_)
  | (with_reducible refine' w_andV ?_)
  | (with_reducible refine' w_orV ?_)
  | (with_reducible refine' w_notV ?_)
  | (with_reducible refine' w_ifE ?_)
  | (with_reducible refine' w_for ?_)
  | ((with_reducible refine' w_nin ?hh ?_); (case hh => walk_at "hp"))
  | ((with_reducible refine' w_sorted ?hh ?_); (case hh => walk_at "hp"))
  | (with_reducible refine' w_tsadd ?_)
  | ((with_reducible refine' w_tsadd1 ?hh ?_); (case hh => walk_at "hp"))
  | ((with_reducible refine' w_sadd ?hh ?hr ?_); (case hh => walk_at "hp"); (case hr => omega))
  | (with_reducible refine' w_iZ ?_)
  | ((with_reducible refine' w_iZ1 ?hh ?hh2 ?_); (case hh => walk_at "hp"); (case hh2 => walk_at "hp"))
  | (with_reducible refine' w_iS ?_)
  | (with_reducible refine' w_iS1 ?_)
  | ((with_reducible refine' w_gtup ?hh ?hn ?_); (case hh => walk_at "hp"); (case hn => exact rfl))
  | (with_reducible refine' w_gcons ?_)
  | (with_reducible refine' w_gnil ?_)
  | (with_reducible refine' w_js ?_)
  | (with_reducible refine' w_jsn ?_)
  | ((with_reducible refine' w_js1 ?hl ?_); (case hl => decide +kernel))
  | (with_reducible refine' w_fmt ?_)
  | ((with_reducible refine' w_fmt1 ?hl ?_); (case hl => decide +kernel))
  | (with_reducible refine' w_callS ?_)
  | ((with_reducible refine' w_truL ?hh ?_); (case hh => walk_at "hp"))
  | (with_reducible refine' w_lc ?_)
  | (with_reducible refine' w_yes ?_)
  | ((with_reducible refine' w_wipe ?he ?_); (case he => exact rfl))
  | (with_reducible refine' w_iL ?_)
  | (with_reducible refine' w_iT ?_)
  | (with_reducible refine' w_iR ?_)
  | ((with_reducible refine' w_iL1 ?hh ?_); (case hh => walk_at "hp"))
  | ((with_reducible refine' w_iT1 ?hh ?_); (case hh => walk_at "hp"))
  | ((with_reducible refine' w_iR1 ?h1 ?h2 ?_); (case h1 => omega); (case h2 => omega))
  | ((with_reducible refine' w_aug ?hv ?_); (case hv => exact rfl))
  | (with_reducible refine' w_ipI ?_)
  | ((with_reducible refine' w_isi ?hy ?hk ?_); (case hy => walk_at "ty"); (case hk => walk_at "kit"))
  | ((with_reducible refine' w_int ?_))
  | ((with_reducible refine' w_intB ?_))
  | ((with_reducible refine' w_abs ?_))
  | ((with_reducible refine' w_lenL ?hh ?_); (case hh => walk_at "hp"))
  | ((with_reducible refine' w_lenT ?hh ?_); (case hh => walk_at "hp"))
  | ((with_reducible refine' w_tupL ?hh ?_); (case hh => walk_at "hp"))
  | ((with_reducible refine' w_tupT ?hh ?_); (case hh => walk_at "hp"))
  | ((with_reducible refine' w_catA ?hh ?hh2 ?hz ?_); (case hh => walk_at "hp"); (case hh2 => walk_at "hp"); (case hz => walk_at "len"))
  | ((with_reducible refine' w_repB ?hh ?hne ?h2 ?h3 ?hz ?_); (case hh => walk_at "hp"); (case hne => simp); (case h2 => omega); (case h3 => omega); (case hz => exact Nat.le_of_ble_eq_true rfl))
  | ((with_reducible refine' w_eqN ?hh ?hh2 ?n1 ?n2 ?_); (case hh => walk_at "hp"); (case hh2 => walk_at "hp"); (case n1 => walk_at "nd"); (case n2 => walk_at "nd"))
  | ((with_reducible refine' w_neN ?hh ?hh2 ?n1 ?n2 ?_); (case hh => walk_at "hp"); (case hh2 => walk_at "hp"); (case n1 => walk_at "nd"); (case n2 => walk_at "nd"))
  | ((with_reducible refine' w_eqL ?hh ?hh2 ?n1 ?n2 ?_); (case hh => walk_at "hp"); (case hh2 => walk_at "hp"); (case n1 => walk_at "nd"); (case n2 => walk_at "nd"))
  | ((with_reducible refine' w_neL ?hh ?hh2 ?n1 ?n2 ?_); (case hh => walk_at "hp"); (case hh2 => walk_at "hp"); (case n1 => walk_at "nd"); (case n2 => walk_at "nd"))
  | ((with_reducible refine' w_neNon ?hh2 ?n2 ?_); (case hh2 => walk_at "hp"); (case n2 => walk_at "nd"))
  | ((with_reducible refine' w_eqNon ?hh2 ?n2 ?_); (case hh2 => walk_at "hp"); (case n2 => walk_at "nd"))
  | ((with_reducible refine' w_slA ?hh ?_); (case hh => walk_at "hp"))
  | ((with_reducible refine' w_disp ?hz ?_); (case hz => exact sz_of (Nat.le_of_ble_eq_true rfl)))
  | ((with_reducible refine' w_tyL ?hh ?_); (case hh => walk_at "hp"))
  | (with_reducible refine' iteT ?_)
  | (with_reducible refine' iteF ?_)
  | (with_reducible refine' w_nT ?_)
  | (with_reducible refine' w_nn ?_)
  | (with_reducible refine' w_nnT ?_)
  | (with_reducible refine' w_nnR ?_)
  | (with_reducible refine' w_neG ?_)
  | (with_reducible refine' w_eqG ?_)
  | (with_reducible refine' w_neS ?_)
  | (with_reducible refine' w_eqS ?_)
  | (with_reducible refine' w_neSb ?_)
  | (with_reducible refine' w_eqSb ?_)
  | (with_reducible refine' w_deIS ?_)
  | (with_reducible refine' w_deSI ?_)
  | (with_reducible refine' w_deISn ?_)
  | ((with_reducible refine' w_deST ?he ?_); (case he => decide +kernel))
  | ((with_reducible refine' w_deSF ?he ?_); (case he => decide +kernel))
  | ((with_reducible refine' w_deSTn ?he ?_); (case he => decide +kernel))
  | ((with_reducible refine' w_deSFn ?he ?_); (case he => decide +kernel))
  | (with_reducible refine' w_nF ?_)
  | dsimp only [Bool.not_true, Bool.not_false])
local macro_rules | `(tactic| walk_at "ty") => `(tactic| first
  | exact .base (.int _) | exact .base (.str _) | exact .base (.bl _) | exact .base .non
  | ((refine' tyx_t ?hq); (case hq => walk_at "hp")) | ((refine' tyx_l ?hq); (case hq => walk_at "hp")) | ((refine' .base (.tup ?hq)); (case hq => walk_at "hp")) | assumption)
local macro_rules | `(tactic| walk_at "go") => `(tactic| repeat walk_at "go1")
local macro_rules | `(tactic| walk_at "st") => `(tactic| try dsimp only [cxOf, Cx.nox, Cx.wish])
local macro_rules | `(tactic| walk_at "kit") => `(tactic| with_reducible first | exact kit_int_int | exact kit_int_str | exact kit_int_bool | exact kit_int_tuple | exact kit_int_list | exact kit_str_int | exact kit_str_str | exact kit_str_bool | exact kit_str_tuple | exact kit_str_list | exact kit_bool_int | exact kit_bool_str | exact kit_bool_bool | exact kit_bool_tuple | exact kit_bool_list | exact kit_NoneType_int | exact kit_NoneType_str | exact kit_NoneType_bool | exact kit_NoneType_tuple | exact kit_NoneType_list | exact kit_list_int | exact kit_list_str | exact kit_list_bool | exact kit_list_tuple | exact kit_list_list | exact kit_tuple_int | exact kit_tuple_str | exact kit_tuple_bool | exact kit_tuple_tuple | exact kit_tuple_list)
local macro_rules | `(tactic| walk_at "nd") => `(tactic| first
  | assumption
  | exact Tm.nds _
  | exact Nds.nil
  | exact Nds.ofInts _
  | ((refine' Nds.cons ?na ?nb); (case na => first | exact Nds.I _ | exact Nds.L | exact Nds.A); (case nb => walk_at "nd"))
  | ((refine' Nds.app ?na ?nb); (case na => walk_at "nd"); (case nb => walk_at "nd"))
  | ((refine' Nds.rep ?na _); (case na => walk_at "nd")))
local macro_rules | `(tactic| walk_at "len") => `(tactic| first
  | exact ly_sz (by omega)
  | ((simp only [List.length_append, List.length_cons, List.length_nil, List.length_map, PyProof.Rows.lm_len_rep_flat]); exact ly_sz (by omega)))
local macro_rules | `(tactic| walk_at "go1") => `(tactic| first
  | (with_reducible refine' w_kget2 ?_)
  | (with_reducible refine' w_isRN ?_)
  | (with_reducible refine' w_isNN ?_)
  | (with_reducible refine' w_isIN ?_)
  | ((with_reducible refine' w_kg ?hd ?_); (case hd => assumption)))
local macro_rules | `(tactic| walk_at "go1") => `(tactic| first
  | ((with_reducible refine' w_extT ?hh ?hh2 ?hz ?_); (case hh => walk_at "hp"); (case hh2 => walk_at "hp"))
  | ((with_reducible refine' w_I ?hc ?_); (case hc => exact ⟨by decide, by decide, by decide⟩))
  | (with_reducible refine' w_sl ?_)
  | (with_reducible refine' w_noP ?_)
  | (with_reducible refine' w_part ?_)
  | (with_reducible refine' w_part1 ?_)
  | (with_reducible refine' w_it ?_)
  | (with_reducible refine' w_it1 ?_)
  | ((with_reducible refine' w_lenZ ?hz ?_); (case hz => omega))
  | ((with_reducible refine' w_addZb ?hz ?_); (case hz => omega))
  | ((with_reducible refine' w_addZf ?hz ?_); (case hz => omega))
  | ((with_reducible refine' w_addZa ?hz ?_); (case hz => omega))
  | ((with_reducible refine' w_inS ?hh ?_); (case hh => walk_at "hp"))
  | ((with_reducible refine' w_ixT ?hh ?ha ?_); (case hh => assumption); (case ha => exact atI_nat (by assumption))))
local macro_rules | `(tactic| walk_at "go1") => `(tactic| first
  | (with_reducible refine' w_iR2 ?_)
  | ((with_reducible refine' w_iR21 ?h1 ?h2 ?h3 ?h4 ?_); (case h1 => omega); (case h2 => omega); (case h3 => omega); (case h4 => omega))
  | (with_reducible refine' w_nnI ?_)
  | (with_reducible refine' w_max ?_)
  | (with_reducible refine' w_break ?_)
  | (with_reducible refine' w_cont ?_))
local macro_rules | `(tactic| walk_at "go1") => `(tactic| first
  | (with_reducible refine' w_tdget ?_)
  | (with_reducible refine' w_tdin ?_)
  | (with_reducible refine' w_tdnotin ?_)
  | (with_reducible refine' w_sdput ?_)
  | (with_reducible refine' w_tdsetd ?_)
  | (with_reducible refine' w_dnew ?_))
section
variable {P : Program} {w : World} {K : PySem.W.Frag} {mg : Str → Option Value} {base : Heap} {tk : Nat → Tok} {cl : Nat → Addr}
def spCountK : Sp := fun vs H Q _ => ∃ v, vs = [v] ∧ (((∃ n : Nat, v = .int n) ∧ Q (.int 0) H) ∨ (v = .str "to" ∧ Q (.int 2) H))
theorem ok_part_countK {f : Addr} {fd : FuncData} {k : Nat} (F : Fun K "part_count" "part_count" s_part_count f fd) (T : Txt w K mg tk cl) : FnOk P w K mg base CX0 (k + 1) f fd ["node"] spCountK := by
  refine F.ok sc_part_count (fun vs H Q E h => ?_) (fun cdv A outer s H vs Q E hr h => ?_)
  · obtain ⟨v, rfl, _⟩ := h
    rfl
  · obtain ⟨v, rfl, h⟩ := h
    refine ⟨_, (pss_one (ps_ret (pe_kget2 (pe_glob (v := .ref (cl 40)) (by rfl) T.g_PART_COUNTS (by rfl)) (pv 0) pe_int ⟨by rfl, by rfl, by rfl, by rfl⟩))), ?_⟩
    refine sl_of (σ2 := [some _]) rfl ?_
    walk_at "st"
    have hd := T.d_PART_COUNTS
    rcases h with ⟨⟨n, rfl⟩, q⟩ | ⟨rfl, q⟩
    · walk_at "go"
      exact ⟨kV_int _, q⟩
    · walk_at "go"
      exact ⟨kV_str _, q_eq q (by decide +kernel)⟩
def spKEnd (K : PySem.W.Frag) : Sp := fun vs H Q _ => ∃ (a : Addr) (xs : List V) (s : Nat) (u : Kt) (post : List V), vs = [.ref a, .int (s : Int)] ∧ SqT K H a xs ∧ xs.drop s = u.enc ++ post ∧ xs.length ≤ 2000000 ∧ Q (.int ((s + u.enc.length : Nat) : Int)) H
theorem ok_end_ofK {f : Addr} {fd : FuncData} (F : Fun K "end_of" "end_of" s_end_of f fd) (T : Txt w K mg tk cl)
    (D1 : Def P w K mg base CX0 1 "part_count" ["node"] spCountK) : FnOk P w K mg base CX0 2 f fd ["term", "start"] (spKEnd K) := by
  obtain ⟨f1, fd1, g_part_count, kp_part_count, b_part_count, G_part_count⟩ := D1
  refine F.ok sc_end_of (fun vs H Q E h => ?_) (fun cdv A outer s H vs Q E hr h => ?_)
  · obtain ⟨a, xs, s, u, post, rfl, _⟩ := h
    rfl
  · obtain ⟨a, xs, s, u, post, rfl, hS, hu, hlen, q⟩ := h
    refine ⟨_, (pss_cons (ps_set (i := 2) sc_end_of.nd rfl (.inl rfl) pe_int) (pss_cons (ps_set (i := 3) sc_end_of.nd rfl (.inl rfl) (pv 1)) (pss_cons (ps_while PassesOwn.never (pt_cmpR op_gt (pv 2) pe_int (nomark _)) (pss_cons (ps_aug (i := 2) sc_end_of.nd rfl (.inl rfl) (pe_op op_sub (pe_call G_part_count (hr.mono (by first | decide | omega)) (by rfl) g_part_count kp_part_count b_part_count .nil pass0 (pa_cons (pe_ix ix_tup (pv 0) (pv 3) (fun _ _ => rfl)) pa_nil)) pe_int) ip_add) (pss_one (ps_aug (i := 3) sc_end_of.nd rfl (.inl rfl) pe_int ip_add)))) (pss_one (ps_ret (pv 3)))))), ?_⟩
    refine sl_of (σ2 := [some _, some _, none, none]) rfl ?_
    walk_at "st"
    walk_at "go"
    refine w_while (fun m σ H' => H' = H ∧ ∃ (e : Nat) (ts : List Kt), σ = [some (.ref a), some (.int (s : Int)), some (.int (ts.length : Int)), some (.int (e : Int))] ∧ KEnd xs (s + u.enc.length) e ts ∧ m = s + u.enc.length - e) _ ⟨rfl, s, [u], rfl, KEnd.start hu, rfl⟩ ?_
    rintro m σ H ⟨rfl, e, ts, rfl, inv, rfl⟩
    walk_at "go"
    cases ts with
    | nil =>
      have h2 := inv.nil
      walk_at "go"
      refine w_br (fun h => by simp at h) (fun _ => ?_)
      walk_at "go"
      rw [h2]
      exact q
    | cons t ts =>
      obtain ⟨lt, lx, hstep⟩ := inv.step
      refine w_br (fun h => ?_) (fun h => absurd h (by simp))
      refine ⟨fun σ' H' => H' = H ∧ ∃ (e' : Nat) (ts2 : List Kt), σ' = [some (.ref a), some (.int (s : Int)), some (.int (ts2.length : Int)), some (.int (e' : Int))] ∧ KEnd xs (s + u.enc.length) e' ts2 ∧ e' = e + 1, fun σ' H' ⟨h1, e', ts2, h2, h3, h4⟩ => ⟨_, ?_, h1, e', ts2, h2, h3, rfl⟩, ?_⟩
      · omega
      · rcases hstep with ⟨n, hx, inv'⟩ | ⟨b, c, hx, inv'⟩
        · walk_at "go"
          refine ⟨_, rfl, .inl ⟨⟨n, rfl⟩, ?_⟩⟩
          walk_at "go"
          exact ⟨rfl, e + 1, ts, by rw [show (((t :: ts).length : Nat) : Int) + (0 - 1) = (ts.length : Int) by rw [List.length_cons]; omega]; rfl, inv', rfl⟩
        · walk_at "go"
          refine ⟨_, rfl, .inr ⟨rfl, ?_⟩⟩
          walk_at "go"
          exact ⟨rfl, e + 1, b :: c :: ts, by rw [show (((t :: ts).length : Nat) : Int) + (2 - 1) = ((b :: c :: ts).length : Int) by rw [List.length_cons, List.length_cons, List.length_cons]; omega]; rfl, inv', rfl⟩
theorem ok_kend {f : Addr} {fd : FuncData} {k : Nat} (F : Fun K "_law_kind_end" "_law_kind_end" s_law_kind_end f fd) (T : Txt w K mg tk cl) : FnOk P w K mg base CX0 (k + 1) f fd ["kind", "at"] (spKEnd K) := by
  refine F.ok sc_law_kind_end (fun vs H Q E h => ?_) (fun cdv A outer s H vs Q E hr h => ?_)
  · obtain ⟨a, xs, s, u, post, rfl, _⟩ := h
    rfl
  · obtain ⟨a, xs, s, u, post, rfl, hS, hu, hlen, q⟩ := h
    refine ⟨_, (pss_cons (ps_set (i := 2) sc_law_kind_end.nd rfl (.inl rfl) pe_int) (pss_cons (ps_while PassesOwn.never (pt_cmpR op_gt (pv 2) pe_int (nomark _)) (pss_cons (ps_set (i := 2) sc_law_kind_end.nd rfl (.inl rfl) (pe_op op_sub (pv 2) pe_int)) (pss_cons (ps_if (pt_cmpR op_eq (pe_ix ix_tup (pv 0) (pv 1) (fun _ _ => rfl)) pe_str (nomark _)) (pss_one (ps_set (i := 2) sc_law_kind_end.nd rfl (.inl rfl) (pe_op op_add (pv 2) pe_int))) pss_nil) (pss_one (ps_set (i := 1) sc_law_kind_end.nd rfl (.inl rfl) (pe_op op_add (pv 1) pe_int)))))) (pss_one (ps_ret (pv 1))))), ?_⟩
    refine sl_of (σ2 := [some _, some _, none]) rfl ?_
    walk_at "st"
    walk_at "go"
    refine w_while (fun m σ H' => H' = H ∧ ∃ (e : Nat) (ts : List Kt), σ = [some (.ref a), some (.int (e : Int)), some (.int (ts.length : Int))] ∧ KEnd xs (s + u.enc.length) e ts ∧ m = s + u.enc.length - e) _ ⟨rfl, s, [u], rfl, KEnd.start hu, rfl⟩ ?_
    rintro m σ H ⟨rfl, e, ts, rfl, inv, rfl⟩
    walk_at "go"
    cases ts with
    | nil =>
      have h2 := inv.nil
      walk_at "go"
      refine w_br (fun h => by simp at h) (fun _ => ?_)
      walk_at "go"
      rw [h2]
      exact q
    | cons t ts =>
      obtain ⟨lt, lx, hstep⟩ := inv.step
      refine w_br (fun h => ?_) (fun h => absurd h (by simp))
      refine ⟨fun σ' H' => H' = H ∧ ∃ (e' : Nat) (ts2 : List Kt), σ' = [some (.ref a), some (.int (e' : Int)), some (.int (ts2.length : Int))] ∧ KEnd xs (s + u.enc.length) e' ts2 ∧ e' = e + 1, fun σ' H' ⟨h1, e', ts2, h2, h3, h4⟩ => ⟨_, ?_, h1, e', ts2, h2, h3, rfl⟩, ?_⟩
      · omega
      · rcases hstep with ⟨n, hx, inv'⟩ | ⟨b, c, hx, inv'⟩
        · walk_at "go"
          exact ⟨rfl, e + 1, ts, by rw [show (((t :: ts).length : Nat) : Int) - 1 = (ts.length : Int) by rw [List.length_cons]; omega]; rfl, inv', rfl⟩
        · walk_at "go"
          exact ⟨rfl, e + 1, b :: c :: ts, by rw [show (((t :: ts).length : Nat) : Int) - 1 + 2 = ((b :: c :: ts).length : Int) by rw [List.length_cons, List.length_cons, List.length_cons]; omega]; rfl, inv', rfl⟩
def spRpl (K : PySem.W.Frag) : Sp := fun vs H Q _ => ∃ (a d : Addr) (t : Kt) (kvs : List (L2.Key × V)) (g : Nat → Option Kt), vs = [.ref a, .ref d] ∧ SqT K H a t.enc ∧ H d = some (.dK kvs) ∧ Tab K H kvs g ∧ t.enc.length ≤ 1000 ∧ (∀ n u, g n = some u → u.enc.length ≤ 1000) ∧ ∀ H' p, Ex H H' → SqT K H' p (t.rpl g).enc → Q (.ref p) H'
theorem ok_rpl {f : Addr} {fd : FuncData} {k : Nat} (F : Fun K "_law_replaced" "_law_replaced" s_law_replaced f fd) (T : Txt w K mg tk cl) : FnOk P w K mg base CX0 (k + 1) f fd ["kind", "table"] (spRpl K) := by
  refine F.ok sc_law_replaced (fun vs H Q E h => ?_) (fun cdv A outer s H vs Q E hr h => ?_)
  · obtain ⟨a, d, t, kvs, g, rfl, _⟩ := h
    rfl
  · obtain ⟨a, d, t, kvs, g, rfl, hS, hd, hT, hl, hg, q⟩ := h
    refine ⟨_, (pss_cons (ps_set (i := 2) sc_law_replaced.nd rfl (.inl rfl) (pe_lst pa_nil)) (pss_cons (ps_for PassesOwn.never rfl (pi_tup (pv 0)) (pg_name (i := 3) sc_law_replaced.nd rfl (.inl rfl)) (pss_one (ps_if (PW.pt (pw_and (pt_val (pe_callB call_isi (by rfl) T.n_isinstance (by decide +kernel) (pa_cons (pv 3) (pa_cons (pe_bltn (v := .ty "int") (by rfl) T.n_int (by decide +kernel) rfl) pa_nil)))) (pw_and1 (pt_cmp (pc_din (by exact Nat.lt_of_le_of_lt (Nat.add_le_add_left (by decide) _) hr.units) (pv 3) (pv 1)))))) (pss_one (ps_expr (pe_bm PySem.F.plainAttrs_list PySem.F.slot_list_extend PySem.F.type_list_extend mt_extT (pv 2) (pa_cons (pe_dget (by exact Nat.lt_of_le_of_lt (Nat.add_le_add_left (by decide) _) hr.units) (pv 1) (pv 3) (fun _ _ => rfl)) pa_nil)))) (pss_one (ps_expr (pe_bm PySem.F.plainAttrs_list PySem.F.slot_list_append PySem.F.type_list_append mt_append (pv 2) (pa_cons (pv 3) pa_nil))))))) (pss_one (ps_ret (pe_callTy call_tuple_of (by rfl) T.n_tuple (by decide +kernel) (pa_cons (pv 2) pa_nil)))))), ?_⟩
    refine sl_of (σ2 := [some _, some _, none, none]) rfl ?_
    walk_at "st"
    walk_at "go"
    intro nl hnl
    have hdn : d ≠ nl := ne_of_none hd hnl
    walk_at "go"
    refine for_tup (K := K) (a := a) (xs := t.enc) (fun i σ H' => ∃ (y3 : Option V), σ = [some (.ref a), some (.ref d), some (.ref nl), y3] ∧ Ex H H' ∧ H' nl = some (.lst ((t.enc.take i).map (rplV g)).flatten) ∧ (((t.enc.take i).map (rplV g)).flatten).length ≤ 1000 * i)
      ⟨none, rfl, Ex.new hnl, upd_same, by simp⟩ (fun i σ H' _ ⟨_, _, e, _⟩ => ex_t e hS) ?_ ?_
    · rintro i x σ H2 hi ⟨y3, rfl, e2, hn2, hl2⟩
      have hil : i < t.enc.length := (List.getElem?_eq_some_iff.mp hi).1
      have tk : ((t.enc.take (i + 1)).map (rplV g)).flatten = ((t.enc.take i).map (rplV g)).flatten ++ rplV g x := by rw [List.take_add_one, hi]; simp
      rw [tk]
      generalize ((t.enc.take i).map (rplV g)).flatten = ns at *
      have hd2 := e2 _ _ hd
      walk_at "go"
      rcases t.nodes x (List.mem_of_getElem? hi) with ⟨n, rfl⟩ | rfl
      · walk_at "go"
        refine w_din hd2 ?_
        rcases hT n with ⟨hgn, hv⟩ | ⟨u, b, hgn, hv, hb⟩
        · have er : rplV g (.int (n : Int)) = [.int (n : Int)] := by simp [rplV, hgn, Kt.enc]
          rw [hv, er]
          simp only [Option.isSome_none]
          walk_at "go"
          exact ⟨_, rfl, e2.mut hnl, upd_same, by rw [List.length_append, List.length_singleton]; omega⟩
        · have er : rplV g (.int (n : Int)) = u.enc := by simp [rplV, hgn]
          rw [hv, er]
          simp only [Option.isSome_some]
          have hul := hg n u hgn
          have hb2 := ex_t e2 hb
          walk_at "go"
          refine w_dget hd2 hv ?_
          walk_at "go"
          · exact ly_sz (by omega)
          exact ⟨_, rfl, e2.mut hnl, upd_same, by rw [List.length_append]; omega⟩
      · have er : rplV g (.str "to") = [.str "to"] := rfl
        rw [er]
        walk_at "go"
        exact ⟨_, rfl, e2.mut hnl, upd_same, by rw [List.length_append, List.length_singleton]; omega⟩
    · rintro σ H2 ⟨y3, rfl, e2, hn2, hl2⟩
      rw [List.take_length, ← Kt.rpl_enc] at hn2
      walk_at "go"
      intro p hp
      exact q _ p (ex_new e2 hp) (SqT.of upd_same)
end
end Ly
set_option Elab.async false
set_option linter.all false
set_option maxRecDepth 100000
set_option maxHeartbeats 8000000
namespace Ly
open PySem PySem.Spec PyProof.Rows L2 Evl
local macro_rules | `(tactic| walk_at "ne") => `(tactic| first
  | assumption
  | ((refine' Ne.symm ?hq); (case hq => assumption))
  | ((refine' ne_of_none ?nh1 ?nh2); (case nh2 => assumption); (case nh1 => walk_at "hp"))
  | ((refine' Ne.symm (ne_of_none ?nh1 ?nh2)); (case nh2 => assumption); (case nh1 => walk_at "hp")))
local macro_rules | `(tactic| walk_at "hp") => `(tactic| first
  | assumption
  | exact upd_same
  | ((refine' SqL.of ?hq); (case hq => walk_at "hp"))
  | ((refine' SqT.of ?hq); (case hq => walk_at "hp"))
  | ((refine' (upd_ne ?hne).trans ?hrest); (case hne => walk_at "ne"); (case hrest => walk_at "hp"))
  | ((refine' ly_at ?hex ?hh); (case hex => assumption); (case hh => walk_at "hp"))
  | ((refine' ly_atF ?hex ?hnn ?hh); (case hex => assumption); (case hh => walk_at "hp"); (case hnn => walk_at "ne"))
  | ((refine' ex_t ?hex ?hh); (case hh => assumption); (case hex => walk_at "ex"))
  | ((refine' ex_l ?hex ?hh); (case hh => assumption); (case hex => walk_at "ex")))
local macro_rules | `(tactic| walk_at "ex") => `(tactic| first
  | assumption
  | exact Ex.refl _
  | ((refine' ex_new ?xa ?xb); (case xb => assumption); (case xa => walk_at "ex"))
  | ((refine' ex_upd ?xa ?xb); (case xb => walk_at "free"); (case xa => walk_at "ex"))
  | ((refine' Ex.trans ?xa ?xb); (case xb => assumption); (case xa => walk_at "ex")))
local macro_rules | `(tactic| walk_at "free") => `(tactic| first
  | assumption
  | ((refine' fresh_back ?xa ?xb); (case xb => assumption); (case xa => walk_at "ex")))
local macro_rules | `(tactic| walk_at "fr") => `(tactic| first
  | assumption
  | exact Fr.refl _ _
  | ((refine' Fr.own ?hq); (case hq => walk_at "fr"))
  | ((refine' Fr.new ?xa ?xb); (case xb => assumption); (case xa => walk_at "fr"))
  | ((refine' Fr.mut ?xa ?xb); (case xb => assumption); (case xa => walk_at "fr"))
  | ((refine' Fr.trans ?xa ?xb); (case xb => assumption); (case xa => walk_at "fr"))
  | ((refine' Fr.trans ?xa (Fr.ex ?xb)); (case xb => assumption); (case xa => walk_at "fr")))
local macro_rules | `(tactic| walk_at "go1") => `(tactic| first
  | (with_reducible refine' w_seq ?_)
  | (with_reducible refine' w_asg ?_)
  | (with_reducible refine' w_ret ?_)
  | (with_reducible refine' w_drop ?_)
  | (with_reducible refine' w_if ?_)
  | (with_reducible refine' w_next ?_)
  | (with_reducible refine' w_name ?_)
  | (with_reducible refine' w_sub ?_)
  | ((with_reducible refine' w_var ?hv ?_); (case hv => exact rfl))
  | (with_reducible refine' w_c ?_)
  | (with_reducible refine' w_op ?_)
  | (with_reducible refine' w_un ?_)
  | (with_reducible refine' w_ch ?_)
  | (with_reducible refine' w_I0 ?_)
  | ((with_reducible refine' w_I ?hc ?_); (case hc => first | (exact ly_mulL (by decide) (by decide)) | (exact ly_mulR (by decide) (by decide)) | (exact ly_mulL (by omega) (by omega)) | (show (_ : Int) ≠ 0; decide) | (show (_ : Int) ≠ 0; omega) | (exact ⟨by decide, by decide⟩) | (exact ⟨by omega, by omega⟩)))
  | (with_reducible refine' w_U ?_)
  | ((with_reducible refine' w_eq ?hs ?_); (case hs => exact rfl))
  | ((with_reducible refine' w_ne ?hs ?_); (case hs => exact rfl))
  | (with_reducible refine' w_isB ?_)
  | (with_reducible refine' w_notB ?_)
  | (with_reducible refine' w_nil ?_)
  | (with_reducible refine' w_cons ?_)
  | (with_reducible refine' w_tup ?_)
  | (with_reducible refine' w_lst ?_)
  | (with_reducible refine' w_cb ?_)
  | (with_reducible refine' w_call ?_)
  | (with_reducible refine' w_bm ?_)
  | (with_reducible refine' w_bm0 ?_)
  | ((with_reducible refine' w_app ?hh ?hz ?_); (case hh => walk_at "hp"); (case hz => first | exact ly_lt (by omega) | exact ly_lt (by simp only [List.length_append, List.length_map, List.length_cons, List.length_nil]; omega)))
  | ((with_reducible refine' w_popA ?hh ?_); (case hh => walk_at "hp"))
  | ((with_reducible refine' w_ext ?hh ?hh2 ?hz ?_); (case hh => walk_at "hp"); (case hh2 => walk_at "hp"))
  | ((with_reducible refine' w_ixL ?hh ?ha ?_); (case hh => walk_at "hp"); (case ha => first | exact rfl | exact at_map (by omega) | exact atI_last _ _ | ((refine' at_of ?ae ?ah); (case ah => assumption); (case ae => omega))))
  | ((with_reducible refine' w_ixT ?hh ?ha ?_); (case hh => walk_at "hp"); (case ha => first | exact rfl | exact at_map (by omega) | exact atI_last _ _ | ((refine' at_of ?ae ?ah); (case ah => assumption); (case ae => omega))))
  | ((with_reducible refine' w_cat ?hh ?hh2 ?hz ?_); (case hh => walk_at "hp"); (case hh2 => walk_at "hp"))
  | ((with_reducible refine' w_setL ?hh ?ha ?_); (case hh => walk_at "hp"); (case ha => exact rfl))
  | (with_reducible refine' w_test ?_)
  | (with_reducible refine' w_tB ?_)
  | (with_reducible refine' w_bl ?_)
  | (with_reducible refine' w_and ?_)
  | (with_reducible refine' w_or ?_)
  | (with_reducible refine' w_not ?_)
  | (with_reducible refine' w_andV ?_)
  | (with_reducible refine' w_orV ?_)
  | (with_reducible refine' w_notV ?_)
  | (with_reducible refine' w_ifE ?_)
  | (with_reducible refine' w_for ?_)
  | ((with_reducible refine' w_nin ?hh ?_); (case hh => walk_at "hp"))
  | ((with_reducible refine' w_sorted ?hh ?_); (case hh => walk_at "hp"))
  | (with_reducible refine' w_tsadd ?_)
  | ((with_reducible refine' w_tsadd1 ?hh ?_); (case hh => walk_at "hp"))
  | ((with_reducible refine' w_sadd ?hh ?hr ?_); (case hh => walk_at "hp"); (case hr => omega))
  | (with_reducible refine' w_iZ ?_)
  | ((with_reducible refine' w_iZ1 ?hh ?hh2 ?_); (case hh => walk_at "hp"); (case hh2 => walk_at "hp"))
  | (with_reducible refine' w_iS ?_)
  | (with_reducible refine' w_iS1 ?_)
  | ((with_reducible refine' w_gtup ?hh ?hn ?_); (case hh => walk_at "hp"); (case hn => exact rfl))
  | (with_reducible refine' w_gcons ?_)
  | (with_reducible refine' w_gnil ?_)
  | (with_reducible refine' w_js ?_)
  | (with_reducible refine' w_jsn ?_)
  | ((with_reducible refine' w_js1 ?hl ?_); (case hl => decide +kernel))
  | (with_reducible refine' w_fmt ?_)
  | ((with_reducible refine' w_fmt1 ?hl ?_); (case hl => decide +kernel))
  | (with_reducible refine' w_callS ?_)
  | ((with_reducible refine' w_truL ?hh ?_); (case hh => walk_at "hp"))
  | (with_reducible refine' w_lc ?_)
  | (with_reducible refine' w_yes ?_)
  | ((with_reducible refine' w_wipe ?he ?_); (case he => exact rfl))
  | (with_reducible refine' w_iL ?_)
  | (with_reducible refine' w_iT ?_)
  | (with_reducible refine' w_iR ?_)
  | ((with_reducible refine' w_iL1 ?hh ?_); (case hh => walk_at "hp"))
  | ((with_reducible refine' w_iT1 ?hh ?_); (case hh => walk_at "hp"))
  | ((with_reducible refine' w_iR1 ?h1 ?h2 ?_); (case h1 => omega); (case h2 => omega))
  | ((with_reducible refine' w_aug ?hv ?_); (case hv => exact rfl))
  | (with_reducible refine' w_ipI ?_)
  | ((with_reducible refine' w_isi ?hy ?hk ?_); (case hy => walk_at "ty"); (case hk => walk_at "kit"))
  | ((with_reducible refine' w_int ?_))
  | ((with_reducible refine' w_intB ?_))
  | ((with_reducible refine' w_abs ?_))
  | ((with_reducible refine' w_lenL ?hh ?_); (case hh => walk_at "hp"))
  | ((with_reducible refine' w_lenT ?hh ?_); (case hh => walk_at "hp"))
  | ((with_reducible refine' w_tupL ?hh ?_); (case hh => walk_at "hp"))
  | ((with_reducible refine' w_tupT ?hh ?_); (case hh => walk_at "hp"))
  | ((with_reducible refine' w_catA ?hh ?hh2 ?hz ?_); (case hh => walk_at "hp"); (case hh2 => walk_at "hp"); (case hz => walk_at "len"))
  | ((with_reducible refine' w_repB ?hh ?hne ?h2 ?h3 ?hz ?_); (case hh => walk_at "hp"); (case hne => simp); (case h2 => omega); (case h3 => omega); (case hz => exact Nat.le_of_ble_eq_true rfl))
  | ((with_reducible refine' w_eqN ?hh ?hh2 ?n1 ?n2 ?_); (case hh => walk_at "hp"); (case hh2 => walk_at "hp"); (case n1 => walk_at "nd"); (case n2 => walk_at "nd"))
  | ((with_reducible refine' w_neN ?hh ?hh2 ?n1 ?n2 ?_); (case hh => walk_at "hp"); (case hh2 => walk_at "hp"); (case n1 => walk_at "nd"); (case n2 => walk_at "nd"))
  | ((with_reducible refine' w_eqL ?hh ?hh2 ?n1 ?n2 ?_); (case hh => walk_at "hp"); (case hh2 => walk_at "hp"); (case n1 => walk_at "nd"); (case n2 => walk_at "nd"))
  | ((with_reducible refine' w_neL ?hh ?hh2 ?n1 ?n2 ?_); (case hh => walk_at "hp"); (case hh2 => walk_at "hp"); (case n1 => walk_at "nd"); (case n2 => walk_at "nd"))
  | ((with_reducible refine' w_neNon ?hh2 ?n2 ?_); (case hh2 => walk_at "hp"); (case n2 => walk_at "nd"))
  | ((with_reducible refine' w_eqNon ?hh2 ?n2 ?_); (case hh2 => walk_at "hp"); (case n2 => walk_at "nd"))
  | ((with_reducible refine' w_slA ?hh ?_); (case hh => walk_at "hp"))
  | ((with_reducible refine' w_disp ?hz ?_); (case hz => exact sz_of (Nat.le_of_ble_eq_true rfl)))
  | ((with_reducible refine' w_tyL ?hh ?_); (case hh => walk_at "hp"))
  | (with_reducible refine' iteT ?_)
  | (with_reducible refine' iteF ?_)
  | (with_reducible refine' w_nT ?_)
  | (with_reducible refine' w_nn ?_)
  | (with_reducible refine' w_nnT ?_)
  | (with_reducible refine' w_nnR ?_)
  | (with_reducible refine' w_neG ?_)
  | (with_reducible refine' w_eqG ?_)
  | (with_reducible refine' w_neS ?_)
  | (with_reducible refine' w_eqS ?_)
  | (with_reducible refine' w_neSb ?_)
  | (with_reducible refine' w_eqSb ?_)
  | (with_reducible refine' w_deIS ?_)
  | (with_reducible refine' w_deSI ?_)
  | (with_reducible refine' w_deISn ?_)
  | ((with_reducible refine' w_deST ?he ?_); (case he => decide +kernel))
  | ((with_reducible refine' w_deSF ?he ?_); (case he => decide +kernel))
  | ((with_reducible refine' w_deSTn ?he ?_); (case he => decide +kernel))
  | ((with_reducible refine' w_deSFn ?he ?_); (case he => decide +kernel))
  | (with_reducible refine' w_nF ?_)
  | dsimp only [Bool.not_true, Bool.not_false])
local macro_rules | `(tactic| walk_at "ty") => `(tactic| first
  | exact .base (.int _) | exact .base (.str _) | exact .base (.bl _) | exact .base .non
  | ((refine' tyx_t ?hq); (case hq => walk_at "hp")) | ((refine' tyx_l ?hq); (case hq => walk_at "hp")) | ((refine' .base (.tup ?hq)); (case hq => walk_at "hp")) | assumption)
local macro_rules | `(tactic| walk_at "go") => `(tactic| repeat walk_at "go1")
local macro_rules | `(tactic| walk_at "st") => `(tactic| try dsimp only [cxOf, Cx.nox, Cx.wish])
local macro_rules | `(tactic| walk_at "kit") => `(tactic| with_reducible first | exact kit_int_int | exact kit_int_str | exact kit_int_bool | exact kit_int_tuple | exact kit_int_list | exact kit_str_int | exact kit_str_str | exact kit_str_bool | exact kit_str_tuple | exact kit_str_list | exact kit_bool_int | exact kit_bool_str | exact kit_bool_bool | exact kit_bool_tuple | exact kit_bool_list | exact kit_NoneType_int | exact kit_NoneType_str | exact kit_NoneType_bool | exact kit_NoneType_tuple | exact kit_NoneType_list | exact kit_list_int | exact kit_list_str | exact kit_list_bool | exact kit_list_tuple | exact kit_list_list | exact kit_tuple_int | exact kit_tuple_str | exact kit_tuple_bool | exact kit_tuple_tuple | exact kit_tuple_list)
local macro_rules | `(tactic| walk_at "nd") => `(tactic| first
  | assumption
  | exact Tm.nds _
  | exact Nds.nil
  | exact Nds.ofInts _
  | ((refine' Nds.cons ?na ?nb); (case na => first | exact Nds.I _ | exact Nds.L | exact Nds.A); (case nb => walk_at "nd"))
  | ((refine' Nds.app ?na ?nb); (case na => walk_at "nd"); (case nb => walk_at "nd"))
  | ((refine' Nds.rep ?na _); (case na => walk_at "nd")))
local macro_rules | `(tactic| walk_at "len") => `(tactic| first
  | exact ly_sz (by omega)
  | ((simp only [List.length_append, List.length_cons, List.length_nil, List.length_map, PyProof.Rows.lm_len_rep_flat]); exact ly_sz (by omega)))
local macro_rules | `(tactic| walk_at "go1") => `(tactic| first
  | (with_reducible refine' w_kget2 ?_)
  | (with_reducible refine' w_isRN ?_)
  | (with_reducible refine' w_isNN ?_)
  | (with_reducible refine' w_isIN ?_)
  | ((with_reducible refine' w_kg ?hd ?_); (case hd => assumption)))
local macro_rules | `(tactic| walk_at "go1") => `(tactic| first
  | ((with_reducible refine' w_extT ?hh ?hh2 ?hz ?_); (case hh => walk_at "hp"); (case hh2 => walk_at "hp"))
  | ((with_reducible refine' w_I ?hc ?_); (case hc => exact ⟨by decide, by decide, by decide⟩))
  | (with_reducible refine' w_sl ?_)
  | (with_reducible refine' w_noP ?_)
  | (with_reducible refine' w_part ?_)
  | (with_reducible refine' w_part1 ?_)
  | (with_reducible refine' w_it ?_)
  | (with_reducible refine' w_it1 ?_)
  | ((with_reducible refine' w_lenZ ?hz ?_); (case hz => omega))
  | ((with_reducible refine' w_addZb ?hz ?_); (case hz => omega))
  | ((with_reducible refine' w_addZf ?hz ?_); (case hz => omega))
  | ((with_reducible refine' w_addZa ?hz ?_); (case hz => omega))
  | ((with_reducible refine' w_inS ?hh ?_); (case hh => walk_at "hp"))
  | ((with_reducible refine' w_ixT ?hh ?ha ?_); (case hh => assumption); (case ha => exact atI_nat (by assumption))))
local macro_rules | `(tactic| walk_at "go1") => `(tactic| first
  | (with_reducible refine' w_iR2 ?_)
  | ((with_reducible refine' w_iR21 ?h1 ?h2 ?h3 ?h4 ?_); (case h1 => omega); (case h2 => omega); (case h3 => omega); (case h4 => omega))
  | (with_reducible refine' w_nnI ?_)
  | (with_reducible refine' w_max ?_)
  | (with_reducible refine' w_break ?_)
  | (with_reducible refine' w_cont ?_))
local macro_rules | `(tactic| walk_at "go1") => `(tactic| first
  | (with_reducible refine' w_tdget ?_)
  | (with_reducible refine' w_tdin ?_)
  | (with_reducible refine' w_tdnotin ?_)
  | (with_reducible refine' w_sdput ?_)
  | (with_reducible refine' w_tdsetd ?_)
  | (with_reducible refine' w_dnew ?_))
section
variable {P : Program} {w : World} {K : PySem.W.Frag} {mg : Str → Option Value} {base : Heap} {tk : Nat → Tok} {cl : Nat → Addr}
def spInst (K : PySem.W.Frag) : Sp := fun vs H Q _ => ∃ (l r : Addr) (as bs : List Addr) (gs ss : List Kt), vs = [.ref l, .ref r] ∧ H l = some (.lst (refs as)) ∧ H r = some (.lst (refs bs)) ∧ Rws K H as (gs.map Kt.enc) ∧ Rws K H bs (ss.map Kt.enc) ∧ gs.length ≤ 40 ∧ ss.length ≤ 40 ∧ (∀ t ∈ gs, t.enc.length ≤ 1000) ∧ (∀ t ∈ ss, t.enc.length ≤ 1000) ∧
  ∀ H', Ex H H' → Q (.bl (decide (gs.length = ss.length) && (mts (fun _ => none) gs ss).isSome)) H'
theorem ok_linst {f : Addr} {fd : FuncData} (F : Fun K "_law_is_instance" "_law_is_instance" s_law_is_instance f fd) (T : Txt w K mg tk cl)
    (D1 : Def P w K mg base CX0 1 "_law_kind_end" ["kind", "at"] (spKEnd K)) : FnOk P w K mg base CX0 2 f fd ["general", "special"] (spInst K) := by
  obtain ⟨f1, fd1, g_law_kind_end, kp_law_kind_end, b_law_kind_end, G_law_kind_end⟩ := D1
  refine F.ok sc_law_is_instance (fun vs H Q E h => ?_) (fun cdv A outer s H vs Q E hr h => ?_)
  · obtain ⟨l, r, _, _, _, _, rfl, _⟩ := h
    rfl
  · obtain ⟨l, r, as, bs, gs, ss, rfl, hl, hr2, hG, hS, hgl, hsl, hgn, hsn, q⟩ := h
    refine ⟨_, (pss_cons (ps_if (pt_cmpR op_ne (pe_callB call_len_seq (by rfl) T.n_len (by decide +kernel) (pa_cons (pv 0) pa_nil)) (pe_callB call_len_seq (by rfl) T.n_len (by decide +kernel) (pa_cons (pv 1) pa_nil)) (nomark _)) (pss_one (ps_ret pe_bl)) pss_nil) (pss_cons (ps_set (i := 2) sc_law_is_instance.nd rfl (.inl rfl) pe_dnewK) (pss_cons (ps_for PassesOwn.never rfl (pi_range1 (by rfl) T.n_range (pa_cons (pe_callB call_len_seq (by rfl) T.n_len (by decide +kernel) (pa_cons (pv 0) pa_nil)) pa_nil)) (pg_name (i := 3) sc_law_is_instance.nd rfl (.inl rfl)) (pss_cons (ps_set (i := 4) sc_law_is_instance.nd rfl (.inl rfl) pe_int) (pss_one (ps_for PassesOwn.never rfl (pi_tup (pe_ix ix_list (pv 0) (pv 3) (fun _ _ => rfl))) (pg_name (i := 5) sc_law_is_instance.nd rfl (.inl rfl)) (pss_cons (ps_if (pt_cmpR op_ge (pv 4) (pe_callB call_len_seq (by rfl) T.n_len (by decide +kernel) (pa_cons (pe_ix ix_list (pv 1) (pv 3) (fun _ _ => rfl)) pa_nil)) (nomark _)) (pss_one (ps_ret pe_bl)) pss_nil) (pss_one (ps_if (pt_val (pe_callB call_isi (by rfl) T.n_isinstance (by decide +kernel) (pa_cons (pv 5) (pa_cons (pe_bltn (v := .ty "int") (by rfl) T.n_int (by decide +kernel) rfl) pa_nil)))) (pss_cons (ps_set (i := 6) sc_law_is_instance.nd rfl (.inl rfl) (pe_call G_law_kind_end (hr.mono (by first | decide | omega)) (by rfl) g_law_kind_end kp_law_kind_end b_law_kind_end .nil pass0 (pa_cons (pe_ix ix_list (pv 1) (pv 3) (fun _ _ => rfl)) (pa_cons (pv 4) pa_nil)))) (pss_cons (ps_if (PW.pt (pw_and (pt_cmp (pc_din (by exact Nat.lt_of_le_of_lt (Nat.add_le_add_left (by decide) _) hr.units) (pv 5) (pv 2))) (pw_and1 (pt_cmpR (op_neD hr.units) (pe_dget (by exact Nat.lt_of_le_of_lt (Nat.add_le_add_left (by decide) _) hr.units) (pv 2) (pv 5) (fun _ _ => rfl)) (pe_slice sl_tupA (pe_ix ix_list (pv 1) (pv 3) (fun _ _ => rfl)) (po_some (pv 4)) (po_some (pv 6))) (nomark _))))) (pss_one (ps_ret pe_bl)) pss_nil) (pss_cons (ps_dput (by exact Nat.lt_of_le_of_lt (Nat.add_le_add_left (by decide) _) hr.units) (pv 2) (pv 5) (pe_slice sl_tupA (pe_ix ix_list (pv 1) (pv 3) (fun _ _ => rfl)) (po_some (pv 4)) (po_some (pv 6))) (by rfl)) (pss_one (ps_set (i := 4) sc_law_is_instance.nd rfl (.inl rfl) (pv 6)))))) (pss_one (ps_if (pt_cmpR op_ne (pe_ix ix_tup (pe_ix ix_list (pv 1) (pv 3) (fun _ _ => rfl)) (pv 4) (fun _ _ => rfl)) (pv 5) (nomark _)) (pss_one (ps_ret pe_bl)) (pss_one (ps_set (i := 4) sc_law_is_instance.nd rfl (.inl rfl) (pe_op op_add (pv 4) pe_int)))))))))))) (pss_one (ps_ret pe_bl))))), ?_⟩
    refine sl_of (σ2 := [some _, some _, none, none, none, none, none]) rfl ?_
    have la : (refs as).length = gs.length := by rw [List.length_map, hG.len, List.length_map]
    have lb : (refs bs).length = ss.length := by rw [List.length_map, hS.len, List.length_map]
    walk_at "st"
    walk_at "go"
    rw [la, lb]
    refine w_brIn (fun c1 => ?_) (fun c1 => ?_)
    · walk_at "go"
      have e : (decide (gs.length = ss.length) && (mts (fun _ => none) gs ss).isSome) = false := by rw [decide_eq_false (by omega), Bool.false_and]
      rw [← e]
      exact q _ (Ex.refl _)
    · have c2 : gs.length = ss.length := by omega
      rw [decide_eq_true c2, Bool.true_and] at q
      walk_at "go"
      intro d hd
      walk_at "go"
      rw [la]
      walk_at "go"
      refine for_range (lo := 0) (n := ((gs.length : Int)).toNat) (fun k σ H' => ∃ (kvs : List (L2.Key × V)) (g : Nat → Option Kt) (y3 y4 y5 y6 : Option V), σ = [some (.ref l), some (.ref r), some (.ref d), y3, y4, y5, y6] ∧ Ex H H' ∧ H' d = some (.dK kvs) ∧ Tab K H' kvs g ∧ kvs.length ≤ 1000 * k ∧ mts (fun _ => none) gs ss = mts g (gs.drop k) (ss.drop k))
        ⟨[], _, none, none, none, none, rfl, Ex.new hd, upd_same, Tab.nil, Nat.zero_le _, rfl⟩ ?_ ?_
      · rintro k σ H1 hk ⟨kvs, g0, y3, y4, y5, y6, rfl, e1, hd1, hT1, hkl, hmt⟩
        have hkg : k < gs.length := by omega
        have hks : k < ss.length := by omega
        obtain ⟨v1, hv1⟩ : ∃ v, (refs as)[k]? = some v := ⟨_, List.getElem?_eq_getElem (by omega)⟩
        obtain ⟨v2, hv2⟩ : ∃ v, (refs bs)[k]? = some v := ⟨_, List.getElem?_eq_getElem (by omega)⟩
        obtain ⟨a, xs, rfl, hx, ha⟩ := hG.at_ hv1
        obtain ⟨b, ys, rfl, hy, hb⟩ := hS.at_ hv2
        rw [List.getElem?_map] at hx hy
        obtain ⟨t, ht, rfl⟩ := Option.map_eq_some_iff.mp hx
        obtain ⟨s2, hs2, rfl⟩ := Option.map_eq_some_iff.mp hy
        have dg : gs.drop k = t :: gs.drop (k + 1) := by rw [List.drop_eq_getElem_cons hkg]; congr 1; rw [List.getElem?_eq_getElem hkg] at ht; exact Option.some.inj ht
        have ds : ss.drop k = s2 :: ss.drop (k + 1) := by rw [List.drop_eq_getElem_cons hks]; congr 1; rw [List.getElem?_eq_getElem hks] at hs2; exact Option.some.inj hs2
        have htl := hgn t (List.mem_of_getElem? ht)
        have hsl2 := hsn s2 (List.mem_of_getElem? hs2)
        rw [dg, ds] at hmt
        have ek : ((0 : Int) + (k : Int)) = (k : Int) := by omega
        have ix1 : atI (refs as) (k : Int) = some (.ref a) := at_of (j := k) (by omega) hv1
        have ix2 : atI (refs bs) (k : Int) = some (.ref b) := at_of (j := k) (by omega) hv2
        have hl1 := e1 _ _ hl
        have ha1 := ex_t e1 ha
        rw [ek]
        walk_at "go"
        refine for_tup (K := K) (a := a) (xs := t.enc) (fun i σ H' => ∃ (kvs : List (L2.Key × V)) (g : Nat → Option Kt) (at_ : Nat) (ts us : List Kt) (y5 y6 : Option V), σ = [some (.ref l), some (.ref r), some (.ref d), some (.int (k : Int)), some (.int (at_ : Int)), y5, y6] ∧ Ex H H' ∧ H' d = some (.dK kvs) ∧ Tab K H' kvs g ∧ kvs.length ≤ 1000 * k + i ∧ mts g0 [t] [s2] = mts g ts us ∧ ts.length = us.length ∧ t.enc.drop i = kencs ts ∧ s2.enc.drop at_ = kencs us)
          ⟨kvs, g0, 0, [t], [s2], y5, y6, rfl, e1, hd1, hT1, by omega, rfl, rfl, by simp [kencs], by simp [kencs]⟩ (fun i σ H' _ ⟨_, _, _, _, _, _, _, _, e, _⟩ => ex_t e ha) ?_ ?_
        · clear hd1 hT1 hkl hl1 ha1
          rintro i x σ H2 hi ⟨kvs, g, at_, ts, us, y5, y6, rfl, e2, hd2, hT2, hkl, hm2, hlen, hdt, hds⟩
          have hil : i < t.enc.length := (List.getElem?_eq_some_iff.mp hi).1
          have dx : t.enc.drop i = x :: t.enc.drop (i + 1) := by rw [List.drop_eq_getElem_cons hil]; congr 1; rw [List.getElem?_eq_getElem hil] at hi; exact Option.some.inj hi
          have hr3 := e2 _ _ hr2
          have hb2 := ex_t e2 hb
          rw [dx] at hdt
          have bad : ∀ {H' : Hp}, Ex H H' → mts g ts us = none → Q (.bl false) H' := fun {H'} ee z => by
            have z2 := mts_fail (ts := gs.drop (k + 1)) (ss := ss.drop (k + 1)) (hm2.trans z)
            rw [← hmt] at z2
            have z3 := q H' ee
            rw [z2] at z3
            exact z3
          obtain ⟨s3, us, rfl⟩ : ∃ s3 us', us = s3 :: us' := by
            cases us with
            | nil =>
              exfalso
              cases ts with
              | nil => simp [kencs] at hdt
              | cons _ _ => simp at hlen
            | cons s3 us => exact ⟨s3, us, rfl⟩
          have hsp := s3.pos
          have hdl := congrArg List.length hds
          rw [List.length_drop, kencs_cons, List.length_append] at hdl
          walk_at "go"
          refine w_br (fun c => by omega) (fun _ => ?_)
          rcases kforest hdt.symm with ⟨n, ts', rfl, rfl, hts⟩ | ⟨ta, tb, ts', rfl, rfl, hts⟩
          · simp only [List.length_cons] at hlen
            walk_at "go"
            refine ⟨b, s2.enc, at_, s3, kencs us, rfl, hb2, by rw [hds, kencs_cons], by omega, ?_⟩
            walk_at "go"
            refine w_din hd2 ?_
            rcases hT2 n with ⟨hgn, hv⟩ | ⟨u, ub, hgn, hv, hub⟩
            · rw [hv]
              simp only [Option.isSome_none]
              walk_at "go"
              intro p H3 e3 hp3
              rw [cut_kind (u := s3) (post := kencs us) (by rw [hds, kencs_cons])] at hp3
              walk_at "go"
              refine w_dput (e3 _ _ hd2) (ly_lt (by omega)) ?_
              walk_at "go"
              have lp := length_putK kvs (.inl (n : Int)) (.ref p)
              exact ⟨_, setG g n s3, at_ + s3.enc.length, ts', us, _, _, rfl, (e2.trans e3).mut hd, upd_same, (((hT2.mono fun _ _ z => ex_t e3 z).put hp3).mono fun _ _ z => sqt_dic (e3 _ _ hd2) z), by omega, hm2.trans (mts_new hgn), by omega, hts.symm, by rw [← List.drop_drop, hds, kencs_cons, List.drop_left]⟩
            · rw [hv]
              simp only [Option.isSome_some]
              walk_at "go"
              refine w_dget hd2 hv ?_
              walk_at "go"
              intro p H3 e3 hp3
              rw [cut_kind (u := s3) (post := kencs us) (by rw [hds, kencs_cons])] at hp3
              refine w_neNS (ex_t e3 hub) hp3 (NdK u) (NdK s3) ?_
              by_cases hus : u = s3
              · subst hus
                rw [decide_eq_true rfl, Bool.not_true]
                walk_at "go"
                intro p2 H4 e4 hp4
                rw [cut_kind (u := u) (post := kencs us) (by rw [hds, kencs_cons])] at hp4
                have e24 := e3.trans e4
                walk_at "go"
                refine w_dput (e24 _ _ hd2) (ly_lt (by omega)) ?_
                walk_at "go"
                have lp := length_putK kvs (.inl (n : Int)) (.ref p2)
                exact ⟨_, setG g n u, at_ + u.enc.length, ts', us, _, _, rfl, (e2.trans e24).mut hd, upd_same, (((hT2.mono fun _ _ z => ex_t e24 z).put hp4).mono fun _ _ z => sqt_dic (e24 _ _ hd2) z), by omega, hm2.trans (mts_old hgn), by omega, hts.symm, by rw [← List.drop_drop, hds, kencs_cons, List.drop_left]⟩
              · rw [decide_eq_false (fun z => hus (Kt.enc_inj z)), Bool.not_false]
                walk_at "go"
                exact bad (e2.trans e3) (mts_bad hgn hus)
          · simp only [List.length_cons] at hlen
            cases s3 with
            | var m2 =>
              have hix : atI s2.enc (at_ : Int) = some (.int (m2 : Int)) := at_of (j := at_) (by omega) (by rw [← List.head?_drop, hds, kencs_cons]; rfl)
              walk_at "go"
              refine w_ixT hb2 hix ?_
              walk_at "go"
              exact bad e2 mts_var
            | to sa sb =>
              have hix : atI s2.enc (at_ : Int) = some (.str "to") := at_of (j := at_) (by omega) (by rw [← List.head?_drop, hds, kencs_cons]; rfl)
              walk_at "go"
              refine w_ixT hb2 hix ?_
              walk_at "go"
              exact ⟨kvs, g, at_ + 1, ta :: tb :: ts', sa :: sb :: us, _, _, rfl, e2, hd2, hT2, by omega, hm2.trans mts_to, by simp only [List.length_cons]; omega, hts.symm, by rw [← List.drop_drop, hds, kencs_cons, kencs_cons, kencs_cons]; simp [Kt.enc]⟩
        · clear hd1 hT1 hkl hl1 ha1
          rintro σ H2 ⟨kvs, g, at_, ts, us, y5, y6, rfl, e2, hd2, hT2, hkl, hm2, hlen, hdt, hds⟩
          rw [List.drop_length] at hdt
          have ets := kencs_nil hdt.symm
          subst ets
          have eus : us = [] := List.length_eq_zero_iff.mp (by rw [← hlen]; rfl)
          subst eus
          walk_at "go"
          exact ⟨kvs, g, _, _, _, _, rfl, e2, hd2, hT2, by omega, by rw [hmt]; exact mts_cons hm2⟩
      · rintro σ H1 ⟨kvs, g0, y3, y4, y5, y6, rfl, e1, hd1, hT1, hkl, hmt⟩
        rw [List.drop_of_length_le (by omega)] at hmt
        walk_at "go"
        have z := q H1 e1
        rw [hmt] at z
        exact z
end
end Ly
set_option Elab.async false
set_option linter.all false
set_option maxRecDepth 100000
set_option maxHeartbeats 8000000
namespace Ly
open PySem PySem.Spec PyProof.Rows L2 Evl
local macro_rules | `(tactic| walk_at "ne") => `(tactic| first
  | assumption
  | ((refine' Ne.symm ?hq); (case hq => assumption))
  | ((refine' ne_of_none ?nh1 ?nh2); (case nh2 => assumption); (case nh1 => walk_at "hp"))
  | ((refine' Ne.symm (ne_of_none ?nh1 ?nh2)); (case nh2 => assumption); (case nh1 => walk_at "hp")))
local macro_rules | `(tactic| walk_at "hp") => `(tactic| first
  | assumption
  | exact upd_same
  | ((refine' SqL.of ?hq); (case hq => walk_at "hp"))
  | ((refine' SqT.of ?hq); (case hq => walk_at "hp"))
  | ((refine' (upd_ne ?hne).trans ?hrest); (case hne => walk_at "ne"); (case hrest => walk_at "hp"))
  | ((refine' ly_at ?hex ?hh); (case hex => assumption); (case hh => walk_at "hp"))
  | ((refine' ly_atF ?hex ?hnn ?hh); (case hex => assumption); (case hh => walk_at "hp"); (case hnn => walk_at "ne"))
  | ((refine' ex_t ?hex ?hh); (case hh => assumption); (case hex => walk_at "ex"))
  | ((refine' ex_l ?hex ?hh); (case hh => assumption); (case hex => walk_at "ex")))
local macro_rules | `(tactic| walk_at "ex") => `(tactic| first
  | assumption
  | exact Ex.refl _
  | ((refine' ex_new ?xa ?xb); (case xb => assumption); (case xa => walk_at "ex"))
  | ((refine' ex_upd ?xa ?xb); (case xb => walk_at "free"); (case xa => walk_at "ex"))
  | ((refine' Ex.trans ?xa ?xb); (case xb => assumption); (case xa => walk_at "ex")))
local macro_rules | `(tactic| walk_at "free") => `(tactic| first
  | assumption
  | ((refine' fresh_back ?xa ?xb); (case xb => assumption); (case xa => walk_at "ex")))
local macro_rules | `(tactic| walk_at "fr") => `(tactic| first
  | assumption
  | exact Fr.refl _ _
  | ((refine' Fr.own ?hq); (case hq => walk_at "fr"))
  | ((refine' Fr.new ?xa ?xb); (case xb => assumption); (case xa => walk_at "fr"))
  | ((refine' Fr.mut ?xa ?xb); (case xb => assumption); (case xa => walk_at "fr"))
  | ((refine' Fr.trans ?xa ?xb); (case xb => assumption); (case xa => walk_at "fr"))
  | ((refine' Fr.trans ?xa (Fr.ex ?xb)); (case xb => assumption); (case xa => walk_at "fr")))
local macro_rules | `(tactic| walk_at "go1") => `(tactic| first
  | (with_reducible refine' w_seq ?_)
  | (with_reducible refine' w_asg ?_)
  | (with_reducible refine' w_ret ?_)
  | (with_reducible refine' w_drop ?_)
  | (with_reducible refine' w_if ?_)
  | (with_reducible refine' w_next ?_)
  | (with_reducible refine' w_name ?_)
  | (with_reducible refine' w_sub ?_)
  | ((with_reducible refine' w_var ?hv ?_); (case hv => exact rfl))
  | (with_reducible refine' w_c ?_)
  | (with_reducible refine' w_op ?_)
  | (with_reducible refine' w_un ?_)
  | (with_reducible refine' w_ch ?_)
  | (with_reducible refine' w_I0 ?_)
  | ((with_reducible refine' w_I ?hc ?_); (case hc => first | (exact ly_mulL (by decide) (by decide)) | (exact ly_mulR (by decide) (by decide)) | (exact ly_mulL (by omega) (by omega)) | (show (_ : Int) ≠ 0; decide) | (show (_ : Int) ≠ 0; omega) | (exact ⟨by decide, by decide⟩) | (exact ⟨by omega, by omega⟩)))
  | (with_reducible refine' w_U ?_)
  | ((with_reducible refine' w_eq ?hs ?_); (case hs => exact rfl))
  | ((with_reducible refine' w_ne ?hs ?_); (case hs => exact rfl))
  | (with_reducible refine' w_isB ?_)
  | (with_reducible refine' w_notB ?_)
  | (with_reducible refine' w_nil ?_)
  | (with_reducible refine' w_cons ?_)
  | (with_reducible refine' w_tup ?_)
  | (with_reducible refine' w_lst ?_)
  | (with_reducible refine' w_cb ?_)
  | (with_reducible refine' w_call ?_)
  | (with_reducible refine' w_bm ?_)
  | (with_reducible refine' w_bm0 ?_)
  | ((with_reducible refine' w_app ?hh ?hz ?_); (case hh => walk_at "hp"); (case hz => first | exact ly_lt (by omega) | exact ly_lt (by simp only [List.length_append, List.length_map, List.length_cons, List.length_nil]; omega)))
  | ((with_reducible refine' w_popA ?hh ?_); (case hh => walk_at "hp"))
  | ((with_reducible refine' w_ext ?hh ?hh2 ?hz ?_); (case hh => walk_at "hp"); (case hh2 => walk_at "hp"))
  | ((with_reducible refine' w_ixL ?hh ?ha ?_); (case hh => walk_at "hp"); (case ha => first | exact rfl | exact at_map (by omega) | exact atI_last _ _ | ((refine' at_of ?ae ?ah); (case ah => assumption); (case ae => omega))))
  | ((with_reducible refine' w_ixT ?hh ?ha ?_); (case hh => walk_at "hp"); (case ha => first | exact rfl | exact at_map (by omega) | exact atI_last _ _ | ((refine' at_of ?ae ?ah); (case ah => assumption); (case ae => omega))))
  | ((with_reducible refine' w_cat ?hh ?hh2 ?hz ?_); (case hh => walk_at "hp"); (case hh2 => walk_at "hp"))
  | ((with_reducible refine' w_setL ?hh ?ha ?_); (case hh => walk_at "hp"); (case ha => exact rfl))
  | (with_reducible refine' w_test ?_)
  | (with_reducible refine' w_tB ?_)
  | (with_reducible refine' w_bl ?_)
  | (with_reducible refine' w_and ?_)
  | (with_reducible refine' w_or ?_)
  | (with_reducible refine' w_not ?_)
  | (with_reducible refine' w_andV ?_)
  | (with_reducible refine' w_orV ?_)
  | (with_reducible refine' w_notV ?_)
  | (with_reducible refine' w_ifE ?_)
  | (with_reducible refine' w_for ?_)
  | ((with_reducible refine' w_nin ?hh ?_); (case hh => walk_at "hp"))
  | ((with_reducible refine' w_sorted ?hh ?_); (case hh => walk_at "hp"))
  | (with_reducible refine' w_tsadd ?_)
  | ((with_reducible refine' w_tsadd1 ?hh ?_); (case hh => walk_at "hp"))
  | ((with_reducible refine' w_sadd ?hh ?hr ?_); (case hh => walk_at "hp"); (case hr => omega))
  | (with_reducible refine' w_iZ ?_)
  | ((with_reducible refine' w_iZ1 ?hh ?hh2 ?_); (case hh => walk_at "hp"); (case hh2 => walk_at "hp"))
  | (with_reducible refine' w_iS ?_)
  | (with_reducible refine' w_iS1 ?_)
  | ((with_reducible refine' w_gtup ?hh ?hn ?_); (case hh => walk_at "hp"); (case hn => exact rfl))
  | (with_reducible refine' w_gcons ?_)
  | (with_reducible refine' w_gnil ?_)
  | (with_reducible refine' w_js ?_)
  | (with_reducible refine' w_jsn ?_)
  | ((with_reducible refine' w_js1 ?hl ?_); (case hl => decide +kernel))
  | (with_reducible refine' w_fmt ?_)
  | ((with_reducible refine' w_fmt1 ?hl ?_); (case hl => decide +kernel))
  | (with_reducible refine' w_callS ?_)
  | ((with_reducible refine' w_truL ?hh ?_); (case hh => walk_at "hp"))
  | (with_reducible refine' w_lc ?_)
  | (with_reducible refine' w_yes ?_)
  | ((with_reducible refine' w_wipe ?he ?_); (case he => exact rfl))
  | (with_reducible refine' w_iL ?_)
  | (with_reducible refine' w_iT ?_)
  | (with_reducible refine' w_iR ?_)
  | ((with_reducible refine' w_iL1 ?hh ?_); (case hh => walk_at "hp"))
  | ((with_reducible refine' w_iT1 ?hh ?_); (case hh => walk_at "hp"))
  | ((with_reducible refine' w_iR1 ?h1 ?h2 ?_); (case h1 => omega); (case h2 => omega))
  | ((with_reducible refine' w_aug ?hv ?_); (case hv => exact rfl))
  | (with_reducible refine' w_ipI ?_)
  | ((with_reducible refine' w_isi ?hy ?hk ?_); (case hy => walk_at "ty"); (case hk => walk_at "kit"))
  | ((with_reducible refine' w_int ?_))
  | ((with_reducible refine' w_intB ?_))
  | ((with_reducible refine' w_abs ?_))
  | ((with_reducible refine' w_lenL ?hh ?_); (case hh => walk_at "hp"))
  | ((with_reducible refine' w_lenT ?hh ?_); (case hh => walk_at "hp"))
  | ((with_reducible refine' w_tupL ?hh ?_); (case hh => walk_at "hp"))
  | ((with_reducible refine' w_tupT ?hh ?_); (case hh => walk_at "hp"))
  | ((with_reducible refine' w_catA ?hh ?hh2 ?hz ?_); (case hh => walk_at "hp"); (case hh2 => walk_at "hp"); (case hz => walk_at "len"))
  | ((with_reducible refine' w_repB ?hh ?hne ?h2 ?h3 ?hz ?_); (case hh => walk_at "hp"); (case hne => simp); (case h2 => omega); (case h3 => omega); (case hz => exact Nat.le_of_ble_eq_true rfl))
  | ((with_reducible refine' w_eqN ?hh ?hh2 ?n1 ?n2 ?_); (case hh => walk_at "hp"); (case hh2 => walk_at "hp"); (case n1 => walk_at "nd"); (case n2 => walk_at "nd"))
  | ((with_reducible refine' w_neN ?hh ?hh2 ?n1 ?n2 ?_); (case hh => walk_at "hp"); (case hh2 => walk_at "hp"); (case n1 => walk_at "nd"); (case n2 => walk_at "nd"))
  | ((with_reducible refine' w_eqL ?hh ?hh2 ?n1 ?n2 ?_); (case hh => walk_at "hp"); (case hh2 => walk_at "hp"); (case n1 => walk_at "nd"); (case n2 => walk_at "nd"))
  | ((with_reducible refine' w_neL ?hh ?hh2 ?n1 ?n2 ?_); (case hh => walk_at "hp"); (case hh2 => walk_at "hp"); (case n1 => walk_at "nd"); (case n2 => walk_at "nd"))
  | ((with_reducible refine' w_neNon ?hh2 ?n2 ?_); (case hh2 => walk_at "hp"); (case n2 => walk_at "nd"))
  | ((with_reducible refine' w_eqNon ?hh2 ?n2 ?_); (case hh2 => walk_at "hp"); (case n2 => walk_at "nd"))
  | ((with_reducible refine' w_slA ?hh ?_); (case hh => walk_at "hp"))
  | ((with_reducible refine' w_disp ?hz ?_); (case hz => exact sz_of (Nat.le_of_ble_eq_true rfl)))
  | ((with_reducible refine' w_tyL ?hh ?_); (case hh => walk_at "hp"))
  | (with_reducible refine' iteT ?_)
  | (with_reducible refine' iteF ?_)
  | (with_reducible refine' w_nT ?_)
  | (with_reducible refine' w_nn ?_)
  | (with_reducible refine' w_nnT ?_)
  | (with_reducible refine' w_nnR ?_)
  | (with_reducible refine' w_neG ?_)
  | (with_reducible refine' w_eqG ?_)
  | (with_reducible refine' w_neS ?_)
  | (with_reducible refine' w_eqS ?_)
  | (with_reducible refine' w_neSb ?_)
  | (with_reducible refine' w_eqSb ?_)
  | (with_reducible refine' w_deIS ?_)
  | (with_reducible refine' w_deSI ?_)
  | (with_reducible refine' w_deISn ?_)
  | ((with_reducible refine' w_deST ?he ?_); (case he => decide +kernel))
  | ((with_reducible refine' w_deSF ?he ?_); (case he => decide +kernel))
  | ((with_reducible refine' w_deSTn ?he ?_); (case he => decide +kernel))
  | ((with_reducible refine' w_deSFn ?he ?_); (case he => decide +kernel))
  | (with_reducible refine' w_nF ?_)
  | dsimp only [Bool.not_true, Bool.not_false])
local macro_rules | `(tactic| walk_at "ty") => `(tactic| first
  | exact .base (.int _) | exact .base (.str _) | exact .base (.bl _) | exact .base .non
  | ((refine' tyx_t ?hq); (case hq => walk_at "hp")) | ((refine' tyx_l ?hq); (case hq => walk_at "hp")) | ((refine' .base (.tup ?hq)); (case hq => walk_at "hp")) | assumption)
local macro_rules | `(tactic| walk_at "go") => `(tactic| repeat walk_at "go1")
local macro_rules | `(tactic| walk_at "st") => `(tactic| try dsimp only [cxOf, Cx.nox, Cx.wish])
local macro_rules | `(tactic| walk_at "kit") => `(tactic| with_reducible first | exact kit_int_int | exact kit_int_str | exact kit_int_bool | exact kit_int_tuple | exact kit_int_list | exact kit_str_int | exact kit_str_str | exact kit_str_bool | exact kit_str_tuple | exact kit_str_list | exact kit_bool_int | exact kit_bool_str | exact kit_bool_bool | exact kit_bool_tuple | exact kit_bool_list | exact kit_NoneType_int | exact kit_NoneType_str | exact kit_NoneType_bool | exact kit_NoneType_tuple | exact kit_NoneType_list | exact kit_list_int | exact kit_list_str | exact kit_list_bool | exact kit_list_tuple | exact kit_list_list | exact kit_tuple_int | exact kit_tuple_str | exact kit_tuple_bool | exact kit_tuple_tuple | exact kit_tuple_list)
local macro_rules | `(tactic| walk_at "nd") => `(tactic| first
  | assumption
  | exact Tm.nds _
  | exact Nds.nil
  | exact Nds.ofInts _
  | ((refine' Nds.cons ?na ?nb); (case na => first | exact Nds.I _ | exact Nds.L | exact Nds.A); (case nb => walk_at "nd"))
  | ((refine' Nds.app ?na ?nb); (case na => walk_at "nd"); (case nb => walk_at "nd"))
  | ((refine' Nds.rep ?na _); (case na => walk_at "nd")))
local macro_rules | `(tactic| walk_at "len") => `(tactic| first
  | exact ly_sz (by omega)
  | ((simp only [List.length_append, List.length_cons, List.length_nil, List.length_map, PyProof.Rows.lm_len_rep_flat]); exact ly_sz (by omega)))
local macro_rules | `(tactic| walk_at "go1") => `(tactic| first
  | (with_reducible refine' w_kget2 ?_)
  | (with_reducible refine' w_isRN ?_)
  | (with_reducible refine' w_isNN ?_)
  | (with_reducible refine' w_isIN ?_)
  | ((with_reducible refine' w_kg ?hd ?_); (case hd => assumption)))
local macro_rules | `(tactic| walk_at "go1") => `(tactic| first
  | ((with_reducible refine' w_extT ?hh ?hh2 ?hz ?_); (case hh => walk_at "hp"); (case hh2 => walk_at "hp"))
  | ((with_reducible refine' w_I ?hc ?_); (case hc => exact ⟨by decide, by decide, by decide⟩))
  | (with_reducible refine' w_sl ?_)
  | (with_reducible refine' w_noP ?_)
  | (with_reducible refine' w_part ?_)
  | (with_reducible refine' w_part1 ?_)
  | (with_reducible refine' w_it ?_)
  | (with_reducible refine' w_it1 ?_)
  | ((with_reducible refine' w_lenZ ?hz ?_); (case hz => omega))
  | ((with_reducible refine' w_addZb ?hz ?_); (case hz => omega))
  | ((with_reducible refine' w_addZf ?hz ?_); (case hz => omega))
  | ((with_reducible refine' w_addZa ?hz ?_); (case hz => omega))
  | ((with_reducible refine' w_inS ?hh ?_); (case hh => walk_at "hp"))
  | ((with_reducible refine' w_ixT ?hh ?ha ?_); (case hh => assumption); (case ha => exact atI_nat (by assumption))))
local macro_rules | `(tactic| walk_at "go1") => `(tactic| first
  | (with_reducible refine' w_iR2 ?_)
  | ((with_reducible refine' w_iR21 ?h1 ?h2 ?h3 ?h4 ?_); (case h1 => omega); (case h2 => omega); (case h3 => omega); (case h4 => omega))
  | (with_reducible refine' w_nnI ?_)
  | (with_reducible refine' w_max ?_)
  | (with_reducible refine' w_break ?_)
  | (with_reducible refine' w_cont ?_))
local macro_rules | `(tactic| walk_at "go1") => `(tactic| first
  | (with_reducible refine' w_tdget ?_)
  | (with_reducible refine' w_tdin ?_)
  | (with_reducible refine' w_tdnotin ?_)
  | (with_reducible refine' w_sdput ?_)
  | (with_reducible refine' w_tdsetd ?_)
  | (with_reducible refine' w_dnew ?_))
local macro_rules | `(tactic| walk_at "go1") => `(tactic| first
  | (with_reducible refine' w_iZL ?_)
  | (with_reducible refine' w_sfld ?_)
  | (with_reducible refine' w_tfld ?_)
  | (with_reducible refine' w_make ?_)
  | (with_reducible refine' w_tmeth ?_))
section
variable {P : Program} {w : World} {K : PySem.W.Frag} {mg : Str → Option Value} {base : Heap} {tk : Nat → Tok} {cl : Nat → Addr}
def gFs (c s : Addr) : List (Str × V) := putF "sides" (.ref s) (putF "chiefs" (.ref c) [])
structure Gph (H : Hp) (C x dx c s : Addr) (es : List V) : Prop where
  ins : H x = some (.ins C dx (gFs c s))
  ch : H c = some (.lst (nums (List.range es.length)))
  sd : H s = some (.lst es)
theorem Gph.ne {H : Hp} {C x dx c s : Addr} {es : List V} (g : Gph H C x dx c s es) : x ≠ c ∧ x ≠ s := by
  refine ⟨fun z => ?_, fun z => ?_⟩
  · have := g.ins
    rw [z, g.ch] at this
    cases this
  · have := g.ins
    rw [z, g.sd] at this
    cases this
theorem Gph.ex {H H' : Hp} {C x dx c s : Addr} {es : List V} (g : Gph H C x dx c s es) (e : Ex H H') : Gph H' C x dx c s es := ⟨e _ _ g.ins, e _ _ g.ch, e _ _ g.sd⟩
theorem gFs_c (c s : Addr) : List.lookup ("chiefs" : Str) (gFs c s) = some (V.ref c) := by rfl
theorem gFs_s (c s : Addr) : List.lookup ("sides" : Str) (gFs c s) = some (V.ref s) := by rfl
def spGInit (C : Addr) : Sp := fun vs H Q _ => ∃ (x dx : Addr) (H0 : Hp), vs = [.ref x] ∧ H x = some (.ins C dx []) ∧ Ex H0 H ∧ H0 x = none ∧ ∀ H' c s, Ex H0 H' → H0 c = none → H0 s = none → c ≠ s → Gph H' C x dx c s [] → Q .non H'
theorem ok_ginit {f : Addr} {fd : FuncData} {k : Nat} (F : Fun K "__init__" "KindGraph.__init__" s_KindGraph_init f fd) (T : Txt w K mg tk cl) : FnOk P w K mg base CX0 (k + 1) f fd ["self"] (spGInit (cl 23)) := by
  refine F.ok sc_KindGraph_init (fun vs H Q E h => ?_) (fun cdv A outer s H vs Q E hr h => ?_)
  · obtain ⟨_, _, _, rfl, _⟩ := h
    rfl
  · obtain ⟨x, dx, H0, rfl, hx, e0, hx0, q⟩ := h
    refine ⟨_, (pss_cons (ps_fld (pv 0) (pe_lst pa_nil) rfl) (pss_one (ps_fld (pv 0) (pe_lst pa_nil) rfl))), ?_⟩
    refine sl_of (σ2 := [some _]) rfl ?_
    walk_at "st"
    walk_at "go"
    intro c hc
    have hcx : x ≠ c := ne_of_none hx hc
    have hc0 : H0 c = none := fresh_back e0 hc
    have hx1 : upd H c (.lst []) x = some (.ins (cl 23) dx []) := by rw [upd_ne hcx]; exact hx
    walk_at "go"
    refine ⟨x, cl 23, dx, [], rfl, hx1, T.cls_KindGraph, T.nf_KindGraph_chiefs, by show 0 < 1000; decide, ?_⟩
    walk_at "go"
    intro s hs
    have hsc : c ≠ s := fun z => by rw [← z, upd_ne hcx.symm, upd_same] at hs; cases hs
    have hsx : x ≠ s := fun z => by rw [← z, upd_same] at hs; cases hs
    have hs1 : H s = none := by rw [upd_ne hsx.symm, upd_ne hsc.symm] at hs; exact hs
    have hs0 : H0 s = none := fresh_back e0 hs1
    walk_at "go"
    refine ⟨x, cl 23, dx, putF "chiefs" (.ref c) [], rfl, by rw [upd_ne hsx]; exact upd_same, T.cls_KindGraph, T.nf_KindGraph_sides, by show 1 < 1000; decide, ?_⟩
    walk_at "go"
    refine q _ c s (ex_upd (ex_upd (ex_upd (ex_upd e0 hc0) hx0) hs0) hx0) hc0 hs0 hsc ⟨upd_same, ?_, ?_⟩
    · rw [upd_ne hcx.symm, upd_ne hsc, upd_ne hcx.symm, upd_same]
      rfl
    · rw [upd_ne hsx.symm, upd_same]
def spGNew (C : Addr) : Sp := fun vs H Q _ => ∃ (x dx c s : Addr) (es : List V) (v : V), vs = [.ref x, v] ∧ Gph H C x dx c s es ∧ c ≠ s ∧ es.length ≤ 100000 ∧ ∀ H', (∀ a, a ≠ c → a ≠ s → H' a = H a) → Gph H' C x dx c s (es ++ [v]) → Q (.int (es.length : Int)) H'
theorem ok_gnew {f : Addr} {fd : FuncData} {k : Nat} (F : Fun K "new_node" "KindGraph.new_node" s_KindGraph_new_node f fd) (T : Txt w K mg tk cl) : FnOk P w K mg base CX0 (k + 1) f fd ["self", "sides"] (spGNew (cl 23)) := by
  refine F.ok sc_KindGraph_new_node (fun vs H Q E h => ?_) (fun cdv A outer s H vs Q E hr h => ?_)
  · obtain ⟨_, _, _, _, _, _, rfl, _⟩ := h
    rfl
  · obtain ⟨x, dx, c, s, es, v, rfl, g, hcs, hl, q⟩ := h
    obtain ⟨hxc, hxs⟩ := g.ne
    refine ⟨_, (pss_cons (ps_expr (pe_bm PySem.F.plainAttrs_list PySem.F.slot_list_append PySem.F.type_list_append mt_append (pe_fld (pv 0) rfl) (pa_cons (pe_callB call_len_seq (by rfl) T.n_len (by decide +kernel) (pa_cons (pe_fld (pv 0) rfl) pa_nil)) pa_nil))) (pss_cons (ps_expr (pe_bm PySem.F.plainAttrs_list PySem.F.slot_list_append PySem.F.type_list_append mt_append (pe_fld (pv 0) rfl) (pa_cons (pv 1) pa_nil))) (pss_one (ps_ret (pe_op op_sub (pe_callB call_len_seq (by rfl) T.n_len (by decide +kernel) (pa_cons (pe_fld (pv 0) rfl) pa_nil)) pe_int))))), ?_⟩
    refine sl_of (σ2 := [some _, some _]) rfl ?_
    have hcl : (nums (List.range es.length)).length = es.length := by simp [nums]
    walk_at "st"
    walk_at "go"
    have hin := g.ins
    have hch := g.ch
    have hsd := g.sd
    refine ⟨x, cl 23, dx, _, _, rfl, hin, T.cls_KindGraph, T.nf_KindGraph_chiefs, gFs_c c s, ?_⟩
    refine w_tyL (SqL.of hch) ?_
    walk_at "go"
    refine ⟨x, cl 23, dx, _, _, rfl, hin, T.cls_KindGraph, T.nf_KindGraph_chiefs, gFs_c c s, ?_⟩
    walk_at "go"
    rw [hcl]
    have hin1 : upd H c (.lst (nums (List.range es.length) ++ [V.int (es.length : Int)])) x = some (.ins (cl 23) dx (gFs c s)) := by rw [upd_ne hxc]; exact hin
    have hsd1 : upd H c (.lst (nums (List.range es.length) ++ [V.int (es.length : Int)])) s = some (.lst es) := by rw [upd_ne hcs.symm]; exact hsd
    have hch1 : upd H c (.lst (nums (List.range es.length) ++ [V.int (es.length : Int)])) c = some (.lst (nums (List.range (es.length + 1)))) := by rw [upd_same, List.range_succ]; simp [nums]
    have hk1 : ∀ a, a ≠ c → upd H c (.lst (nums (List.range es.length) ++ [V.int (es.length : Int)])) a = H a := fun a ha => upd_ne ha
    generalize upd H c (.lst (nums (List.range es.length) ++ [V.int (es.length : Int)])) = H1 at *
    refine ⟨x, cl 23, dx, _, _, rfl, hin1, T.cls_KindGraph, T.nf_KindGraph_sides, gFs_s c s, ?_⟩
    refine w_tyL (SqL.of hsd1) ?_
    walk_at "go"
    have hin2 : upd H1 s (.lst (es ++ [v])) x = some (.ins (cl 23) dx (gFs c s)) := by rw [upd_ne hxs]; exact hin1
    have hch2 : upd H1 s (.lst (es ++ [v])) c = some (.lst (nums (List.range (es ++ [v]).length))) := by rw [upd_ne hcs, hch1, List.length_append]; rfl
    have hsd2 : upd H1 s (.lst (es ++ [v])) s = some (.lst (es ++ [v])) := upd_same
    have hk2 : ∀ a, a ≠ c → a ≠ s → upd H1 s (.lst (es ++ [v])) a = H a := fun a ha hb => by rw [upd_ne hb, hk1 a ha]
    generalize upd H1 s (.lst (es ++ [v])) = H2 at *
    refine ⟨x, cl 23, dx, _, _, rfl, hin2, T.cls_KindGraph, T.nf_KindGraph_sides, gFs_s c s, ?_⟩
    walk_at "go"
    rw [show ((es ++ [v]).length : Int) - 1 = (es.length : Int) by rw [List.length_append, List.length_singleton]; omega]
    exact q H2 hk2 ⟨hin2, hch2, hsd2⟩
def spGChief (C : Addr) : Sp := fun vs H Q _ => ∃ (x dx c s : Addr) (es : List V) (i : Nat), vs = [.ref x, .int (i : Int)] ∧ Gph H C x dx c s es ∧ i < es.length ∧ Q (.int (i : Int)) H
theorem ok_gchief {f : Addr} {fd : FuncData} {k : Nat} (F : Fun K "chief" "KindGraph.chief" s_KindGraph_chief f fd) (T : Txt w K mg tk cl) : FnOk P w K mg base CX0 (k + 1) f fd ["self", "node"] (spGChief (cl 23)) := by
  refine F.ok sc_KindGraph_chief (fun vs H Q E h => ?_) (fun cdv A outer s H vs Q E hr h => ?_)
  · obtain ⟨_, _, _, _, _, _, rfl, _⟩ := h
    rfl
  · obtain ⟨x, dx, c, s, es, i, rfl, g, hi, q⟩ := h
    refine ⟨_, (pss_cons (ps_while PassesOwn.never (pt_cmpR op_ne (pe_ix ix_list (pe_fld (pv 0) rfl) (pv 1) (fun _ _ => rfl)) (pv 1) (nomark _)) (pss_cons (ps_asg (pe_ix ix_list (pe_fld (pv 0) rfl) (pe_ix ix_list (pe_fld (pv 0) rfl) (pv 1) (fun _ _ => rfl)) (fun _ _ => rfl)) (pg_sub (pe_fld (pv 0) rfl) (pv 1) set_list)) (pss_one (ps_set (i := 1) sc_KindGraph_chief.nd rfl (.inl rfl) (pe_ix ix_list (pe_fld (pv 0) rfl) (pv 1) (fun _ _ => rfl)))))) (pss_one (ps_ret (pv 1)))), ?_⟩
    refine sl_of (σ2 := [some _, some _]) rfl ?_
    walk_at "st"
    refine w_while (fun m σ H' => m = 0 ∧ σ = [some (.ref x), some (.int (i : Int))] ∧ H' = H) 0 ⟨rfl, rfl, rfl⟩ ?_
    rintro m σ H' ⟨rfl, rfl, rfl⟩
    walk_at "go"
    refine ⟨x, cl 23, dx, _, _, rfl, g.ins, T.cls_KindGraph, T.nf_KindGraph_chiefs, gFs_c c s, ?_⟩
    have ixc : atI (nums (List.range es.length)) (i : Int) = some (.int (i : Int)) := at_of (j := i) (by omega) (by simp [nums, List.getElem?_range hi])
    walk_at "go"
    refine w_ixL (SqL.of g.ch) ixc ?_
    walk_at "go"
    exact q
def spGSides (K : PySem.W.Frag) (C : Addr) : Sp := fun vs H Q _ => ∃ (x dx c s : Addr) (es : List V) (i : Nat) (v : V), vs = [.ref x, .int (i : Int)] ∧ Gph H C x dx c s es ∧ es[i]? = some v ∧
  ((v = .non ∧ ∀ H' p, Ex H H' → H p = none → H' p = some (.lst []) → Q (.ref p) H') ∨
   ∃ (r : Addr) (a b : Nat), v = .ref r ∧ SqT K H r [.int (a : Int), .int (b : Int)] ∧ a < es.length ∧ b < es.length ∧ ∀ H' p, Ex H H' → H p = none → H' p = some (.lst [.int (a : Int), .int (b : Int)]) → Q (.ref p) H')
theorem ok_gsides {f : Addr} {fd : FuncData} (F : Fun K "sides_of" "KindGraph.sides_of" s_KindGraph_sides_of f fd) (T : Txt w K mg tk cl) (M_KindGraph_chief : C8.Met P w K mg base 1 (cl 23) "chief" (spGChief (cl 23)) []) : FnOk P w K mg base CX0 2 f fd ["self", "node"] (spGSides K (cl 23)) := by
  refine F.ok sc_KindGraph_sides_of (fun vs H Q E h => ?_) (fun cdv A outer s H vs Q E hr h => ?_)
  · obtain ⟨_, _, _, _, _, _, _, rfl, _⟩ := h
    rfl
  · obtain ⟨x, dx, c, s, es, i, v, rfl, g, hi, h⟩ := h
    refine ⟨_, (pss_cons (ps_if (pt_cmpR op_isN (pe_ix ix_list (pe_fld (pv 0) rfl) (pv 1) (fun _ _ => rfl)) pe_non (nomark _)) (pss_one (ps_ret (pe_lst pa_nil))) pss_nil) (pss_one (ps_ret (pe_lc (own := [("side", 2)]) (g := gName 2) (tt := tYes) rfl sc_KindGraph_sides_of.nd (pi_tup (pe_ix ix_list (pe_fld (pv 0) rfl) (pv 1) (fun _ _ => rfl))) (blkOk_by (N := N_KindGraph_sides_of) (sc := defScope s_KindGraph_sides_of) (by decide +kernel)) (fun _ _ _ _ _ => pg_name (i := 2) sc_KindGraph_sides_of.nd rfl (Or.inl rfl)) (fun _ _ _ _ _ => pts_nil) (fun _ _ _ _ _ => (C8.pe_mt M_KindGraph_chief hr (by first | decide | omega) (pv 0) (pa_cons (pv 2) pa_nil))))))), ?_⟩
    refine sl_of (σ2 := [some _, some _, none]) rfl ?_
    walk_at "st"
    walk_at "go"
    refine ⟨x, cl 23, dx, _, _, rfl, g.ins, T.cls_KindGraph, T.nf_KindGraph_sides, gFs_s c s, ?_⟩
    have ixs : atI es (i : Int) = some v := at_of (j := i) (by omega) hi
    walk_at "go"
    refine w_ixL (SqL.of g.sd) ixs ?_
    walk_at "go"
    rcases h with ⟨rfl, q⟩ | ⟨r, a, b, rfl, hr2, ha, hb, q⟩
    · walk_at "go"
      intro p hp
      exact q _ p (Ex.new hp) hp upd_same
    · walk_at "go"
      refine ⟨x, cl 23, dx, _, _, rfl, g.ins, T.cls_KindGraph, T.nf_KindGraph_sides, gFs_s c s, ?_⟩
      walk_at "go"
      refine w_ixL (SqL.of g.sd) ixs ?_
      refine ⟨r, rfl, ⟨_, hr2⟩, ?_⟩
      intro dl hdl
      refine lc_tup (K := K) (a := r) (xs := [.int (a : Int), .int (b : Int)]) (fun j H' => Ex H H' ∧ H' dl = some (.lst (([V.int (a : Int), .int (b : Int)]).take j))) ⟨Ex.new hdl, upd_same⟩ (fun j H' _ e => ex_t e.1 hr2) ?_ ?_
      · rintro j y H2 hj ⟨e2, hd2⟩
        have g2 := g.ex e2
        obtain ⟨z, hz, rfl, htk⟩ : ∃ z : Nat, z < es.length ∧ y = .int (z : Int) ∧ ([V.int (a : Int), .int (b : Int)]).take (j + 1) = ([V.int (a : Int), .int (b : Int)]).take j ++ [.int (z : Int)] := by
          match j, hj with
          | 0, hj => cases hj; exact ⟨a, ha, rfl, rfl⟩
          | 1, hj => cases hj; exact ⟨b, hb, rfl, rfl⟩
          | n + 2, hj => simp at hj
        have ll : (([V.int (a : Int), .int (b : Int)]).take j).length ≤ 2 := by rw [List.length_take]; simp; omega
        walk_at "go"
        refine ⟨x, dx, _, rfl, g2.ins, rfl, ?_⟩
        walk_at "go"
        refine ⟨x, dx, c, s, es, z, rfl, g2, hz, ?_⟩
        refine ⟨_, hd2, ly_lt (by omega), e2.mut hdl, ?_⟩
        rw [upd_same, htk]
      · rintro H2 ⟨e2, hd2⟩
        walk_at "go"
        exact q _ dl e2 hdl hd2
end
end Ly
set_option Elab.async false
set_option linter.all false
set_option maxRecDepth 100000
set_option maxHeartbeats 8000000
namespace Ly
open PySem PySem.Spec PyProof.Rows L2 Evl
local macro_rules | `(tactic| walk_at "ne") => `(tactic| first
  | assumption
  | ((refine' Ne.symm ?hq); (case hq => assumption))
  | ((refine' ne_of_none ?nh1 ?nh2); (case nh2 => assumption); (case nh1 => walk_at "hp"))
  | ((refine' Ne.symm (ne_of_none ?nh1 ?nh2)); (case nh2 => assumption); (case nh1 => walk_at "hp")))
local macro_rules | `(tactic| walk_at "hp") => `(tactic| first
  | assumption
  | exact upd_same
  | ((refine' SqL.of ?hq); (case hq => walk_at "hp"))
  | ((refine' SqT.of ?hq); (case hq => walk_at "hp"))
  | ((refine' (upd_ne ?hne).trans ?hrest); (case hne => walk_at "ne"); (case hrest => walk_at "hp"))
  | ((refine' ly_at ?hex ?hh); (case hex => assumption); (case hh => walk_at "hp"))
  | ((refine' ly_atF ?hex ?hnn ?hh); (case hex => assumption); (case hh => walk_at "hp"); (case hnn => walk_at "ne"))
  | ((refine' ex_t ?hex ?hh); (case hh => assumption); (case hex => walk_at "ex"))
  | ((refine' ex_l ?hex ?hh); (case hh => assumption); (case hex => walk_at "ex")))
local macro_rules | `(tactic| walk_at "ex") => `(tactic| first
  | assumption
  | exact Ex.refl _
  | ((refine' ex_new ?xa ?xb); (case xb => assumption); (case xa => walk_at "ex"))
  | ((refine' ex_upd ?xa ?xb); (case xb => walk_at "free"); (case xa => walk_at "ex"))
  | ((refine' Ex.trans ?xa ?xb); (case xb => assumption); (case xa => walk_at "ex")))
local macro_rules | `(tactic| walk_at "free") => `(tactic| first
  | assumption
  | ((refine' fresh_back ?xa ?xb); (case xb => assumption); (case xa => walk_at "ex")))
local macro_rules | `(tactic| walk_at "fr") => `(tactic| first
  | assumption
  | exact Fr.refl _ _
  | ((refine' Fr.own ?hq); (case hq => walk_at "fr"))
  | ((refine' Fr.new ?xa ?xb); (case xb => assumption); (case xa => walk_at "fr"))
  | ((refine' Fr.mut ?xa ?xb); (case xb => assumption); (case xa => walk_at "fr"))
  | ((refine' Fr.trans ?xa ?xb); (case xb => assumption); (case xa => walk_at "fr"))
  | ((refine' Fr.trans ?xa (Fr.ex ?xb)); (case xb => assumption); (case xa => walk_at "fr")))
local macro_rules | `(tactic| walk_at "go1") => `(tactic| first
  | (with_reducible refine' w_seq ?_)
  | (with_reducible refine' w_asg ?_)
  | (with_reducible refine' w_ret ?_)
  | (with_reducible refine' w_drop ?_)
  | (with_reducible refine' w_if ?_)
  | (with_reducible refine' w_next ?_)
  | (with_reducible refine' w_name ?_)
  | (with_reducible refine' w_sub ?_)
  | ((with_reducible refine' w_var ?hv ?_); (case hv => exact rfl))
  | (with_reducible refine' w_c ?_)
  | (with_reducible refine' w_op ?_)
  | (with_reducible refine' w_un ?_)
  | (with_reducible refine' w_ch ?_)
  | (with_reducible refine' w_I0 ?_)
  | ((with_reducible refine' w_I ?hc ?_); (case hc => first | (exact ly_mulL (by decide) (by decide)) | (exact ly_mulR (by decide) (by decide)) | (exact ly_mulL (by omega) (by omega)) | (show (_ : Int) ≠ 0; decide) | (show (_ : Int) ≠ 0; omega) | (exact ⟨by decide, by decide⟩) | (exact ⟨by omega, by omega⟩)))
  | (with_reducible refine' w_U ?_)
  | ((with_reducible refine' w_eq ?hs ?_); (case hs => exact rfl))
  | ((with_reducible refine' w_ne ?hs ?_); (case hs => exact rfl))
  | (with_reducible refine' w_isB ?_)
  | (with_reducible refine' w_notB ?_)
  | (with_reducible refine' w_nil ?_)
  | (with_reducible refine' w_cons ?_)
  | (with_reducible refine' w_tup ?_)
  | (with_reducible refine' w_lst ?_)
  | (with_reducible refine' w_cb ?_)
  | (with_reducible refine' w_call ?_)
  | (with_reducible refine' w_bm ?_)
  | (with_reducible refine' w_bm0 ?_)
  | ((with_reducible refine' w_app ?hh ?hz ?_); (case hh => walk_at "hp"); (case hz => first | exact ly_lt (by omega) | exact ly_lt (by simp only [List.length_append, List.length_map, List.length_cons, List.length_nil]; omega)))
  | ((with_reducible refine' w_popA ?hh ?_); (case hh => walk_at "hp"))
  | ((with_reducible refine' w_ext ?hh ?hh2 ?hz ?_); (case hh => walk_at "hp"); (case hh2 => walk_at "hp"))
  | ((with_reducible refine' w_ixL ?hh ?ha ?_); (case hh => walk_at "hp"); (case ha => first | exact rfl | exact at_map (by omega) | exact atI_last _ _ | ((refine' at_of ?ae ?ah); (case ah => assumption); (case ae => omega))))
  | ((with_reducible refine' w_ixT ?hh ?ha ?_); (case hh => walk_at "hp"); (case ha => first | exact rfl | exact at_map (by omega) | exact atI_last _ _ | ((refine' at_of ?ae ?ah); (case ah => assumption); (case ae => omega))))
  | ((with_reducible refine' w_cat ?hh ?hh2 ?hz ?_); (case hh => walk_at "hp"); (case hh2 => walk_at "hp"))
  | ((with_reducible refine' w_setL ?hh ?ha ?_); (case hh => walk_at "hp"); (case ha => exact rfl))
  | (with_reducible refine' w_test ?_)
  | (with_reducible refine' w_tB ?_)
  | (with_reducible refine' w_bl ?_)
  | (with_reducible refine' w_and ?_)
  | (with_reducible refine' w_or ?_)
  | (with_reducible refine' w_not ?_)
  | (with_reducible refine' w_andV ?_)
  | (with_reducible refine' w_orV ?_)
  | (with_reducible refine' w_notV ?_)
  | (with_reducible refine' w_ifE ?_)
  | (with_reducible refine' w_for ?_)
  | ((with_reducible refine' w_nin ?hh ?_); (case hh => walk_at "hp"))
  | ((with_reducible refine' w_sorted ?hh ?_); (case hh => walk_at "hp"))
  | (with_reducible refine' w_tsadd ?_)
  | ((with_reducible refine' w_tsadd1 ?hh ?_); (case hh => walk_at "hp"))
  | ((with_reducible refine' w_sadd ?hh ?hr ?_); (case hh => walk_at "hp"); (case hr => omega))
  | (with_reducible refine' w_iZ ?_)
  | ((with_reducible refine' w_iZ1 ?hh ?hh2 ?_); (case hh => walk_at "hp"); (case hh2 => walk_at "hp"))
  | (with_reducible refine' w_iS ?_)
  | (with_reducible refine' w_iS1 ?_)
  | ((with_reducible refine' w_gtup ?hh ?hn ?_); (case hh => walk_at "hp"); (case hn => exact rfl))
  | (with_reducible refine' w_gcons ?_)
  | (with_reducible refine' w_gnil ?_)
  | (with_reducible refine' w_js ?_)
  | (with_reducible refine' w_jsn ?_)
  | ((with_reducible refine' w_js1 ?hl ?_); (case hl => decide +kernel))
  | (with_reducible refine' w_fmt ?_)
  | ((with_reducible refine' w_fmt1 ?hl ?_); (case hl => decide +kernel))
  | (with_reducible refine' w_callS ?_)
  | ((with_reducible refine' w_truL ?hh ?_); (case hh => walk_at "hp"))
  | (with_reducible refine' w_lc ?_)
  | (with_reducible refine' w_yes ?_)
  | ((with_reducible refine' w_wipe ?he ?_); (case he => exact rfl))
  | (with_reducible refine' w_iL ?_)
  | (with_reducible refine' w_iT ?_)
  | (with_reducible refine' w_iR ?_)
  | ((with_reducible refine' w_iL1 ?hh ?_); (case hh => walk_at "hp"))
  | ((with_reducible refine' w_iT1 ?hh ?_); (case hh => walk_at "hp"))
  | ((with_reducible refine' w_iR1 ?h1 ?h2 ?_); (case h1 => omega); (case h2 => omega))
  | ((with_reducible refine' w_aug ?hv ?_); (case hv => exact rfl))
  | (with_reducible refine' w_ipI ?_)
  | ((with_reducible refine' w_isi ?hy ?hk ?_); (case hy => walk_at "ty"); (case hk => walk_at "kit"))
  | ((with_reducible refine' w_int ?_))
  | ((with_reducible refine' w_intB ?_))
  | ((with_reducible refine' w_abs ?_))
  | ((with_reducible refine' w_lenL ?hh ?_); (case hh => walk_at "hp"))
  | ((with_reducible refine' w_lenT ?hh ?_); (case hh => walk_at "hp"))
  | ((with_reducible refine' w_tupL ?hh ?_); (case hh => walk_at "hp"))
  | ((with_reducible refine' w_tupT ?hh ?_); (case hh => walk_at "hp"))
  | ((with_reducible refine' w_catA ?hh ?hh2 ?hz ?_); (case hh => walk_at "hp"); (case hh2 => walk_at "hp"); (case hz => walk_at "len"))
  | ((with_reducible refine' w_repB ?hh ?hne ?h2 ?h3 ?hz ?_); (case hh => walk_at "hp"); (case hne => simp); (case h2 => omega); (case h3 => omega); (case hz => exact Nat.le_of_ble_eq_true rfl))
  | ((with_reducible refine' w_eqN ?hh ?hh2 ?n1 ?n2 ?_); (case hh => walk_at "hp"); (case hh2 => walk_at "hp"); (case n1 => walk_at "nd"); (case n2 => walk_at "nd"))
  | ((with_reducible refine' w_neN ?hh ?hh2 ?n1 ?n2 ?_); (case hh => walk_at "hp"); (case hh2 => walk_at "hp"); (case n1 => walk_at "nd"); (case n2 => walk_at "nd"))
  | ((with_reducible refine' w_eqL ?hh ?hh2 ?n1 ?n2 ?_); (case hh => walk_at "hp"); (case hh2 => walk_at "hp"); (case n1 => walk_at "nd"); (case n2 => walk_at "nd"))
  | ((with_reducible refine' w_neL ?hh ?hh2 ?n1 ?n2 ?_); (case hh => walk_at "hp"); (case hh2 => walk_at "hp"); (case n1 => walk_at "nd"); (case n2 => walk_at "nd"))
  | ((with_reducible refine' w_neNon ?hh2 ?n2 ?_); (case hh2 => walk_at "hp"); (case n2 => walk_at "nd"))
  | ((with_reducible refine' w_eqNon ?hh2 ?n2 ?_); (case hh2 => walk_at "hp"); (case n2 => walk_at "nd"))
  | ((with_reducible refine' w_slA ?hh ?_); (case hh => walk_at "hp"))
  | ((with_reducible refine' w_disp ?hz ?_); (case hz => exact sz_of (Nat.le_of_ble_eq_true rfl)))
  | ((with_reducible refine' w_tyL ?hh ?_); (case hh => walk_at "hp"))
  | (with_reducible refine' iteT ?_)
  | (with_reducible refine' iteF ?_)
  | (with_reducible refine' w_nT ?_)
  | (with_reducible refine' w_nn ?_)
  | (with_reducible refine' w_nnT ?_)
  | (with_reducible refine' w_nnR ?_)
  | (with_reducible refine' w_neG ?_)
  | (with_reducible refine' w_eqG ?_)
  | (with_reducible refine' w_neS ?_)
  | (with_reducible refine' w_eqS ?_)
  | (with_reducible refine' w_neSb ?_)
  | (with_reducible refine' w_eqSb ?_)
  | (with_reducible refine' w_deIS ?_)
  | (with_reducible refine' w_deSI ?_)
  | (with_reducible refine' w_deISn ?_)
  | ((with_reducible refine' w_deST ?he ?_); (case he => decide +kernel))
  | ((with_reducible refine' w_deSF ?he ?_); (case he => decide +kernel))
  | ((with_reducible refine' w_deSTn ?he ?_); (case he => decide +kernel))
  | ((with_reducible refine' w_deSFn ?he ?_); (case he => decide +kernel))
  | (with_reducible refine' w_nF ?_)
  | dsimp only [Bool.not_true, Bool.not_false])
local macro_rules | `(tactic| walk_at "ty") => `(tactic| first
  | exact .base (.int _) | exact .base (.str _) | exact .base (.bl _) | exact .base .non
  | ((refine' tyx_t ?hq); (case hq => walk_at "hp")) | ((refine' tyx_l ?hq); (case hq => walk_at "hp")) | ((refine' .base (.tup ?hq)); (case hq => walk_at "hp")) | assumption)
local macro_rules | `(tactic| walk_at "go") => `(tactic| repeat walk_at "go1")
local macro_rules | `(tactic| walk_at "st") => `(tactic| try dsimp only [cxOf, Cx.nox, Cx.wish])
local macro_rules | `(tactic| walk_at "kit") => `(tactic| with_reducible first | exact kit_int_int | exact kit_int_str | exact kit_int_bool | exact kit_int_tuple | exact kit_int_list | exact kit_str_int | exact kit_str_str | exact kit_str_bool | exact kit_str_tuple | exact kit_str_list | exact kit_bool_int | exact kit_bool_str | exact kit_bool_bool | exact kit_bool_tuple | exact kit_bool_list | exact kit_NoneType_int | exact kit_NoneType_str | exact kit_NoneType_bool | exact kit_NoneType_tuple | exact kit_NoneType_list | exact kit_list_int | exact kit_list_str | exact kit_list_bool | exact kit_list_tuple | exact kit_list_list | exact kit_tuple_int | exact kit_tuple_str | exact kit_tuple_bool | exact kit_tuple_tuple | exact kit_tuple_list)
local macro_rules | `(tactic| walk_at "nd") => `(tactic| first
  | assumption
  | exact Tm.nds _
  | exact Nds.nil
  | exact Nds.ofInts _
  | ((refine' Nds.cons ?na ?nb); (case na => first | exact Nds.I _ | exact Nds.L | exact Nds.A); (case nb => walk_at "nd"))
  | ((refine' Nds.app ?na ?nb); (case na => walk_at "nd"); (case nb => walk_at "nd"))
  | ((refine' Nds.rep ?na _); (case na => walk_at "nd")))
local macro_rules | `(tactic| walk_at "len") => `(tactic| first
  | exact ly_sz (by omega)
  | ((simp only [List.length_append, List.length_cons, List.length_nil, List.length_map, PyProof.Rows.lm_len_rep_flat]); exact ly_sz (by omega)))
local macro_rules | `(tactic| walk_at "go1") => `(tactic| first
  | (with_reducible refine' w_kget2 ?_)
  | (with_reducible refine' w_isRN ?_)
  | (with_reducible refine' w_isNN ?_)
  | (with_reducible refine' w_isIN ?_)
  | ((with_reducible refine' w_kg ?hd ?_); (case hd => assumption)))
local macro_rules | `(tactic| walk_at "go1") => `(tactic| first
  | ((with_reducible refine' w_extT ?hh ?hh2 ?hz ?_); (case hh => walk_at "hp"); (case hh2 => walk_at "hp"))
  | ((with_reducible refine' w_I ?hc ?_); (case hc => exact ⟨by decide, by decide, by decide⟩))
  | (with_reducible refine' w_sl ?_)
  | (with_reducible refine' w_noP ?_)
  | (with_reducible refine' w_part ?_)
  | (with_reducible refine' w_part1 ?_)
  | (with_reducible refine' w_it ?_)
  | (with_reducible refine' w_it1 ?_)
  | ((with_reducible refine' w_lenZ ?hz ?_); (case hz => omega))
  | ((with_reducible refine' w_addZb ?hz ?_); (case hz => omega))
  | ((with_reducible refine' w_addZf ?hz ?_); (case hz => omega))
  | ((with_reducible refine' w_addZa ?hz ?_); (case hz => omega))
  | ((with_reducible refine' w_inS ?hh ?_); (case hh => walk_at "hp"))
  | ((with_reducible refine' w_ixT ?hh ?ha ?_); (case hh => assumption); (case ha => exact atI_nat (by assumption))))
local macro_rules | `(tactic| walk_at "go1") => `(tactic| first
  | (with_reducible refine' w_iR2 ?_)
  | ((with_reducible refine' w_iR21 ?h1 ?h2 ?h3 ?h4 ?_); (case h1 => omega); (case h2 => omega); (case h3 => omega); (case h4 => omega))
  | (with_reducible refine' w_nnI ?_)
  | (with_reducible refine' w_max ?_)
  | (with_reducible refine' w_break ?_)
  | (with_reducible refine' w_cont ?_))
local macro_rules | `(tactic| walk_at "go1") => `(tactic| first
  | (with_reducible refine' w_tdget ?_)
  | (with_reducible refine' w_tdin ?_)
  | (with_reducible refine' w_tdnotin ?_)
  | (with_reducible refine' w_sdput ?_)
  | (with_reducible refine' w_tdsetd ?_)
  | (with_reducible refine' w_dnew ?_))
local macro_rules | `(tactic| walk_at "go1") => `(tactic| first
  | (with_reducible refine' w_iZL ?_)
  | (with_reducible refine' w_sfld ?_)
  | (with_reducible refine' w_tfld ?_)
  | (with_reducible refine' w_make ?_)
  | (with_reducible refine' w_tmeth ?_))
section
variable {P : Program} {w : World} {K : PySem.W.Frag} {mg : Str → Option Value} {base : Heap} {tk : Nat → Tok} {cl : Nat → Addr}
def spGLoad (K : PySem.W.Frag) (C : Addr) : Sp := fun vs H Q _ => ∃ (x dx c s d a : Addr) (es : List V) (kvs : List (L2.Key × V)) (t : Kt), vs = [.ref x, .ref a, .ref d] ∧ Gph H C x dx c s es ∧ c ≠ s ∧ H d = some (.dK kvs) ∧ GVar es kvs ∧ SqT K H a t.enc ∧ t.enc.length ≤ 1000 ∧ es.length ≤ 50000 ∧ kvs.length ≤ 50000 ∧
  ∀ H' es' kvs' (i : Nat), Off c s d H H' → Gph H' C x dx c s es' → es <+: es' → H' d = some (.dK kvs') → (∀ (n : Nat) v, valV kvs (.inl (n : Int)) = some v → valV kvs' (.inl (n : Int)) = some v) → GVar es' kvs' → Den K H' es' kvs' i t → es'.length ≤ es.length + t.enc.length → kvs'.length ≤ kvs.length + t.enc.length → Q (.int (i : Int)) H'
theorem ok_gload {f : Addr} {fd : FuncData} (F : Fun K "loaded" "KindGraph.loaded" s_KindGraph_loaded f fd) (T : Txt w K mg tk cl) (M_KindGraph_new_node : C8.Met P w K mg base 1 (cl 23) "new_node" (spGNew (cl 23)) []) : FnOk P w K mg base CX0 2 f fd ["self", "kind", "variables"] (spGLoad K (cl 23)) := by
  refine F.ok sc_KindGraph_loaded (fun vs H Q E h => ?_) (fun cdv A outer s H vs Q E hr h => ?_)
  · obtain ⟨_, _, _, _, _, _, _, _, _, rfl, _⟩ := h
    rfl
  · obtain ⟨x, dx, c, s, d, a, es, kvs, t, rfl, g, hcs, hd, hv, hS, htl, hel, hkl, q⟩ := h
    have hxc := g.ne.1
    have hxs := g.ne.2
    have hxd : x ≠ d := fun z => by have := g.ins; rw [z, hd] at this; cases this
    have hdc : d ≠ c := fun z => by rw [z, g.ch] at hd; cases hd
    have hds : d ≠ s := fun z => by rw [z, g.sd] at hd; cases hd
    refine ⟨_, (pss_cons (ps_set (i := 3) sc_KindGraph_loaded.nd rfl (.inl rfl) (pe_lst pa_nil)) (pss_cons (ps_for PassesOwn.never rfl (RT.pi_revA (by rfl) T.n_reversed (pv 1)) (pg_name (i := 4) sc_KindGraph_loaded.nd rfl (.inl rfl)) (pss_one (ps_if (pt_cmpR op_eq (pv 4) pe_str (nomark _)) (pss_cons (ps_set (i := 5) sc_KindGraph_loaded.nd rfl (.inl rfl) (pe_bm0 PySem.F.plainAttrs_list PySem.F.slot_list_pop PySem.F.type_list_pop mt_pop (pv 3))) (pss_one (ps_expr (pe_bm PySem.F.plainAttrs_list PySem.F.slot_list_append PySem.F.type_list_append mt_append (pv 3) (pa_cons (C8.pe_mt M_KindGraph_new_node hr (by first | decide | omega) (pv 0) (pa_cons (pe_tup (pa_cons (pv 5) (pa_cons (pe_bm0 PySem.F.plainAttrs_list PySem.F.slot_list_pop PySem.F.type_list_pop mt_pop (pv 3)) pa_nil))) pa_nil)) pa_nil))))) (pss_cut (ps_if (pt_cmp (pc_dnotin (by exact Nat.lt_of_le_of_lt (Nat.add_le_add_left (by decide) _) hr.units) (pv 4) (pv 2))) (pss_one (ps_dput (by exact Nat.lt_of_le_of_lt (Nat.add_le_add_left (by decide) _) hr.units) (pv 2) (pv 4) (C8.pe_mt M_KindGraph_new_node hr (by first | decide | omega) (pv 0) (pa_cons pe_non pa_nil)) (by rfl))) pss_nil) (pss_one (ps_expr (pe_bm PySem.F.plainAttrs_list PySem.F.slot_list_append PySem.F.type_list_append mt_append (pv 3) (pa_cons (pe_dget (by exact Nat.lt_of_le_of_lt (Nat.add_le_add_left (by decide) _) hr.units) (pv 2) (pv 4) (fun _ _ => rfl)) pa_nil)))))))) (pss_one (ps_ret (pe_bm0 PySem.F.plainAttrs_list PySem.F.slot_list_pop PySem.F.type_list_pop mt_pop (pv 3)))))), ?_⟩
    refine sl_of (σ2 := [some _, some _, some _, none, none, none]) rfl ?_
    walk_at "st"
    walk_at "go"
    intro pd hpd
    have hpx : x ≠ pd := ne_of_none g.ins hpd
    have hpc : c ≠ pd := ne_of_none g.ch hpd
    have hps : s ≠ pd := ne_of_none g.sd hpd
    have hpd2 : d ≠ pd := ne_of_none hd hpd
    have offP : ∀ {H' : Hp} {o : HO}, Off c s d H H' → Off c s d H (upd H' pd o) := fun {H' o} z b u h1 h2 h4 h => by rw [upd_ne (fun z => by rw [z, hpd] at h; cases h)]; exact z b u h1 h2 h4 h
    have gphP : ∀ {H' : Hp} {o : HO} {es' : List V}, Gph H' (cl 23) x dx c s es' → Gph (upd H' pd o) (cl 23) x dx c s es' := fun {H' o es'} g => ⟨by rw [upd_ne hpx]; exact g.ins, by rw [upd_ne hpc]; exact g.ch, by rw [upd_ne hps]; exact g.sd⟩
    walk_at "go"
    refine ⟨_, rfl, ?_⟩
    refine ⟨a, t.enc, rfl, .inr ⟨ex_t (Ex.new hpd) hS, ?_⟩⟩
    refine RT.for_ItvT (K := K) (a := a) (xs := t.enc) (fun i σ H' => ∃ (us : List Kt) (ids : List Nat) (es' : List V) (kvs' : List (L2.Key × V)) (y4 y5 : Option V), σ = [some (.ref x), some (.ref a), some (.ref d), some (.ref pd), y4, y5] ∧ Off c s d H H' ∧ Gph H' (cl 23) x dx c s es' ∧ es <+: es' ∧ H' d = some (.dK kvs') ∧ (∀ (n : Nat) v, valV kvs (.inl (n : Int)) = some v → valV kvs' (.inl (n : Int)) = some v) ∧ GVar es' kvs' ∧ kencs us = t.enc.drop (t.enc.length - i) ∧ H' pd = some (.lst (nums ids.reverse)) ∧ DenL K H' es' kvs' ids us ∧ es'.length ≤ es.length + i ∧ kvs'.length ≤ kvs.length + i)
      ⟨[], [], es, kvs, none, none, rfl, Off.ex (Ex.new hpd), g.ex (Ex.new hpd), List.prefix_rfl, (Ex.new hpd) _ _ hd, fun _ _ h => h, hv, by simp [kencs], upd_same, .nil, Nat.le_refl _, Nat.le_refl _⟩ (fun i σ H' ⟨_, _, _, _, _, _, _, o, _⟩ => off_sqt o g.ch g.sd hd hS) ?_ ?_
    · rintro i v σ H2 hi hx ⟨us, ids, es', kvs', y4, y5, rfl, o2, g2, p2, hd2, x2, v2, hus, hp2, hD2, le2, lk2⟩
      have ei : t.enc.length - 1 - i + 1 = t.enc.length - i := by omega
      obtain ⟨ws, hws, hcase⟩ := kforest_step (us := us) hx (by rw [ei]; exact hus)
      have ei3 : kencs ws = t.enc.drop (t.enc.length - (i + 1)) := by rw [show t.enc.length - (i + 1) = t.enc.length - 1 - i by omega]; exact hws
      have hil := hD2.len
      have hul := kencs_pos us
      rw [hus, List.length_drop] at hul
      have nl : (nums ids.reverse).length = us.length := by simp [nums, hil]
      have sl := sizeLine_eq
      rcases hcase with ⟨n, rfl, rfl⟩ | ⟨b1, b2, us2, rfl, rfl, rfl⟩
      · walk_at "go"
        refine w_cut (M := fun σ' H' => ∃ (es3 : List V) (kvs3 : List (L2.Key × V)) (j : Nat), σ' = [some (.ref x), some (.ref a), some (.ref d), some (.ref pd), some (.int (n : Int)), y5] ∧ Off c s d H H' ∧ Gph H' (cl 23) x dx c s es3 ∧ es <+: es3 ∧ H' d = some (.dK kvs3) ∧ (∀ (n : Nat) v, valV kvs (.inl (n : Int)) = some v → valV kvs3 (.inl (n : Int)) = some v) ∧ GVar es3 kvs3 ∧ H' pd = some (.lst (nums ids.reverse)) ∧ DenL K H' es3 kvs3 ids us ∧ es3.length ≤ es.length + (i + 1) ∧ kvs3.length ≤ kvs.length + (i + 1) ∧ valV kvs3 (.inl (n : Int)) = some (.int (j : Int)) ∧ es3[j]? = some .non) ?_ ?_
        · walk_at "go"
          refine w_dnotin hd2 ?_
          cases hn : valV kvs' (.inl (n : Int)) with
          | some v =>
            obtain ⟨j, rfl, hj⟩ := v2.at_ n v hn
            simp only [Option.isSome_some, Bool.not_true]
            walk_at "go"
            exact ⟨es', kvs', j, rfl, o2, g2, p2, hd2, x2, v2, hp2, hD2, by omega, by omega, hn, hj⟩
          | none =>
            simp only [Option.isSome_none, Bool.not_false]
            walk_at "go"
            refine ⟨x, dx, _, rfl, g2.ins, rfl, ?_⟩
            walk_at "go"
            refine ⟨x, dx, c, s, es', .non, rfl, g2, hcs, by omega, fun H3 hk g3 => ?_⟩
            have hd3 : H3 d = some (.dK kvs') := by rw [hk d hdc hds]; exact hd2
            have hp3 : H3 pd = some (.lst (nums ids.reverse)) := by rw [hk pd hpc.symm hps.symm]; exact hp2
            have o3 : Off c s d H2 H3 := fun a o h1 h2 _ h => by rw [hk a h1 h2]; exact h
            obtain ⟨v4, x4⟩ := v2.put hn
            have lp := length_putK kvs' (.inl (n : Int)) (.int (es'.length : Int))
            walk_at "go"
            refine w_dput hd3 (ly_lt (by omega)) ?_
            have hd4 : upd H3 d (.dK (putK kvs' (.inl (n : Int)) (.int (es'.length : Int)))) d = some (.dK (putK kvs' (.inl (n : Int)) (.int (es'.length : Int)))) := upd_same
            have hp4 : upd H3 d (.dK (putK kvs' (.inl (n : Int)) (.int (es'.length : Int)))) pd = some (.lst (nums ids.reverse)) := by rw [upd_ne hpd2.symm]; exact hp3
            have g4 : Gph (upd H3 d (.dK (putK kvs' (.inl (n : Int)) (.int (es'.length : Int))))) (cl 23) x dx c s (es' ++ [.non]) := ⟨by rw [upd_ne hxd]; exact g3.ins, by rw [upd_ne hdc.symm]; exact g3.ch, by rw [upd_ne hds.symm]; exact g3.sd⟩
            have o4 : Off c s d H2 (upd H3 d (.dK (putK kvs' (.inl (n : Int)) (.int (es'.length : Int))))) := fun a o h1 h2 h3 h => by rw [upd_ne h3]; exact o3 a o h1 h2 h3 h
            generalize upd H3 d (.dK (putK kvs' (.inl (n : Int)) (.int (es'.length : Int)))) = H4 at *
            walk_at "go"
            exact ⟨_, _, es'.length, rfl, o2.trans o4, g4, p2.trans (List.prefix_append _ _), hd4, fun m v h => x4 m v (x2 m v h), v4, hp4, hD2.mono (fun _ _ z => off_sqt o4 g2.ch g2.sd hd2 z) (List.prefix_append _ _) x4, by rw [List.length_append, List.length_singleton]; omega, by omega, by rw [valV_put]; simp, by simp⟩
        · clear g2 hd2 hp2 hD2 o2 v2 x2 p2 le2 lk2
          rintro σ' H3 ⟨es3, kvs3, j, rfl, o3, g3, p3, hd3, x3, v3, hp3, hD3, le3, lk3, hn, hj⟩
          walk_at "go"
          refine w_dget hd3 hn ?_
          walk_at "go"
          have er : nums ids.reverse ++ [.int (j : Int)] = nums (j :: ids).reverse := by simp [nums]
          rw [er]
          have hx3 := g3.ne
          have k4 : ∀ b, b ≠ pd → upd H3 pd (.lst (nums (j :: ids).reverse)) b = H3 b := fun b hb => upd_ne hb
          have o4 : Off c s d H (upd H3 pd (.lst (nums (j :: ids).reverse))) := fun b o h1 h2 h4 h => by rw [k4 b (fun z => by rw [z, hpd] at h; cases h)]; exact o3 b o h1 h2 h4 h
          have m4 : ∀ b xs, SqT K H3 b xs → SqT K (upd H3 pd (.lst (nums (j :: ids).reverse))) b xs := fun b xs z => sqt_lst hp3 z
          exact ⟨.var n :: us, j :: ids, es3, kvs3, _, _, rfl, o4, ⟨by rw [k4 x hpx]; exact g3.ins, by rw [k4 c hpc]; exact g3.ch, by rw [k4 s hps]; exact g3.sd⟩, p3, by rw [k4 d hpd2]; exact hd3, x3, v3, ei3, upd_same, .cons (.var hj hn) (hD3.mono m4 List.prefix_rfl fun _ _ h => h), le3, lk3⟩
      · obtain ⟨i1, i2, ids, rfl, h1, h2, hD3⟩ : ∃ i1 i2 ids3, ids = i1 :: i2 :: ids3 ∧ Den K H2 es' kvs' i1 b1 ∧ Den K H2 es' kvs' i2 b2 ∧ DenL K H2 es' kvs' ids3 us2 := by
          cases hD2 with
          | cons h1 r =>
            cases r with
            | cons h2 r => exact ⟨_, _, _, rfl, h1, h2, r⟩
        have er : nums (i1 :: i2 :: ids).reverse = nums ids.reverse ++ [.int (i2 : Int)] ++ [.int (i1 : Int)] := by simp [nums]
        rw [er] at hp2
        walk_at "go"
        have hp3 : upd H2 pd (.lst (nums ids.reverse ++ [.int (i2 : Int)])) pd = some (.lst (nums ids.reverse ++ [.int (i2 : Int)])) := upd_same
        have hd3 : upd H2 pd (.lst (nums ids.reverse ++ [.int (i2 : Int)])) d = some (.dK kvs') := by rw [upd_ne hpd2]; exact hd2
        have m3 : ∀ b xs, SqT K H2 b xs → SqT K (upd H2 pd (.lst (nums ids.reverse ++ [.int (i2 : Int)]))) b xs := fun b xs z => sqt_lst hp2 z
        have g3 := gphP (o := .lst (nums ids.reverse ++ [.int (i2 : Int)])) g2
        have o3 := offP (o := .lst (nums ids.reverse ++ [.int (i2 : Int)])) o2
        generalize upd H2 pd (.lst (nums ids.reverse ++ [.int (i2 : Int)])) = H3 at *
        refine ⟨x, dx, _, rfl, g3.ins, rfl, ?_⟩
        walk_at "go"
        have hp4 : upd H3 pd (.lst (nums ids.reverse)) pd = some (.lst (nums ids.reverse)) := upd_same
        have hd4 : upd H3 pd (.lst (nums ids.reverse)) d = some (.dK kvs') := by rw [upd_ne hpd2]; exact hd3
        have m4 : ∀ b xs, SqT K H3 b xs → SqT K (upd H3 pd (.lst (nums ids.reverse))) b xs := fun b xs z => sqt_lst hp3 z
        have g4 := gphP (o := .lst (nums ids.reverse)) g3
        have o4 := offP (o := .lst (nums ids.reverse)) o3
        generalize upd H3 pd (.lst (nums ids.reverse)) = H4 at *
        intro qq hqq
        have e5 := Ex.new hqq (o := .tup [V.int (i1 : Int), V.int (i2 : Int)])
        have hq5 : SqT K (upd H4 qq (.tup [V.int (i1 : Int), V.int (i2 : Int)])) qq [V.int (i1 : Int), V.int (i2 : Int)] := SqT.of upd_same
        generalize upd H4 qq (.tup [V.int (i1 : Int), V.int (i2 : Int)]) = H5 at *
        have g5 := g4.ex e5
        have hd5 := e5 _ _ hd4
        have hp5 := e5 _ _ hp4
        have o5 := o4.trans (Off.ex e5)
        walk_at "go"
        refine ⟨x, dx, c, s, es', .ref qq, rfl, g5, hcs, by omega, fun H6 hk g6 => ?_⟩
        have hd6 : H6 d = some (.dK kvs') := by rw [hk d hdc hds]; exact hd5
        have hp6 : H6 pd = some (.lst (nums ids.reverse)) := by rw [hk pd hpc.symm hps.symm]; exact hp5
        have o56 : Off c s d H5 H6 := fun a o h1 h2 _ h => by rw [hk a h1 h2]; exact h
        have m6 : ∀ b xs, SqT K H5 b xs → SqT K H6 b xs := fun b xs z => off_sqt o56 g5.ch g5.sd hd5 z
        have mm : ∀ b xs, SqT K H2 b xs → SqT K (upd H6 pd (.lst (nums (es'.length :: ids).reverse))) b xs := fun b xs z => sqt_lst hp6 (m6 _ _ (ex_t e5 (m4 _ _ (m3 _ _ z))))
        have pp : es' <+: es' ++ [.ref qq] := List.prefix_append _ _
        have nl2 : (nums ids.reverse).length ≤ 1000 := by
          simp only [List.length_cons] at hil hul
          simp only [nums, List.length_map, List.length_reverse]
          omega
        walk_at "go"
        have er2 : nums ids.reverse ++ [.int (es'.length : Int)] = nums (es'.length :: ids).reverse := by simp [nums]
        rw [er2]
        exact ⟨.to b1 b2 :: us2, es'.length :: ids, es' ++ [.ref qq], kvs', _, _, rfl, offP (o5.trans o56), gphP g6, p2.trans pp, by rw [upd_ne hpd2]; exact hd6, x2, v2.grow pp, ei3, upd_same, .cons (.to (r := qq) (a := i1) (b := i2) (by simp) (sqt_lst hp6 (m6 _ _ hq5)) (Nat.lt_of_lt_of_le h1.lt pp.length_le) (Nat.lt_of_lt_of_le h2.lt pp.length_le) (h1.mono mm pp fun _ _ h => h) (h2.mono mm pp fun _ _ h => h)) (hD3.mono mm pp fun _ _ h => h), by rw [List.length_append, List.length_singleton]; omega, by omega⟩
    · rintro σ H2 ⟨us, ids, es', kvs', y4, y5, rfl, o2, g2, p2, hd2, x2, v2, hus, hp2, hD2, le2, lk2⟩
      rw [show t.enc.length - t.enc.length = 0 by omega, List.drop_zero] at hus
      have eus : us = [t] := kencs_inj us [t] (by rw [hus]; simp [kencs])
      subst eus
      cases hD2 with
      | cons h r =>
        cases r
        rename_i j
        have hp2 : H2 pd = some (.lst ([] ++ [.int (j : Int)])) := hp2
        walk_at "go"
        exact q _ es' kvs' j (offP o2) (gphP g2) p2 (by rw [upd_ne hpd2]; exact hd2) x2 v2 (h.mono (fun _ _ z => sqt_lst hp2 z) List.prefix_rfl fun _ _ h => h) le2 lk2
end
end Ly
set_option Elab.async false
set_option linter.all false
set_option maxRecDepth 100000
set_option maxHeartbeats 8000000
namespace Ly
open PySem PySem.Spec PyProof.Rows L2 Evl
local macro_rules | `(tactic| walk_at "ne") => `(tactic| first
  | assumption
  | ((refine' Ne.symm ?hq); (case hq => assumption))
  | ((refine' ne_of_none ?nh1 ?nh2); (case nh2 => assumption); (case nh1 => walk_at "hp"))
  | ((refine' Ne.symm (ne_of_none ?nh1 ?nh2)); (case nh2 => assumption); (case nh1 => walk_at "hp")))
local macro_rules | `(tactic| walk_at "hp") => `(tactic| first
  | assumption
  | exact upd_same
  | ((refine' SqL.of ?hq); (case hq => walk_at "hp"))
  | ((refine' SqT.of ?hq); (case hq => walk_at "hp"))
  | ((refine' (upd_ne ?hne).trans ?hrest); (case hne => walk_at "ne"); (case hrest => walk_at "hp"))
  | ((refine' ly_at ?hex ?hh); (case hex => assumption); (case hh => walk_at "hp"))
  | ((refine' ly_atF ?hex ?hnn ?hh); (case hex => assumption); (case hh => walk_at "hp"); (case hnn => walk_at "ne"))
  | ((refine' ex_t ?hex ?hh); (case hh => assumption); (case hex => walk_at "ex"))
  | ((refine' ex_l ?hex ?hh); (case hh => assumption); (case hex => walk_at "ex")))
local macro_rules | `(tactic| walk_at "ex") => `(tactic| first
  | assumption
  | exact Ex.refl _
  | ((refine' ex_new ?xa ?xb); (case xb => assumption); (case xa => walk_at "ex"))
  | ((refine' ex_upd ?xa ?xb); (case xb => walk_at "free"); (case xa => walk_at "ex"))
  | ((refine' Ex.trans ?xa ?xb); (case xb => assumption); (case xa => walk_at "ex")))
local macro_rules | `(tactic| walk_at "free") => `(tactic| first
  | assumption
  | ((refine' fresh_back ?xa ?xb); (case xb => assumption); (case xa => walk_at "ex")))
local macro_rules | `(tactic| walk_at "fr") => `(tactic| first
  | assumption
  | exact Fr.refl _ _
  | ((refine' Fr.own ?hq); (case hq => walk_at "fr"))
  | ((refine' Fr.new ?xa ?xb); (case xb => assumption); (case xa => walk_at "fr"))
  | ((refine' Fr.mut ?xa ?xb); (case xb => assumption); (case xa => walk_at "fr"))
  | ((refine' Fr.trans ?xa ?xb); (case xb => assumption); (case xa => walk_at "fr"))
  | ((refine' Fr.trans ?xa (Fr.ex ?xb)); (case xb => assumption); (case xa => walk_at "fr")))
local macro_rules | `(tactic| walk_at "go1") => `(tactic| first
  | (with_reducible refine' w_seq ?_)
  | (with_reducible refine' w_asg ?_)
  | (with_reducible refine' w_ret ?_)
  | (with_reducible refine' w_drop ?_)
  | (with_reducible refine' w_if ?_)
  | (with_reducible refine' w_next ?_)
  | (with_reducible refine' w_name ?_)
  | (with_reducible refine' w_sub ?_)
  | ((with_reducible refine' w_var ?hv ?_); (case hv => exact rfl))
  | (with_reducible refine' w_c ?_)
  | (with_reducible refine' w_op ?_)
  | (with_reducible refine' w_un ?_)
  | (with_reducible refine' w_ch ?_)
  | (with_reducible refine' w_I0 ?_)
  | ((with_reducible refine' w_I ?hc ?_); (case hc => first | (exact ly_mulL (by decide) (by decide)) | (exact ly_mulR (by decide) (by decide)) | (exact ly_mulL (by omega) (by omega)) | (show (_ : Int) ≠ 0; decide) | (show (_ : Int) ≠ 0; omega) | (exact ⟨by decide, by decide⟩) | (exact ⟨by omega, by omega⟩)))
  | (with_reducible refine' w_U ?_)
  | ((with_reducible refine' w_eq ?hs ?_); (case hs => exact rfl))
  | ((with_reducible refine' w_ne ?hs ?_); (case hs => exact rfl))
  | (with_reducible refine' w_isB ?_)
  | (with_reducible refine' w_notB ?_)
  | (with_reducible refine' w_nil ?_)
  | (with_reducible refine' w_cons ?_)
  | (with_reducible refine' w_tup ?_)
  | (with_reducible refine' w_lst ?_)
  | (with_reducible refine' w_cb ?_)
  | (with_reducible refine' w_call ?_)
  | (with_reducible refine' w_bm ?_)
  | (with_reducible refine' w_bm0 ?_)
  | ((with_reducible refine' w_app ?hh ?hz ?_); (case hh => walk_at "hp"); (case hz => first | exact ly_lt (by omega) | exact ly_lt (by simp only [List.length_append, List.length_map, List.length_cons, List.length_nil]; omega)))
  | ((with_reducible refine' w_popA ?hh ?_); (case hh => walk_at "hp"))
  | ((with_reducible refine' w_ext ?hh ?hh2 ?hz ?_); (case hh => walk_at "hp"); (case hh2 => walk_at "hp"))
  | ((with_reducible refine' w_ixL ?hh ?ha ?_); (case hh => walk_at "hp"); (case ha => first | exact rfl | exact at_map (by omega) | exact atI_last _ _ | ((refine' at_of ?ae ?ah); (case ah => assumption); (case ae => omega))))
  | ((with_reducible refine' w_ixT ?hh ?ha ?_); (case hh => walk_at "hp"); (case ha => first | exact rfl | exact at_map (by omega) | exact atI_last _ _ | ((refine' at_of ?ae ?ah); (case ah => assumption); (case ae => omega))))
  | ((with_reducible refine' w_cat ?hh ?hh2 ?hz ?_); (case hh => walk_at "hp"); (case hh2 => walk_at "hp"))
  | ((with_reducible refine' w_setL ?hh ?ha ?_); (case hh => walk_at "hp"); (case ha => exact rfl))
  | (with_reducible refine' w_test ?_)
  | (with_reducible refine' w_tB ?_)
  | (with_reducible refine' w_bl ?_)
  | (with_reducible refine' w_and ?_)
  | (with_reducible refine' w_or ?_)
  | (with_reducible refine' w_not ?_)
  | (with_reducible refine' w_andV ?_)
  | (with_reducible refine' w_orV ?_)
  | (with_reducible refine' w_notV ?_)
  | (with_reducible refine' w_ifE ?_)
  | (with_reducible refine' w_for ?_)
  | ((with_reducible refine' w_nin ?hh ?_); (case hh => walk_at "hp"))
  | ((with_reducible refine' w_sorted ?hh ?_); (case hh => walk_at "hp"))
  | (with_reducible refine' w_tsadd ?_)
  | ((with_reducible refine' w_tsadd1 ?hh ?_); (case hh => walk_at "hp"))
  | ((with_reducible refine' w_sadd ?hh ?hr ?_); (case hh => walk_at "hp"); (case hr => omega))
  | (with_reducible refine' w_iZ ?_)
  | ((with_reducible refine' w_iZ1 ?hh ?hh2 ?_); (case hh => walk_at "hp"); (case hh2 => walk_at "hp"))
  | (with_reducible refine' w_iS ?_)
  | (with_reducible refine' w_iS1 ?_)
  | ((with_reducible refine' w_gtup ?hh ?hn ?_); (case hh => walk_at "hp"); (case hn => exact rfl))
  | (with_reducible refine' w_gcons ?_)
  | (with_reducible refine' w_gnil ?_)
  | (with_reducible refine' w_js ?_)
  | (with_reducible refine' w_jsn ?_)
  | ((with_reducible refine' w_js1 ?hl ?_); (case hl => decide +kernel))
  | (with_reducible refine' w_fmt ?_)
  | ((with_reducible refine' w_fmt1 ?hl ?_); (case hl => decide +kernel))
  | (with_reducible refine' w_callS ?_)
  | ((with_reducible refine' w_truL ?hh ?_); (case hh => walk_at "hp"))
  | (with_reducible refine' w_lc ?_)
  | (with_reducible refine' w_yes ?_)
  | ((with_reducible refine' w_wipe ?he ?_); (case he => exact rfl))
  | (with_reducible refine' w_iL ?_)
  | (with_reducible refine' w_iT ?_)
  | (with_reducible refine' w_iR ?_)
  | ((with_reducible refine' w_iL1 ?hh ?_); (case hh => walk_at "hp"))
  | ((with_reducible refine' w_iT1 ?hh ?_); (case hh => walk_at "hp"))
  | ((with_reducible refine' w_iR1 ?h1 ?h2 ?_); (case h1 => omega); (case h2 => omega))
  | ((with_reducible refine' w_aug ?hv ?_); (case hv => exact rfl))
  | (with_reducible refine' w_ipI ?_)
  | ((with_reducible refine' w_isi ?hy ?hk ?_); (case hy => walk_at "ty"); (case hk => walk_at "kit"))
  | ((with_reducible refine' w_int ?_))
  | ((with_reducible refine' w_intB ?_))
  | ((with_reducible refine' w_abs ?_))
  | ((with_reducible refine' w_lenL ?hh ?_); (case hh => walk_at "hp"))
  | ((with_reducible refine' w_lenT ?hh ?_); (case hh => walk_at "hp"))
  | ((with_reducible refine' w_tupL ?hh ?_); (case hh => walk_at "hp"))
  | ((with_reducible refine' w_tupT ?hh ?_); (case hh => walk_at "hp"))
  | ((with_reducible refine' w_catA ?hh ?hh2 ?hz ?_); (case hh => walk_at "hp"); (case hh2 => walk_at "hp"); (case hz => walk_at "len"))
  | ((with_reducible refine' w_repB ?hh ?hne ?h2 ?h3 ?hz ?_); (case hh => walk_at "hp"); (case hne => simp); (case h2 => omega); (case h3 => omega); (case hz => exact Nat.le_of_ble_eq_true rfl))
  | ((with_reducible refine' w_eqN ?hh ?hh2 ?n1 ?n2 ?_); (case hh => walk_at "hp"); (case hh2 => walk_at "hp"); (case n1 => walk_at "nd"); (case n2 => walk_at "nd"))
  | ((with_reducible refine' w_neN ?hh ?hh2 ?n1 ?n2 ?_); (case hh => walk_at "hp"); (case hh2 => walk_at "hp"); (case n1 => walk_at "nd"); (case n2 => walk_at "nd"))
  | ((with_reducible refine' w_eqL ?hh ?hh2 ?n1 ?n2 ?_); (case hh => walk_at "hp"); (case hh2 => walk_at "hp"); (case n1 => walk_at "nd"); (case n2 => walk_at "nd"))
  | ((with_reducible refine' w_neL ?hh ?hh2 ?n1 ?n2 ?_); (case hh => walk_at "hp"); (case hh2 => walk_at "hp"); (case n1 => walk_at "nd"); (case n2 => walk_at "nd"))
  | ((with_reducible refine' w_neNon ?hh2 ?n2 ?_); (case hh2 => walk_at "hp"); (case n2 => walk_at "nd"))
  | ((with_reducible refine' w_eqNon ?hh2 ?n2 ?_); (case hh2 => walk_at "hp"); (case n2 => walk_at "nd"))
  | ((with_reducible refine' w_slA ?hh ?_); (case hh => walk_at "hp"))
  | ((with_reducible refine' w_disp ?hz ?_); (case hz => exact sz_of (Nat.le_of_ble_eq_true rfl)))
  | ((with_reducible refine' w_tyL ?hh ?_); (case hh => walk_at "hp"))
  | (with_reducible refine' iteT ?_)
  | (with_reducible refine' iteF ?_)
  | (with_reducible refine' w_nT ?_)
  | (with_reducible refine' w_nn ?_)
  | (with_reducible refine' w_nnT ?_)
  | (with_reducible refine' w_nnR ?_)
  | (with_reducible refine' w_neG ?_)
  | (with_reducible refine' w_eqG ?_)
  | (with_reducible refine' w_neS ?_)
  | (with_reducible refine' w_eqS ?_)
  | (with_reducible refine' w_neSb ?_)
  | (with_reducible refine' w_eqSb ?_)
  | (with_reducible refine' w_deIS ?_)
  | (with_reducible refine' w_deSI ?_)
  | (with_reducible refine' w_deISn ?_)
  | ((with_reducible refine' w_deST ?he ?_); (case he => decide +kernel))
  | ((with_reducible refine' w_deSF ?he ?_); (case he => decide +kernel))
  | ((with_reducible refine' w_deSTn ?he ?_); (case he => decide +kernel))
  | ((with_reducible refine' w_deSFn ?he ?_); (case he => decide +kernel))
  | (with_reducible refine' w_nF ?_)
  | dsimp only [Bool.not_true, Bool.not_false])
local macro_rules | `(tactic| walk_at "ty") => `(tactic| first
  | exact .base (.int _) | exact .base (.str _) | exact .base (.bl _) | exact .base .non
  | ((refine' tyx_t ?hq); (case hq => walk_at "hp")) | ((refine' tyx_l ?hq); (case hq => walk_at "hp")) | ((refine' .base (.tup ?hq)); (case hq => walk_at "hp")) | assumption)
local macro_rules | `(tactic| walk_at "go") => `(tactic| repeat walk_at "go1")
local macro_rules | `(tactic| walk_at "st") => `(tactic| try dsimp only [cxOf, Cx.nox, Cx.wish])
local macro_rules | `(tactic| walk_at "kit") => `(tactic| with_reducible first | exact kit_int_int | exact kit_int_str | exact kit_int_bool | exact kit_int_tuple | exact kit_int_list | exact kit_str_int | exact kit_str_str | exact kit_str_bool | exact kit_str_tuple | exact kit_str_list | exact kit_bool_int | exact kit_bool_str | exact kit_bool_bool | exact kit_bool_tuple | exact kit_bool_list | exact kit_NoneType_int | exact kit_NoneType_str | exact kit_NoneType_bool | exact kit_NoneType_tuple | exact kit_NoneType_list | exact kit_list_int | exact kit_list_str | exact kit_list_bool | exact kit_list_tuple | exact kit_list_list | exact kit_tuple_int | exact kit_tuple_str | exact kit_tuple_bool | exact kit_tuple_tuple | exact kit_tuple_list)
local macro_rules | `(tactic| walk_at "nd") => `(tactic| first
  | assumption
  | exact Tm.nds _
  | exact Nds.nil
  | exact Nds.ofInts _
  | ((refine' Nds.cons ?na ?nb); (case na => first | exact Nds.I _ | exact Nds.L | exact Nds.A); (case nb => walk_at "nd"))
  | ((refine' Nds.app ?na ?nb); (case na => walk_at "nd"); (case nb => walk_at "nd"))
  | ((refine' Nds.rep ?na _); (case na => walk_at "nd")))
local macro_rules | `(tactic| walk_at "len") => `(tactic| first
  | exact ly_sz (by omega)
  | ((simp only [List.length_append, List.length_cons, List.length_nil, List.length_map, PyProof.Rows.lm_len_rep_flat]); exact ly_sz (by omega)))
local macro_rules | `(tactic| walk_at "go1") => `(tactic| first
  | (with_reducible refine' w_kget2 ?_)
  | (with_reducible refine' w_isRN ?_)
  | (with_reducible refine' w_isNN ?_)
  | (with_reducible refine' w_isIN ?_)
  | ((with_reducible refine' w_kg ?hd ?_); (case hd => assumption)))
local macro_rules | `(tactic| walk_at "go1") => `(tactic| first
  | ((with_reducible refine' w_extT ?hh ?hh2 ?hz ?_); (case hh => walk_at "hp"); (case hh2 => walk_at "hp"))
  | ((with_reducible refine' w_I ?hc ?_); (case hc => exact ⟨by decide, by decide, by decide⟩))
  | (with_reducible refine' w_sl ?_)
  | (with_reducible refine' w_noP ?_)
  | (with_reducible refine' w_part ?_)
  | (with_reducible refine' w_part1 ?_)
  | (with_reducible refine' w_it ?_)
  | (with_reducible refine' w_it1 ?_)
  | ((with_reducible refine' w_lenZ ?hz ?_); (case hz => omega))
  | ((with_reducible refine' w_addZb ?hz ?_); (case hz => omega))
  | ((with_reducible refine' w_addZf ?hz ?_); (case hz => omega))
  | ((with_reducible refine' w_addZa ?hz ?_); (case hz => omega))
  | ((with_reducible refine' w_inS ?hh ?_); (case hh => walk_at "hp"))
  | ((with_reducible refine' w_ixT ?hh ?ha ?_); (case hh => assumption); (case ha => exact atI_nat (by assumption))))
local macro_rules | `(tactic| walk_at "go1") => `(tactic| first
  | (with_reducible refine' w_iR2 ?_)
  | ((with_reducible refine' w_iR21 ?h1 ?h2 ?h3 ?h4 ?_); (case h1 => omega); (case h2 => omega); (case h3 => omega); (case h4 => omega))
  | (with_reducible refine' w_nnI ?_)
  | (with_reducible refine' w_max ?_)
  | (with_reducible refine' w_break ?_)
  | (with_reducible refine' w_cont ?_))
local macro_rules | `(tactic| walk_at "go1") => `(tactic| first
  | (with_reducible refine' w_tdget ?_)
  | (with_reducible refine' w_tdin ?_)
  | (with_reducible refine' w_tdnotin ?_)
  | (with_reducible refine' w_sdput ?_)
  | (with_reducible refine' w_tdsetd ?_)
  | (with_reducible refine' w_dnew ?_))
local macro_rules | `(tactic| walk_at "go1") => `(tactic| first
  | (with_reducible refine' w_iZL ?_)
  | (with_reducible refine' w_sfld ?_)
  | (with_reducible refine' w_tfld ?_)
  | (with_reducible refine' w_make ?_)
  | (with_reducible refine' w_tmeth ?_))
section
variable {P : Program} {w : World} {K : PySem.W.Frag} {mg : Str → Option Value} {base : Heap} {tk : Nat → Tok} {cl : Nat → Addr}
theorem w_trevL {te : TE} {σ : L2.St} {H : Hp} {Q : VK} (h : te σ H fun x H1 => ∃ p xs, x = .ref p ∧ SqL K H1 p xs ∧ ∀ q, H1 q = none → Q (.ref q) (upd H1 q (.lst xs.reverse))) : tRevL K te σ H Q := h
def spGGen (K : PySem.W.Frag) (C : Addr) : Sp := fun vs H Q _ => ∃ (x dx c s a d : Addr) (es : List V) (kvs pkvs : List (L2.Key × V)) (i0 : Nat) (t sk : Kt) (g0 : Nat → Option Kt), vs = [.ref x, .int (i0 : Int), .ref a, .ref d] ∧ Gph H C x dx c s es ∧ GVar es kvs ∧ Den K H es kvs i0 t ∧ SqT K H a sk.enc ∧ H d = some (.dK pkvs) ∧ PT K H kvs pkvs g0 ∧ sk.enc.length ≤ 1000 ∧ pkvs.length ≤ 1000000 ∧ t.enc.length ≤ 1000 ∧
  (∀ H' pkvs' g', mts g0 [t] [sk] = some g' → OffD d H H' → H' d = some (.dK pkvs') → PT K H' kvs pkvs' g' → pkvs'.length ≤ pkvs.length + 1000 → Q (.bl true) H') ∧
  (∀ H' pkvs' g', mts g0 [t] [sk] = none → OffD d H H' → H' d = some (.dK pkvs') → PT K H' kvs pkvs' g' → pkvs'.length ≤ pkvs.length + 1000 → Q (.bl false) H')
theorem ok_ggen {f : Addr} {fd : FuncData} (F : Fun K "is_general" "KindGraph.is_general" s_KindGraph_is_general f fd) (T : Txt w K mg tk cl) (M_KindGraph_chief : C8.Met P w K mg base 1 (cl 23) "chief" (spGChief (cl 23)) []) (M_KindGraph_sides_of : C8.Met P w K mg base 2 (cl 23) "sides_of" (spGSides K (cl 23)) [])
    (D3 : Def P w K mg base CX0 2 "end_of" ["term", "start"] (spKEnd K)) : FnOk P w K mg base CX0 3 f fd ["self", "node", "kind", "parts"] (spGGen K (cl 23)) := by
  obtain ⟨f3, fd3, g_end_of, kp_end_of, b_end_of, G_end_of⟩ := D3
  refine F.ok sc_KindGraph_is_general (fun vs H Q E h => ?_) (fun cdv A outer s H vs Q E hr h => ?_)
  · obtain ⟨_, _, _, _, _, _, _, _, _, _, _, _, _, rfl, _⟩ := h
    rfl
  · obtain ⟨x, dx, c, s, a, d, es, kvs, pkvs, i0, t, sk, g0, rfl, g, hv, hD, hS, hd, hP, hsl, hpl, htl, qt, qf⟩ := h
    have hxd : x ≠ d := fun z => by have := g.ins; rw [z, hd] at this; cases this
    have hdc : d ≠ c := fun z => by rw [z, g.ch] at hd; cases hd
    have hds : d ≠ s := fun z => by rw [z, g.sd] at hd; cases hd
    refine ⟨_, (pss_cons (ps_set (i := 4) sc_KindGraph_is_general.nd rfl (.inl rfl) pe_int) (pss_cons (ps_set (i := 5) sc_KindGraph_is_general.nd rfl (.inl rfl) (pe_lst (pa_cons (pv 1) pa_nil))) (pss_cons (ps_while PassesOwn.never (pt_cmpR op_gt (pe_callB call_len_seq (by rfl) T.n_len (by decide +kernel) (pa_cons (pv 5) pa_nil)) pe_int (nomark _)) (pss_cons (ps_set (i := 6) sc_KindGraph_is_general.nd rfl (.inl rfl) (C8.pe_mt M_KindGraph_chief hr (by first | decide | omega) (pv 0) (pa_cons (pe_bm0 PySem.F.plainAttrs_list PySem.F.slot_list_pop PySem.F.type_list_pop mt_pop (pv 5)) pa_nil))) (pss_one (ps_if (pt_cmpR op_isN (pe_ix ix_list (pe_fld (pv 0) rfl) (pv 6) (fun _ _ => rfl)) pe_non (nomark _)) (pss_cons (ps_set (i := 7) sc_KindGraph_is_general.nd rfl (.inl rfl) (pe_call G_end_of (hr.mono (by first | decide | omega)) (by rfl) g_end_of kp_end_of b_end_of .nil pass0 (pa_cons (pv 2) (pa_cons (pv 4) pa_nil)))) (pss_cons (ps_if (pt_cmpR (op_neD hr.units) (pe_dsetd (pv 3) (pv 6) (pe_slice sl_tupA (pv 2) (po_some (pv 4)) (po_some (pv 7))) ⟨by rfl, by rfl, by rfl, by rfl⟩) (pe_slice sl_tupA (pv 2) (po_some (pv 4)) (po_some (pv 7))) (nomark _)) (pss_one (ps_ret pe_bl)) pss_nil) (pss_one (ps_set (i := 4) sc_KindGraph_is_general.nd rfl (.inl rfl) (pv 7))))) (pss_one (ps_if (pt_cmpR op_ne (pe_ix ix_tup (pv 2) (pv 4) (fun _ _ => rfl)) pe_str (nomark _)) (pss_one (ps_ret pe_bl)) (pss_cons (ps_expr (pe_bm PySem.F.plainAttrs_list PySem.F.slot_list_extend PySem.F.type_list_extend mt_extend (pv 5) (pa_cons (pe_revL (C8.pe_mt M_KindGraph_sides_of hr (by first | decide | omega) (pv 0) (pa_cons (pv 6) pa_nil))) pa_nil))) (pss_one (ps_aug (i := 4) sc_KindGraph_is_general.nd rfl (.inl rfl) pe_int ip_add))))))))) (pss_one (ps_ret pe_bl))))), ?_⟩
    refine sl_of (σ2 := [some _, some _, some _, some _, none, none, none, none]) rfl ?_
    walk_at "st"
    walk_at "go"
    intro pd hpd
    have hpx : x ≠ pd := ne_of_none g.ins hpd
    have hpc : c ≠ pd := ne_of_none g.ch hpd
    have hps : s ≠ pd := ne_of_none g.sd hpd
    have hpd2 : d ≠ pd := ne_of_none hd hpd
    have offP : ∀ {H' : Hp} {o : HO}, OffD d H H' → OffD d H (upd H' pd o) := fun {H' o} z b u h1 h => by rw [upd_ne (fun z => by rw [z, hpd] at h; cases h)]; exact z b u h1 h
    have gphP : ∀ {H' : Hp} {o : HO}, Gph H' (cl 23) x dx c s es → Gph (upd H' pd o) (cl 23) x dx c s es := fun {H' o} g => ⟨by rw [upd_ne hpx]; exact g.ins, by rw [upd_ne hpc]; exact g.ch, by rw [upd_ne hps]; exact g.sd⟩
    walk_at "go"
    refine w_while (fun m σ H' => ∃ (ids : List Nat) (ts us : List Kt) (at_ : Nat) (pkvs' : List (L2.Key × V)) (gg : Nat → Option Kt) (y6 y7 : Option V), σ = [some (.ref x), some (.int (i0 : Int)), some (.ref a), some (.ref d), some (.int (at_ : Int)), some (.ref pd), y6, y7] ∧ OffD d H H' ∧ Gph H' (cl 23) x dx c s es ∧ H' d = some (.dK pkvs') ∧ PT K H' kvs pkvs' gg ∧ H' pd = some (.lst (nums ids.reverse)) ∧ DenL K H' es kvs ids ts ∧ ts.length = us.length ∧ sk.enc.drop at_ = kencs us ∧ at_ ≤ sk.enc.length ∧ mts g0 [t] [sk] = mts gg ts us ∧ pkvs'.length ≤ pkvs.length + at_ ∧ m = sk.enc.length - at_) sk.enc.length
      ⟨[i0], [t], [sk], 0, pkvs, g0, none, none, rfl, OffD.ex (Ex.new hpd), g.ex (Ex.new hpd), (Ex.new hpd) _ _ hd, hP.mono fun _ _ z => ex_t (Ex.new hpd) z, upd_same, .cons (hD.mono (fun _ _ z => ex_t (Ex.new hpd) z) List.prefix_rfl fun _ _ h => h) .nil, rfl, by simp [kencs], by omega, rfl, by omega, by omega⟩ ?_
    rintro m σ H2 ⟨ids, ts, us, at_, pkvs', gg, y6, y7, rfl, o2, g2, hd2, hP2, hp2, hD2, hlen, hdr, hat, hm, hkl, rfl⟩
    have hil := hD2.len
    have hkp := kencs_pos us
    have hdl := congrArg List.length hdr
    rw [List.length_drop] at hdl
    have nl : (nums ids.reverse).length = ids.length := by simp [nums]
    have hS2 := offD_sqt o2 hd hS
    walk_at "go"
    rw [nl]
    refine w_br (fun c1 => ?_) (fun c1 => ?_)
    · obtain ⟨i1, ids, t1, ts, rfl, rfl, h1, hD3⟩ : ∃ i1 ids3 t1 ts3, ids = i1 :: ids3 ∧ ts = t1 :: ts3 ∧ Den K H2 es kvs i1 t1 ∧ DenL K H2 es kvs ids3 ts3 := by
        cases hD2 with
        | nil => simp at c1
        | cons h r => exact ⟨_, _, _, _, rfl, rfl, h, r⟩
      obtain ⟨u1, us, rfl⟩ : ∃ u1 us', us = u1 :: us' := by
        cases us with
        | nil => simp at hlen
        | cons u us => exact ⟨u, us, rfl⟩
      have up := u1.pos
      rw [kencs_cons, List.length_append] at hdl
      simp only [List.length_cons] at hlen hil
      refine ⟨fun σ' H' => ∃ (ids : List Nat) (ts us : List Kt) (at2 : Nat) (pkvs' : List (L2.Key × V)) (gg : Nat → Option Kt) (y6 y7 : Option V), σ' = [some (.ref x), some (.int (i0 : Int)), some (.ref a), some (.ref d), some (.int (at2 : Int)), some (.ref pd), y6, y7] ∧ OffD d H H' ∧ Gph H' (cl 23) x dx c s es ∧ H' d = some (.dK pkvs') ∧ PT K H' kvs pkvs' gg ∧ H' pd = some (.lst (nums ids.reverse)) ∧ DenL K H' es kvs ids ts ∧ ts.length = us.length ∧ sk.enc.drop at2 = kencs us ∧ at2 ≤ sk.enc.length ∧ mts g0 [t] [sk] = mts gg ts us ∧ pkvs'.length ≤ pkvs.length + at2 ∧ at_ < at2,
        fun σ' H' ⟨ids, ts, us, at2, pk, gg, y6, y7, z1, z2, z3, z4, z5, z6, z7, z8, z9, z10, z11, z12, z13⟩ => ⟨_, by omega, ids, ts, us, at2, pk, gg, y6, y7, z1, z2, z3, z4, z5, z6, z7, z8, z9, z10, z11, z12, rfl⟩, ?_⟩
      have er : nums (i1 :: ids).reverse = nums ids.reverse ++ [.int (i1 : Int)] := by simp [nums]
      rw [er] at hp2
      have hk2 := kencs_pos us
      have nl2 : (nums ids.reverse).length ≤ 1000 := by simp only [nums, List.length_map, List.length_reverse]; omega
      walk_at "go"
      refine ⟨x, dx, _, rfl, g2.ins, rfl, ?_⟩
      walk_at "go"
      have hp3 : upd H2 pd (.lst (nums ids.reverse)) pd = some (.lst (nums ids.reverse)) := upd_same
      have hd3 : upd H2 pd (.lst (nums ids.reverse)) d = some (.dK pkvs') := by rw [upd_ne hpd2]; exact hd2
      have m3 : ∀ b xs, SqT K H2 b xs → SqT K (upd H2 pd (.lst (nums ids.reverse))) b xs := fun b xs z => sqt_lst hp2 z
      have g3 := gphP (o := .lst (nums ids.reverse)) g2
      have o3 := offP (o := .lst (nums ids.reverse)) o2
      generalize upd H2 pd (.lst (nums ids.reverse)) = H3 at *
      have hP3 := hP2.mono m3
      have h13 := h1.mono m3 List.prefix_rfl fun _ _ h => h
      have hD4 := hD3.mono m3 List.prefix_rfl fun _ _ h => h
      have hS3 := m3 _ _ hS2
      refine ⟨x, dx, c, s, es, i1, rfl, g3, h1.lt, ?_⟩
      walk_at "go"
      refine ⟨x, cl 23, dx, _, _, rfl, g3.ins, T.cls_KindGraph, T.nf_KindGraph_sides, gFs_s c s, ?_⟩
      have hsd3 := g3.sd
      cases h13 with
      | @var _ n hes hvn =>
        have ixs : atI es (i1 : Int) = some .non := at_of (j := i1) (by omega) hes
        walk_at "go"
        refine ⟨a, sk.enc, at_, u1, kencs us, rfl, hS3, by rw [hdr, kencs_cons], by omega, ?_⟩
        walk_at "go"
        refine ⟨d, rfl, isD hd3, ?_⟩
        walk_at "go"
        intro p H4 e4 hp4
        rw [cut_kind (u := u1) (post := kencs us) (by rw [hdr, kencs_cons])] at hp4
        have hd4 := e4 _ _ hd3
        have g4 := g3.ex e4
        have hP4 := hP3.mono fun _ _ z => ex_t e4 z
        have hpd4 := e4 _ _ hp3
        have o4 := o3.trans (OffD.ex e4)
        have hD5 := hD4.mono (fun _ _ z => ex_t e4 z) List.prefix_rfl fun _ _ h => h
        have nxt : sk.enc.drop (at_ + u1.enc.length) = kencs us := by rw [← List.drop_drop, hdr, kencs_cons, List.drop_left]
        walk_at "go"
        refine ⟨pkvs', .inl (i1 : Int), hd4, rfl, ly_lt (by omega), fun v hv2 => ?_, fun hv2 => ?_⟩
        · rcases hP4 n i1 hvn with ⟨hg, hv0⟩ | ⟨u, ua, hg, hv0, hua⟩
          · rw [hv0] at hv2
            cases hv2
          · rw [hv0] at hv2
            cases hv2
            walk_at "go"
            intro p2 H5 e5 hp5
            rw [cut_kind (u := u1) (post := kencs us) (by rw [hdr, kencs_cons])] at hp5
            refine w_neNS (ex_t e5 hua) hp5 (NdK u) (NdK u1) ?_
            by_cases hus : u = u1
            · subst hus
              rw [decide_eq_true rfl, Bool.not_true]
              walk_at "go"
              exact ⟨ids, ts, us, at_ + u.enc.length, pkvs', setG gg n u, _, _, rfl, o4.trans (OffD.ex e5), g4.ex e5, e5 _ _ hd4, by rw [setG_same hg]; exact hP4.mono fun _ _ z => ex_t e5 z, e5 _ _ hpd4, hD5.mono (fun _ _ z => ex_t e5 z) List.prefix_rfl fun _ _ h => h, by omega, nxt, by omega, hm.trans (mts_old hg), by omega, by omega⟩
            · rw [decide_eq_false (fun z => hus (Kt.enc_inj z)), Bool.not_false]
              walk_at "go"
              exact qf H5 pkvs' gg (hm.trans (mts_bad hg hus)) (o4.trans (OffD.ex e5)) (e5 _ _ hd4) (hP4.mono fun _ _ z => ex_t e5 z) (by omega)
        · have hg : gg n = none := by
            rcases hP4 n i1 hvn with ⟨hg, hv0⟩ | ⟨u, ua, hg, hv0, hua⟩
            · exact hg
            · rw [hv0] at hv2
              cases hv2
          have lp := length_putK pkvs' (.inl (i1 : Int)) (.ref p)
          have hP5 := (hP4.put hv hvn hp4).mono fun _ _ z => sqt_dic (zs := putK pkvs' (.inl (i1 : Int)) (.ref p)) hd4 z
          have hp5 := sqt_dic (K := K) (zs := putK pkvs' (.inl (i1 : Int)) (.ref p)) hd4 hp4
          have hd5 : upd H4 d (.dK (putK pkvs' (.inl (i1 : Int)) (.ref p))) d = some (.dK (putK pkvs' (.inl (i1 : Int)) (.ref p))) := upd_same
          have g5 : Gph (upd H4 d (.dK (putK pkvs' (.inl (i1 : Int)) (.ref p)))) (cl 23) x dx c s es := ⟨by rw [upd_ne hxd]; exact g4.ins, by rw [upd_ne hdc.symm]; exact g4.ch, by rw [upd_ne hds.symm]; exact g4.sd⟩
          have hpd5 : upd H4 d (.dK (putK pkvs' (.inl (i1 : Int)) (.ref p))) pd = some (.lst (nums ids.reverse)) := by rw [upd_ne hpd2.symm]; exact hpd4
          have o5 : OffD d H4 (upd H4 d (.dK (putK pkvs' (.inl (i1 : Int)) (.ref p)))) := fun b o h1 h => by rw [upd_ne h1]; exact h
          have hD6 := hD5.mono (fun _ _ z => sqt_dic (zs := putK pkvs' (.inl (i1 : Int)) (.ref p)) hd4 z) List.prefix_rfl fun _ _ h => h
          have hS5 := sqt_dic (K := K) (zs := putK pkvs' (.inl (i1 : Int)) (.ref p)) hd4 (ex_t e4 hS3)
          generalize upd H4 d (.dK (putK pkvs' (.inl (i1 : Int)) (.ref p))) = H5 at *
          walk_at "go"
          intro p2 H6 e6 hp6
          rw [cut_kind (u := u1) (post := kencs us) (by rw [hdr, kencs_cons])] at hp6
          refine w_neNS (ex_t e6 hp5) hp6 (NdK u1) (NdK u1) ?_
          rw [decide_eq_true rfl, Bool.not_true]
          walk_at "go"
          exact ⟨ids, ts, us, at_ + u1.enc.length, _, setG gg n u1, _, _, rfl, (o4.trans o5).trans (OffD.ex e6), g5.ex e6, e6 _ _ hd5, hP5.mono fun _ _ z => ex_t e6 z, e6 _ _ hpd5, hD6.mono (fun _ _ z => ex_t e6 z) List.prefix_rfl fun _ _ h => h, by omega, nxt, by omega, hm.trans (mts_new hg), by omega, by omega⟩
      | @to _ ia ib r A B hes hr2 la lb hA hB =>
        have ixs : atI es (i1 : Int) = some (.ref r) := at_of (j := i1) (by omega) hes
        cases u1 with
        | var m2 =>
          have hix : atI sk.enc (at_ : Int) = some (.int (m2 : Int)) := at_of (j := at_) (by omega) (by rw [← List.head?_drop, hdr, kencs_cons]; rfl)
          walk_at "go"
          refine w_ixT hS3 hix ?_
          walk_at "go"
          exact qf H3 pkvs' gg (hm.trans mts_var) o3 hd3 hP3 (by omega)
        | to A2 B2 =>
          have hix : atI sk.enc (at_ : Int) = some (.str "to") := at_of (j := at_) (by omega) (by rw [← List.head?_drop, hdr, kencs_cons]; rfl)
          walk_at "go"
          refine w_ixT hS3 hix ?_
          walk_at "go"
          refine w_trevL ?_
          walk_at "go"
          refine ⟨x, dx, _, rfl, g3.ins, rfl, ?_⟩
          walk_at "go"
          refine ⟨x, dx, c, s, es, i1, .ref r, rfl, g3, hes, .inr ⟨r, ia, ib, rfl, hr2, la, lb, fun H4 l e4 hl0 hl4 => ?_⟩⟩
          walk_at "go"
          refine ⟨l, _, rfl, SqL.of hl4, ?_⟩
          intro q2 hq2
          rw [show [V.int (ia : Int), V.int (ib : Int)].reverse = [V.int (ib : Int), V.int (ia : Int)] from rfl]
          have e5 := ex_new e4 hq2 (o := .lst [V.int (ib : Int), V.int (ia : Int)])
          have hq5 : upd H4 q2 (.lst [V.int (ib : Int), V.int (ia : Int)]) q2 = some (.lst [V.int (ib : Int), V.int (ia : Int)]) := upd_same
          generalize upd H4 q2 (.lst [V.int (ib : Int), V.int (ia : Int)]) = H5 at *
          have hp5 := e5 _ _ hp3
          have hd5 := e5 _ _ hd3
          have o5 := o3.trans (OffD.ex e5)
          have g5 := g3.ex e5
          walk_at "go"
          · exact ly_sz (by simp only [List.length_cons, List.length_nil]; omega)
          have er3 : nums ids.reverse ++ [V.int (ib : Int), V.int (ia : Int)] = nums (ia :: ib :: ids).reverse := by simp [nums]
          rw [er3]
          have mm : ∀ b xs, SqT K H3 b xs → SqT K (upd H5 pd (.lst (nums (ia :: ib :: ids).reverse))) b xs := fun b xs z => sqt_lst hp5 (ex_t e5 z)
          walk_at "go"
          exact ⟨ia :: ib :: ids, A :: B :: ts, A2 :: B2 :: us, at_ + 1, pkvs', gg, _, _, rfl, offP o5, gphP g5, by rw [upd_ne hpd2]; exact hd5, hP3.mono mm, upd_same, .cons (hA.mono mm List.prefix_rfl fun _ _ h => h) (.cons (hB.mono mm List.prefix_rfl fun _ _ h => h) (hD4.mono mm List.prefix_rfl fun _ _ h => h)), by simp only [List.length_cons]; omega, by rw [← List.drop_drop, hdr, kencs_cons, kencs_cons, kencs_cons]; simp [Kt.enc], by omega, hm.trans mts_to, by omega, by omega⟩
    · have ets : ts = [] := List.length_eq_zero_iff.mp (by omega)
      subst ets
      have eus : us = [] := List.length_eq_zero_iff.mp (by rw [← hlen]; rfl)
      subst eus
      walk_at "go"
      exact qt H2 pkvs' gg hm o2 hd2 hP2 (by omega)
end
end Ly
set_option Elab.async false
set_option linter.all false
set_option maxRecDepth 100000
set_option maxHeartbeats 8000000
namespace Ly
open PySem PySem.Spec PyProof.Rows L2 Evl
local macro_rules | `(tactic| walk_at "ne") => `(tactic| first
  | assumption
  | ((refine' Ne.symm ?hq); (case hq => assumption))
  | ((refine' ne_of_none ?nh1 ?nh2); (case nh2 => assumption); (case nh1 => walk_at "hp"))
  | ((refine' Ne.symm (ne_of_none ?nh1 ?nh2)); (case nh2 => assumption); (case nh1 => walk_at "hp")))
local macro_rules | `(tactic| walk_at "hp") => `(tactic| first
  | assumption
  | exact upd_same
  | ((refine' SqL.of ?hq); (case hq => walk_at "hp"))
  | ((refine' SqT.of ?hq); (case hq => walk_at "hp"))
  | ((refine' (upd_ne ?hne).trans ?hrest); (case hne => walk_at "ne"); (case hrest => walk_at "hp"))
  | ((refine' ly_at ?hex ?hh); (case hex => assumption); (case hh => walk_at "hp"))
  | ((refine' ly_atF ?hex ?hnn ?hh); (case hex => assumption); (case hh => walk_at "hp"); (case hnn => walk_at "ne"))
  | ((refine' ex_t ?hex ?hh); (case hh => assumption); (case hex => walk_at "ex"))
  | ((refine' ex_l ?hex ?hh); (case hh => assumption); (case hex => walk_at "ex")))
local macro_rules | `(tactic| walk_at "ex") => `(tactic| first
  | assumption
  | exact Ex.refl _
  | ((refine' ex_new ?xa ?xb); (case xb => assumption); (case xa => walk_at "ex"))
  | ((refine' ex_upd ?xa ?xb); (case xb => walk_at "free"); (case xa => walk_at "ex"))
  | ((refine' Ex.trans ?xa ?xb); (case xb => assumption); (case xa => walk_at "ex")))
local macro_rules | `(tactic| walk_at "free") => `(tactic| first
  | assumption
  | ((refine' fresh_back ?xa ?xb); (case xb => assumption); (case xa => walk_at "ex")))
local macro_rules | `(tactic| walk_at "fr") => `(tactic| first
  | assumption
  | exact Fr.refl _ _
  | ((refine' Fr.own ?hq); (case hq => walk_at "fr"))
  | ((refine' Fr.new ?xa ?xb); (case xb => assumption); (case xa => walk_at "fr"))
  | ((refine' Fr.mut ?xa ?xb); (case xb => assumption); (case xa => walk_at "fr"))
  | ((refine' Fr.trans ?xa ?xb); (case xb => assumption); (case xa => walk_at "fr"))
  | ((refine' Fr.trans ?xa (Fr.ex ?xb)); (case xb => assumption); (case xa => walk_at "fr")))
local macro_rules | `(tactic| walk_at "go1") => `(tactic| first
  | (with_reducible refine' w_seq ?_)
  | (with_reducible refine' w_asg ?_)
  | (with_reducible refine' w_ret ?_)
  | (with_reducible refine' w_drop ?_)
  | (with_reducible refine' w_if ?_)
  | (with_reducible refine' w_next ?_)
  | (with_reducible refine' w_name ?_)
  | (with_reducible refine' w_sub ?_)
  | ((with_reducible refine' w_var ?hv ?_); (case hv => exact rfl))
  | (with_reducible refine' w_c ?_)
  | (with_reducible refine' w_op ?_)
  | (with_reducible refine' w_un ?_)
  | (with_reducible refine' w_ch ?_)
  | (with_reducible refine' w_I0 ?_)
  | ((with_reducible refine' w_I ?hc ?_); (case hc => first | (exact ly_mulL (by decide) (by decide)) | (exact ly_mulR (by decide) (by decide)) | (exact ly_mulL (by omega) (by omega)) | (show (_ : Int) ≠ 0; decide) | (show (_ : Int) ≠ 0; omega) | (exact ⟨by decide, by decide⟩) | (exact ⟨by omega, by omega⟩)))
  | (with_reducible refine' w_U ?_)
  | ((with_reducible refine' w_eq ?hs ?_); (case hs => exact rfl))
  | ((with_reducible refine' w_ne ?hs ?_); (case hs => exact rfl))
  | (with_reducible refine' w_isB ?_)
  | (with_reducible refine' w_notB ?_)
  | (with_reducible refine' w_nil ?_)
  | (with_reducible refine' w_cons ?_)
  | (with_reducible refine' w_tup ?_)
  | (with_reducible refine' w_lst ?_)
  | (with_reducible refine' w_cb ?_)
  | (with_reducible refine' w_call ?_)
  | (with_reducible refine' w_bm ?_)
  | (with_reducible refine' w_bm0 ?_)
  | ((with_reducible refine' w_app ?hh ?hz ?_); (case hh => walk_at "hp"); (case hz => first | exact ly_lt (by omega) | exact ly_lt (by simp only [List.length_append, List.length_map, List.length_cons, List.length_nil]; omega)))
  | ((with_reducible refine' w_popA ?hh ?_); (case hh => walk_at "hp"))
  | ((with_reducible refine' w_ext ?hh ?hh2 ?hz ?_); (case hh => walk_at "hp"); (case hh2 => walk_at "hp"))
  | ((with_reducible refine' w_ixL ?hh ?ha ?_); (case hh => walk_at "hp"); (case ha => first | exact rfl | exact at_map (by omega) | exact atI_last _ _ | ((refine' at_of ?ae ?ah); (case ah => assumption); (case ae => omega))))
  | ((with_reducible refine' w_ixT ?hh ?ha ?_); (case hh => walk_at "hp"); (case ha => first | exact rfl | exact at_map (by omega) | exact atI_last _ _ | ((refine' at_of ?ae ?ah); (case ah => assumption); (case ae => omega))))
  | ((with_reducible refine' w_cat ?hh ?hh2 ?hz ?_); (case hh => walk_at "hp"); (case hh2 => walk_at "hp"))
  | ((with_reducible refine' w_setL ?hh ?ha ?_); (case hh => walk_at "hp"); (case ha => exact rfl))
  | (with_reducible refine' w_test ?_)
  | (with_reducible refine' w_tB ?_)
  | (with_reducible refine' w_bl ?_)
  | (with_reducible refine' w_and ?_)
  | (with_reducible refine' w_or ?_)
  | (with_reducible refine' w_not ?_)
  | (with_reducible refine' w_andV ?_)
  | (with_reducible refine' w_orV ?_)
  | (with_reducible refine' w_notV ?_)
  | (with_reducible refine' w_ifE ?_)
  | (with_reducible refine' w_for ?_)
  | ((with_reducible refine' w_nin ?hh ?_); (case hh => walk_at "hp"))
  | ((with_reducible refine' w_sorted ?hh ?_); (case hh => walk_at "hp"))
  | (with_reducible refine' w_tsadd ?_)
  | ((with_reducible refine' w_tsadd1 ?hh ?_); (case hh => walk_at "hp"))
  | ((with_reducible refine' w_sadd ?hh ?hr ?_); (case hh => walk_at "hp"); (case hr => omega))
  | (with_reducible refine' w_iZ ?_)
  | ((with_reducible refine' w_iZ1 ?hh ?hh2 ?_); (case hh => walk_at "hp"); (case hh2 => walk_at "hp"))
  | (with_reducible refine' w_iS ?_)
  | (with_reducible refine' w_iS1 ?_)
  | ((with_reducible refine' w_gtup ?hh ?hn ?_); (case hh => walk_at "hp"); (case hn => exact rfl))
  | (with_reducible refine' w_gcons ?_)
  | (with_reducible refine' w_gnil ?_)
  | (with_reducible refine' w_js ?_)
  | (with_reducible refine' w_jsn ?_)
  | ((with_reducible refine' w_js1 ?hl ?_); (case hl => decide +kernel))
  | (with_reducible refine' w_fmt ?_)
  | ((with_reducible refine' w_fmt1 ?hl ?_); (case hl => decide +kernel))
  | (with_reducible refine' w_callS ?_)
  | ((with_reducible refine' w_truL ?hh ?_); (case hh => walk_at "hp"))
  | (with_reducible refine' w_lc ?_)
  | (with_reducible refine' w_yes ?_)
  | ((with_reducible refine' w_wipe ?he ?_); (case he => exact rfl))
  | (with_reducible refine' w_iL ?_)
  | (with_reducible refine' w_iT ?_)
  | (with_reducible refine' w_iR ?_)
  | ((with_reducible refine' w_iL1 ?hh ?_); (case hh => walk_at "hp"))
  | ((with_reducible refine' w_iT1 ?hh ?_); (case hh => walk_at "hp"))
  | ((with_reducible refine' w_iR1 ?h1 ?h2 ?_); (case h1 => omega); (case h2 => omega))
  | ((with_reducible refine' w_aug ?hv ?_); (case hv => exact rfl))
  | (with_reducible refine' w_ipI ?_)
  | ((with_reducible refine' w_isi ?hy ?hk ?_); (case hy => walk_at "ty"); (case hk => walk_at "kit"))
  | ((with_reducible refine' w_int ?_))
  | ((with_reducible refine' w_intB ?_))
  | ((with_reducible refine' w_abs ?_))
  | ((with_reducible refine' w_lenL ?hh ?_); (case hh => walk_at "hp"))
  | ((with_reducible refine' w_lenT ?hh ?_); (case hh => walk_at "hp"))
  | ((with_reducible refine' w_tupL ?hh ?_); (case hh => walk_at "hp"))
  | ((with_reducible refine' w_tupT ?hh ?_); (case hh => walk_at "hp"))
  | ((with_reducible refine' w_catA ?hh ?hh2 ?hz ?_); (case hh => walk_at "hp"); (case hh2 => walk_at "hp"); (case hz => walk_at "len"))
  | ((with_reducible refine' w_repB ?hh ?hne ?h2 ?h3 ?hz ?_); (case hh => walk_at "hp"); (case hne => simp); (case h2 => omega); (case h3 => omega); (case hz => exact Nat.le_of_ble_eq_true rfl))
  | ((with_reducible refine' w_eqN ?hh ?hh2 ?n1 ?n2 ?_); (case hh => walk_at "hp"); (case hh2 => walk_at "hp"); (case n1 => walk_at "nd"); (case n2 => walk_at "nd"))
  | ((with_reducible refine' w_neN ?hh ?hh2 ?n1 ?n2 ?_); (case hh => walk_at "hp"); (case hh2 => walk_at "hp"); (case n1 => walk_at "nd"); (case n2 => walk_at "nd"))
  | ((with_reducible refine' w_eqL ?hh ?hh2 ?n1 ?n2 ?_); (case hh => walk_at "hp"); (case hh2 => walk_at "hp"); (case n1 => walk_at "nd"); (case n2 => walk_at "nd"))
  | ((with_reducible refine' w_neL ?hh ?hh2 ?n1 ?n2 ?_); (case hh => walk_at "hp"); (case hh2 => walk_at "hp"); (case n1 => walk_at "nd"); (case n2 => walk_at "nd"))
  | ((with_reducible refine' w_neNon ?hh2 ?n2 ?_); (case hh2 => walk_at "hp"); (case n2 => walk_at "nd"))
  | ((with_reducible refine' w_eqNon ?hh2 ?n2 ?_); (case hh2 => walk_at "hp"); (case n2 => walk_at "nd"))
  | ((with_reducible refine' w_slA ?hh ?_); (case hh => walk_at "hp"))
  | ((with_reducible refine' w_disp ?hz ?_); (case hz => exact sz_of (Nat.le_of_ble_eq_true rfl)))
  | ((with_reducible refine' w_tyL ?hh ?_); (case hh => walk_at "hp"))
  | (with_reducible refine' iteT ?_)
  | (with_reducible refine' iteF ?_)
  | (with_reducible refine' w_nT ?_)
  | (with_reducible refine' w_nn ?_)
  | (with_reducible refine' w_nnT ?_)
  | (with_reducible refine' w_nnR ?_)
  | (with_reducible refine' w_neG ?_)
  | (with_reducible refine' w_eqG ?_)
  | (with_reducible refine' w_neS ?_)
  | (with_reducible refine' w_eqS ?_)
  | (with_reducible refine' w_neSb ?_)
  | (with_reducible refine' w_eqSb ?_)
  | (with_reducible refine' w_deIS ?_)
  | (with_reducible refine' w_deSI ?_)
  | (with_reducible refine' w_deISn ?_)
  | ((with_reducible refine' w_deST ?he ?_); (case he => decide +kernel))
  | ((with_reducible refine' w_deSF ?he ?_); (case he => decide +kernel))
  | ((with_reducible refine' w_deSTn ?he ?_); (case he => decide +kernel))
  | ((with_reducible refine' w_deSFn ?he ?_); (case he => decide +kernel))
  | (with_reducible refine' w_nF ?_)
  | dsimp only [Bool.not_true, Bool.not_false])
local macro_rules | `(tactic| walk_at "ty") => `(tactic| first
  | exact .base (.int _) | exact .base (.str _) | exact .base (.bl _) | exact .base .non
  | ((refine' tyx_t ?hq); (case hq => walk_at "hp")) | ((refine' tyx_l ?hq); (case hq => walk_at "hp")) | ((refine' .base (.tup ?hq)); (case hq => walk_at "hp")) | assumption)
local macro_rules | `(tactic| walk_at "go") => `(tactic| repeat walk_at "go1")
local macro_rules | `(tactic| walk_at "st") => `(tactic| try dsimp only [cxOf, Cx.nox, Cx.wish])
local macro_rules | `(tactic| walk_at "kit") => `(tactic| with_reducible first | exact kit_int_int | exact kit_int_str | exact kit_int_bool | exact kit_int_tuple | exact kit_int_list | exact kit_str_int | exact kit_str_str | exact kit_str_bool | exact kit_str_tuple | exact kit_str_list | exact kit_bool_int | exact kit_bool_str | exact kit_bool_bool | exact kit_bool_tuple | exact kit_bool_list | exact kit_NoneType_int | exact kit_NoneType_str | exact kit_NoneType_bool | exact kit_NoneType_tuple | exact kit_NoneType_list | exact kit_list_int | exact kit_list_str | exact kit_list_bool | exact kit_list_tuple | exact kit_list_list | exact kit_tuple_int | exact kit_tuple_str | exact kit_tuple_bool | exact kit_tuple_tuple | exact kit_tuple_list)
local macro_rules | `(tactic| walk_at "nd") => `(tactic| first
  | assumption
  | exact Tm.nds _
  | exact Nds.nil
  | exact Nds.ofInts _
  | ((refine' Nds.cons ?na ?nb); (case na => first | exact Nds.I _ | exact Nds.L | exact Nds.A); (case nb => walk_at "nd"))
  | ((refine' Nds.app ?na ?nb); (case na => walk_at "nd"); (case nb => walk_at "nd"))
  | ((refine' Nds.rep ?na _); (case na => walk_at "nd")))
local macro_rules | `(tactic| walk_at "len") => `(tactic| first
  | exact ly_sz (by omega)
  | ((simp only [List.length_append, List.length_cons, List.length_nil, List.length_map, PyProof.Rows.lm_len_rep_flat]); exact ly_sz (by omega)))
local macro_rules | `(tactic| walk_at "go1") => `(tactic| first
  | (with_reducible refine' w_kget2 ?_)
  | (with_reducible refine' w_isRN ?_)
  | (with_reducible refine' w_isNN ?_)
  | (with_reducible refine' w_isIN ?_)
  | ((with_reducible refine' w_kg ?hd ?_); (case hd => assumption)))
local macro_rules | `(tactic| walk_at "go1") => `(tactic| first
  | ((with_reducible refine' w_extT ?hh ?hh2 ?hz ?_); (case hh => walk_at "hp"); (case hh2 => walk_at "hp"))
  | ((with_reducible refine' w_I ?hc ?_); (case hc => exact ⟨by decide, by decide, by decide⟩))
  | (with_reducible refine' w_sl ?_)
  | (with_reducible refine' w_noP ?_)
  | (with_reducible refine' w_part ?_)
  | (with_reducible refine' w_part1 ?_)
  | (with_reducible refine' w_it ?_)
  | (with_reducible refine' w_it1 ?_)
  | ((with_reducible refine' w_lenZ ?hz ?_); (case hz => omega))
  | ((with_reducible refine' w_addZb ?hz ?_); (case hz => omega))
  | ((with_reducible refine' w_addZf ?hz ?_); (case hz => omega))
  | ((with_reducible refine' w_addZa ?hz ?_); (case hz => omega))
  | ((with_reducible refine' w_inS ?hh ?_); (case hh => walk_at "hp"))
  | ((with_reducible refine' w_ixT ?hh ?ha ?_); (case hh => assumption); (case ha => exact atI_nat (by assumption))))
local macro_rules | `(tactic| walk_at "go1") => `(tactic| first
  | (with_reducible refine' w_iR2 ?_)
  | ((with_reducible refine' w_iR21 ?h1 ?h2 ?h3 ?h4 ?_); (case h1 => omega); (case h2 => omega); (case h3 => omega); (case h4 => omega))
  | (with_reducible refine' w_nnI ?_)
  | (with_reducible refine' w_max ?_)
  | (with_reducible refine' w_break ?_)
  | (with_reducible refine' w_cont ?_))
local macro_rules | `(tactic| walk_at "go1") => `(tactic| first
  | (with_reducible refine' w_tdget ?_)
  | (with_reducible refine' w_tdin ?_)
  | (with_reducible refine' w_tdnotin ?_)
  | (with_reducible refine' w_sdput ?_)
  | (with_reducible refine' w_tdsetd ?_)
  | (with_reducible refine' w_dnew ?_))
local macro_rules | `(tactic| walk_at "go1") => `(tactic| first
  | (with_reducible refine' w_iZL ?_)
  | (with_reducible refine' w_sfld ?_)
  | (with_reducible refine' w_tfld ?_)
  | (with_reducible refine' w_make ?_)
  | (with_reducible refine' w_tmeth ?_))
section
variable {P : Program} {w : World} {K : PySem.W.Frag} {mg : Str → Option Value} {base : Heap} {tk : Nat → Tok} {cl : Nat → Addr}
theorem DenL.at_ {K : PySem.W.Frag} {H : Hp} {es : List V} {kvs : List (L2.Key × V)} {is : List Nat} {ts : List Kt} (h : DenL K H es kvs is ts) : ∀ {j : Nat} {v : V}, (nums is)[j]? = some v → ∃ i t, v = .int ((i : Nat) : Int) ∧ ts[j]? = some t ∧ Den K H es kvs i t := by
  induction h with
  | nil => intro j v e; simp [nums] at e
  | @cons i is t ts h _ ih =>
    intro j v e
    match j, e with
    | 0, e =>
      simp only [nums, List.map_cons, List.getElem?_cons_zero, Option.some.injEq] at e
      exact ⟨i, t, e.symm, rfl, h⟩
    | j + 1, e => exact ih (j := j) (by simpa [nums] using e)
def spAre (K : PySem.W.Frag) (C : Addr) : Sp := fun vs H Q _ => ∃ (x dx c s l r : Addr) (es : List V) (kvs : List (L2.Key × V)) (ids : List Nat) (bs : List Addr) (ts ss : List Kt), vs = [.ref x, .ref l, .ref r] ∧ Gph H C x dx c s es ∧ GVar es kvs ∧ H l = some (.lst (nums ids)) ∧ DenL K H es kvs ids ts ∧ H r = some (.lst (refs bs)) ∧ Rws K H bs (ss.map Kt.enc) ∧ ts.length = ss.length ∧ ts.length ≤ 500 ∧ (∀ t ∈ ts, t.enc.length ≤ 1000) ∧ (∀ t ∈ ss, t.enc.length ≤ 1000) ∧
  ∀ H', Ex H H' → Q (.bl (mts (fun _ => none) ts ss).isSome) H'
theorem ok_are {f : Addr} {fd : FuncData} (F : Fun K "are_general" "are_general" s_are_general f fd) (T : Txt w K mg tk cl) (M_KindGraph_is_general : C8.Met P w K mg base 3 (cl 23) "is_general" (spGGen K (cl 23)) []) : FnOk P w K mg base CX0 4 f fd ["graph", "nodes", "kinds"] (spAre K (cl 23)) := by
  refine F.ok sc_are_general (fun vs H Q E h => ?_) (fun cdv A outer s H vs Q E hr h => ?_)
  · obtain ⟨_, _, _, _, _, _, _, _, _, _, _, _, rfl, _⟩ := h
    rfl
  · obtain ⟨x, dx, c, s, l, r, es, kvs, ids, bs, ts, ss, rfl, g, hv, hl, hD, hr2, hS, hlen, h500, htn, hsn, q⟩ := h
    have hil := hD.len
    have hbl := hS.len
    rw [List.length_map] at hbl
    refine ⟨_, (pss_cons (ps_set (i := 3) sc_are_general.nd rfl (.inr rfl) pe_dnewK) (pss_one (ps_ret (pe_callB (cr_all rfl) (by rfl) T.n_all (by decide +kernel) (pa_cons (pe_lc (own := [("node", 4), ("kind", 5)]) (g := gTup K 2 (gCons (gName 4) (gCons (gName 5) gNil))) (tt := tYes) rfl sc_are_general.nd (pi_zipL (by rfl) T.n_zip (pa_cons (pv 1) (pa_cons (pv 2) pa_nil))) (blkOk_by (N := N_are_general) (sc := defScope s_are_general) (by decide +kernel)) (fun _ _ _ _ _ => pg_tupK (by rfl) (by rfl) (pgs_cons (pg_name (i := 4) sc_are_general.nd rfl (Or.inl rfl)) (pgs_cons (pg_name (i := 5) sc_are_general.nd rfl (Or.inl rfl)) pgs_nil))) (fun _ _ _ _ _ => pts_nil) (fun _ _ _ _ _ => (C8.pe_mt M_KindGraph_is_general hr (by first | decide | omega) (pv 0) (pa_cons (pv 4) (pa_cons (pv 5) (pa_cons (pv 3) pa_nil)))))) pa_nil))))), ?_⟩
    refine sl_of (σ2 := [some _, some _, some _, none, none, none]) rfl ?_
    walk_at "st"
    walk_at "go"
    intro d hd
    have e1 := Ex.new hd (o := .dK [])
    have hd1 : upd H d (.dK []) d = some (.dK []) := upd_same
    generalize upd H d (.dK []) = H1 at *
    have hl1 := e1 _ _ hl
    have hr1 := e1 _ _ hr2
    walk_at "go"
    refine w_iZL1 (SqL.of hl1) (SqL.of hr1) ?_
    intro dl hdl
    have hdd : d ≠ dl := ne_of_none hd1 hdl
    have hdl0 : H dl = none := fresh_back e1 hdl
    refine lc_zipC (xs := nums ids) (ys := refs bs) (n := ts.length) (by simp [nums, refs]; omega) (fun k H' => ∃ (pkvs : List (L2.Key × V)) (gg : Nat → Option Kt) (bl : List Bool), Ex H H' ∧ H' d = some (.dK pkvs) ∧ PT K H' kvs pkvs gg ∧ pkvs.length ≤ 1000 * k ∧ H' dl = some (.lst (bl.map V.bl)) ∧ bl.length = k ∧ (bl.all id = true → mts (fun _ => none) ts ss = mts gg (ts.drop k) (ss.drop k)) ∧ (bl.all id = false → mts (fun _ => none) ts ss = none))
      ⟨[], fun _ => none, [], ex_new e1 hdl, by rw [upd_ne hdd]; exact hd1, fun n i _ => .inl ⟨rfl, rfl⟩, Nat.zero_le _, upd_same, rfl, fun _ => rfl, fun z => by cases z⟩ (fun k H' ⟨_, _, _, e, _⟩ => ⟨SqL.of (e _ _ hl), SqL.of (e _ _ hr2)⟩) ?_ ?_
    · rintro k v1 v2 tp H2 hx hy htp ⟨pkvs, gg, bl, e2, hd2, hP2, hkl, hb2, hbl2, hmt, hmf⟩
      obtain ⟨i, t, rfl, ht, hDt⟩ := hD.at_ hx
      obtain ⟨b, ys, rfl, hys, hb⟩ := hS.at_ hy
      rw [List.getElem?_map] at hys
      obtain ⟨s2, hs2, rfl⟩ := Option.map_eq_some_iff.mp hys
      have hkt : k < ts.length := (List.getElem?_eq_some_iff.mp ht).1
      have hks : k < ss.length := (List.getElem?_eq_some_iff.mp hs2).1
      have dg : ts.drop k = t :: ts.drop (k + 1) := by rw [List.drop_eq_getElem_cons hkt]; congr 1; rw [List.getElem?_eq_getElem hkt] at ht; exact Option.some.inj ht
      have ds : ss.drop k = s2 :: ss.drop (k + 1) := by rw [List.drop_eq_getElem_cons hks]; congr 1; rw [List.getElem?_eq_getElem hks] at hs2; exact Option.some.inj hs2
      rw [dg, ds] at hmt
      have e3 := Ex.new htp (o := .tup [V.int (i : Int), V.ref b])
      have htp3 : SqT K (upd H2 tp (.tup [V.int (i : Int), V.ref b])) tp [V.int (i : Int), V.ref b] := SqT.of upd_same
      generalize upd H2 tp (.tup [V.int (i : Int), V.ref b]) = H3 at *
      have e23 := e2.trans e3
      walk_at "go"
      have g3 := g.ex e23
      refine ⟨x, dx, _, rfl, g3.ins, rfl, ?_⟩
      walk_at "go"
      have hdl3 := e3 _ _ hb2
      have ex4 : ∀ {H4 : Hp} {o : HO}, OffD d H3 H4 → Ex H (upd H4 dl o) := fun {H4 o} od a u h => by
        rw [upd_ne (fun z => by rw [z, hdl0] at h; cases h)]
        exact od a u (fun z => by rw [z, hd] at h; cases h) (e23 a u h)
      have nb : (bl.map V.bl).length ≤ 1000 := by rw [List.length_map]; omega
      refine ⟨x, dx, c, s, b, d, es, kvs, pkvs, i, t, s2, gg, rfl, g3, hv, hDt.mono (fun _ _ z => ex_t e23 z) List.prefix_rfl fun _ _ h => h, ex_t e23 hb, e3 _ _ hd2, hP2.mono (fun _ _ z => ex_t e3 z), hsn _ (List.mem_of_getElem? hs2), by omega, htn _ (List.mem_of_getElem? ht), fun H4 pk g' hm od hd4 hP4 hk4 => ?_, fun H4 pk g' hm od hd4 hP4 hk4 => ?_⟩
      · have h4 := od dl _ hdd.symm hdl3
        refine ⟨_, h4, ly_lt (by omega), pk, g', bl ++ [true], ex4 od, by rw [upd_ne hdd]; exact hd4, hP4.mono (fun _ _ z => sqt_lst h4 z), by omega, by rw [upd_same]; simp, by simp [hbl2], fun z => ?_, fun z => ?_⟩
        · have z2 : bl.all id = true := by simpa using z
          rw [hmt z2]
          exact mts_cons hm
        · have z2 : bl.all id = false := by simpa using z
          exact hmf z2
      · have h4 := od dl _ hdd.symm hdl3
        refine ⟨_, h4, ly_lt (by omega), pk, g', bl ++ [false], ex4 od, by rw [upd_ne hdd]; exact hd4, hP4.mono (fun _ _ z => sqt_lst h4 z), by omega, by rw [upd_same]; simp, by simp [hbl2], fun z => ?_, fun z => ?_⟩
        · exfalso
          simp at z
        · cases hb5 : bl.all id with
          | true =>
            rw [hmt hb5]
            exact mts_fail hm
          | false => exact hmf hb5
    · rintro H2 ⟨pkvs, gg, bl, e2, hd2, hP2, hkl, hb2, hbl2, hmt, hmf⟩
      walk_at "go"
      refine ⟨dl, bl, rfl, SqL.of hb2, ?_⟩
      have z := q H2 e2
      cases hb5 : bl.all id with
      | true =>
        rw [hmt hb5, List.drop_length, mts] at z
        exact z
      | false =>
        rw [hmf hb5] at z
        exact z
theorem DenL.snoc {K : PySem.W.Frag} {H : Hp} {es : List V} {kvs : List (L2.Key × V)} {is : List Nat} {ts : List Kt} {i : Nat} {t : Kt} (h : DenL K H es kvs is ts) (k : Den K H es kvs i t) : DenL K H es kvs (is ++ [i]) (ts ++ [t]) := by
  induction h with
  | nil => exact .cons k .nil
  | cons h _ ih => exact .cons h ih
theorem ok_inst {f : Addr} {fd : FuncData} (F : Fun K "is_instance" "is_instance" s_is_instance f fd) (T : Txt w K mg tk cl) (D1 : DefC P w K mg base CX0 1 (cl 23) ["self"] (spGInit (cl 23))) (M_KindGraph_loaded : C8.Met P w K mg base 2 (cl 23) "loaded" (spGLoad K (cl 23)) [])
    (D3 : Def P w K mg base CX0 4 "are_general" ["graph", "nodes", "kinds"] (spAre K (cl 23))) : FnOk P w K mg base CX0 5 f fd ["general", "special"] (spInst K) := by
  obtain ⟨fC, fdC, M_KindGraph, b_KindGraph_init, G_KindGraph_init⟩ := D1
  obtain ⟨f3, fd3, g_are_general, kp_are_general, b_are_general, G_are_general⟩ := D3
  refine F.ok sc_is_instance (fun vs H Q E h => ?_) (fun cdv A outer s H vs Q E hr h => ?_)
  · obtain ⟨_, _, _, _, _, _, rfl, _⟩ := h
    rfl
  · obtain ⟨l, r, as, bs, gs, ss, rfl, hl, hr2, hG, hS, hgl, hsl, hgn, hsn, q⟩ := h
    refine ⟨_, (pss_cons (ps_if (pt_cmpR op_ne (pe_callB call_len_seq (by rfl) T.n_len (by decide +kernel) (pa_cons (pv 0) pa_nil)) (pe_callB call_len_seq (by rfl) T.n_len (by decide +kernel) (pa_cons (pv 1) pa_nil)) (nomark _)) (pss_one (ps_ret pe_bl)) pss_nil) (pss_cons (ps_set (i := 2) sc_is_instance.nd rfl (.inr rfl) (pe_make0 M_KindGraph G_KindGraph_init (hr.mono (by first | decide | omega)) (by rfl) T.g_KindGraph b_KindGraph_init .nil pass0)) (pss_cons (ps_set (i := 3) sc_is_instance.nd rfl (.inr rfl) pe_dnewK) (pss_cons (ps_setLc (i := 4) (own := [("kind", 5)]) (g := gName 5) (tt := tYes) rfl sc_is_instance.nd rfl rfl (sw_true rfl rfl rfl (by decide +kernel)) (pi_list (pv 0)) (blkOk_by (N := N_is_instance) (sc := defScope s_is_instance) (by decide +kernel)) (fun _ _ _ _ _ => pg_name (i := 5) sc_is_instance.nd rfl (Or.inl rfl)) (fun _ _ _ _ _ => pts_nil) (fun _ _ _ _ _ => (C8.pe_mt M_KindGraph_loaded hr (by first | decide | omega) (pv 2) (pa_cons (pv 5) (pa_cons (pv 3) pa_nil))))) (pss_one (ps_ret (pe_call G_are_general (hr.mono (by first | decide | omega)) (by rfl) g_are_general kp_are_general b_are_general .nil pass0 (pa_cons (pv 2) (pa_cons (pv 4) (pa_cons (pv 1) pa_nil)))))))))), ?_⟩
    refine sl_of (σ2 := [some _, some _, none, none, none, none]) rfl ?_
    have la : (refs as).length = gs.length := by rw [List.length_map, hG.len, List.length_map]
    have lb : (refs bs).length = ss.length := by rw [List.length_map, hS.len, List.length_map]
    walk_at "st"
    walk_at "go"
    rw [la, lb]
    refine w_brIn (fun c1 => ?_) (fun c1 => ?_)
    · walk_at "go"
      have e : (decide (gs.length = ss.length) && (mts (fun _ => none) gs ss).isSome) = false := by rw [decide_eq_false (by omega), Bool.false_and]
      rw [← e]
      exact q _ (Ex.refl _)
    · have c2 : gs.length = ss.length := by omega
      rw [decide_eq_true c2, Bool.true_and] at q
      walk_at "go"
      intro x dx hx hdx hne
      refine ⟨x, dx, H, rfl, upd_same, ex_upd (ex_upd (Ex.refl H) hdx) hx, hx, fun H1 c s e1 hc hs hcs g1 => ⟨rfl, ?_⟩⟩
      walk_at "go"
      intro d hd
      have hd0 : H d = none := fresh_back e1 hd
      have hxd : x ≠ d := ne_of_none g1.ins hd
      have hcd : c ≠ d := ne_of_none g1.ch hd
      have hsd : s ≠ d := ne_of_none g1.sd hd
      have e2 := ex_new e1 hd (o := .dK [])
      have g2 : Gph (upd H1 d (.dK [])) (cl 23) x dx c s [] := ⟨by rw [upd_ne hxd]; exact g1.ins, by rw [upd_ne hcd]; exact g1.ch, by rw [upd_ne hsd]; exact g1.sd⟩
      have hd2 : upd H1 d (.dK []) d = some (.dK []) := upd_same
      generalize upd H1 d (.dK []) = H2 at *
      clear hd g1 e1
      have hl2 := e2 _ _ hl
      walk_at "go"
      intro dl hdl
      have hdl0 : H dl = none := fresh_back e2 hdl
      have nx : x ≠ dl := ne_of_none g2.ins hdl
      have nc : c ≠ dl := ne_of_none g2.ch hdl
      have ns : s ≠ dl := ne_of_none g2.sd hdl
      have nd : d ≠ dl := ne_of_none hd2 hdl
      refine lc_list (K := K) (a := l) (xs := refs as) (fun k H' => ∃ (es : List V) (kvs : List (L2.Key × V)) (ids : List Nat), Ex H H' ∧ Gph H' (cl 23) x dx c s es ∧ GVar es kvs ∧ H' d = some (.dK kvs) ∧ DenL K H' es kvs ids (gs.take k) ∧ H' dl = some (.lst (nums ids)) ∧ es.length ≤ 1000 * k ∧ kvs.length ≤ 1000 * k)
        ⟨[], [], [], ex_new e2 hdl, ⟨by rw [upd_ne nx]; exact g2.ins, by rw [upd_ne nc]; exact g2.ch, by rw [upd_ne ns]; exact g2.sd⟩, ⟨fun n v h => (by cases h), fun n m v h => (by cases h)⟩, by rw [upd_ne nd]; exact hd2, .nil, upd_same, Nat.zero_le _, Nat.zero_le _⟩ (fun k H' _ ⟨_, _, _, e, _⟩ => SqL.of (e _ _ hl)) ?_ ?_
      · rintro k v H3 hk ⟨es, kvs, ids, e3, g3, v3, hd3, hD3, hdl3, hel, hkl⟩
        obtain ⟨a, ys, rfl, hys, ha⟩ := hG.at_ hk
        rw [List.getElem?_map] at hys
        obtain ⟨t, ht, rfl⟩ := Option.map_eq_some_iff.mp hys
        have hkg : k < gs.length := (List.getElem?_eq_some_iff.mp ht).1
        have hil := hD3.len
        rw [List.length_take] at hil
        have nil2 : (nums ids).length ≤ 1000 := by simp only [nums, List.length_map]; omega
        have tk : gs.take (k + 1) = gs.take k ++ [t] := by rw [List.take_add_one, ht]; rfl
        have htl := hgn t (List.mem_of_getElem? ht)
        walk_at "go"
        refine ⟨x, dx, _, rfl, g3.ins, rfl, ?_⟩
        walk_at "go"
        refine ⟨x, dx, c, s, d, a, es, kvs, t, rfl, g3, hcs, hd3, v3, ex_t e3 ha, htl, by omega, by omega, fun H4 es4 kvs4 i o4 g4 p4 hd4 x4 v4 hDi le4 lk4 => ?_⟩
        have h4 := o4 dl _ nc.symm ns.symm nd.symm hdl3
        have mm : ∀ b xs, SqT K H4 b xs → SqT K (upd H4 dl (.lst (nums ids ++ [.int (i : Int)]))) b xs := fun b xs z => sqt_lst h4 z
        refine ⟨_, h4, ly_lt (by omega), es4, kvs4, ids ++ [i], fun b u hb => ?_, ⟨by rw [upd_ne nx]; exact g4.ins, by rw [upd_ne nc]; exact g4.ch, by rw [upd_ne ns]; exact g4.sd⟩, v4, by rw [upd_ne nd]; exact hd4, ?_, by rw [upd_same]; simp [nums], by omega, by omega⟩
        · rw [upd_ne (fun z => by rw [z, hdl0] at hb; cases hb)]
          exact o4 b u (fun z => by rw [z, hc] at hb; cases hb) (fun z => by rw [z, hs] at hb; cases hb) (fun z => by rw [z, hd0] at hb; cases hb) (e3 b u hb)
        · rw [tk]
          exact (hD3.mono (fun _ _ z => mm _ _ (off_sqt o4 g3.ch g3.sd hd3 z)) p4 x4).snoc (hDi.mono mm List.prefix_rfl fun _ _ h => h)
      · rintro H3 ⟨es, kvs, ids, e3, g3, v3, hd3, hD3, hdl3, hel, hkl⟩
        rw [la, List.take_length] at hD3
        walk_at "go"
        refine ⟨x, dx, c, s, dl, r, es, kvs, ids, bs, gs, ss, rfl, g3, v3, hdl3, hD3, e3 _ _ hr2, hS.ex e3, c2, by omega, hgn, hsn, fun H4 e4 => ?_⟩
        exact q H4 (e3.trans e4)
end
end Ly
set_option Elab.async false
set_option linter.all false
set_option maxRecDepth 100000
set_option maxHeartbeats 8000000
namespace Ly
open PySem PySem.Spec PyProof.Rows L2 Evl
local macro_rules | `(tactic| walk_at "ne") => `(tactic| first
  | assumption
  | ((refine' Ne.symm ?hq); (case hq => assumption))
  | ((refine' ne_of_none ?nh1 ?nh2); (case nh2 => assumption); (case nh1 => walk_at "hp"))
  | ((refine' Ne.symm (ne_of_none ?nh1 ?nh2)); (case nh2 => assumption); (case nh1 => walk_at "hp")))
local macro_rules | `(tactic| walk_at "hp") => `(tactic| first
  | assumption
  | exact upd_same
  | ((refine' SqL.of ?hq); (case hq => walk_at "hp"))
  | ((refine' SqT.of ?hq); (case hq => walk_at "hp"))
  | ((refine' (upd_ne ?hne).trans ?hrest); (case hne => walk_at "ne"); (case hrest => walk_at "hp"))
  | ((refine' ly_at ?hex ?hh); (case hex => assumption); (case hh => walk_at "hp"))
  | ((refine' ly_atF ?hex ?hnn ?hh); (case hex => assumption); (case hh => walk_at "hp"); (case hnn => walk_at "ne"))
  | ((refine' ex_t ?hex ?hh); (case hh => assumption); (case hex => walk_at "ex"))
  | ((refine' ex_l ?hex ?hh); (case hh => assumption); (case hex => walk_at "ex")))
local macro_rules | `(tactic| walk_at "ex") => `(tactic| first
  | assumption
  | exact Ex.refl _
  | ((refine' ex_new ?xa ?xb); (case xb => assumption); (case xa => walk_at "ex"))
  | ((refine' ex_upd ?xa ?xb); (case xb => walk_at "free"); (case xa => walk_at "ex"))
  | ((refine' Ex.trans ?xa ?xb); (case xb => assumption); (case xa => walk_at "ex")))
local macro_rules | `(tactic| walk_at "free") => `(tactic| first
  | assumption
  | ((refine' fresh_back ?xa ?xb); (case xb => assumption); (case xa => walk_at "ex")))
local macro_rules | `(tactic| walk_at "fr") => `(tactic| first
  | assumption
  | exact Fr.refl _ _
  | ((refine' Fr.own ?hq); (case hq => walk_at "fr"))
  | ((refine' Fr.new ?xa ?xb); (case xb => assumption); (case xa => walk_at "fr"))
  | ((refine' Fr.mut ?xa ?xb); (case xb => assumption); (case xa => walk_at "fr"))
  | ((refine' Fr.trans ?xa ?xb); (case xb => assumption); (case xa => walk_at "fr"))
  | ((refine' Fr.trans ?xa (Fr.ex ?xb)); (case xb => assumption); (case xa => walk_at "fr")))
local macro_rules | `(tactic| walk_at "go1") => `(tactic| first
  | (with_reducible refine' w_seq ?_)
  | (with_reducible refine' w_asg ?_)
  | (with_reducible refine' w_ret ?_)
  | (with_reducible refine' w_drop ?_)
  | (with_reducible refine' w_if ?_)
  | (with_reducible refine' w_next ?_)
  | (with_reducible refine' w_name ?_)
  | (with_reducible refine' w_sub ?_)
  | ((with_reducible refine' w_var ?hv ?_); (case hv => exact rfl))
  | (with_reducible refine' w_c ?_)
  | (with_reducible refine' w_op ?_)
  | (with_reducible refine' w_un ?_)
  | (with_reducible refine' w_ch ?_)
  | (with_reducible refine' w_I0 ?_)
  | ((with_reducible refine' w_I ?hc ?_); (case hc => first | (exact ly_mulL (by decide) (by decide)) | (exact ly_mulR (by decide) (by decide)) | (exact ly_mulL (by omega) (by omega)) | (show (_ : Int) ≠ 0; decide) | (show (_ : Int) ≠ 0; omega) | (exact ⟨by decide, by decide⟩) | (exact ⟨by omega, by omega⟩)))
  | (with_reducible refine' w_U ?_)
  | ((with_reducible refine' w_eq ?hs ?_); (case hs => exact rfl))
  | ((with_reducible refine' w_ne ?hs ?_); (case hs => exact rfl))
  | (with_reducible refine' w_isB ?_)
  | (with_reducible refine' w_notB ?_)
  | (with_reducible refine' w_nil ?_)
  | (with_reducible refine' w_cons ?_)
  | (with_reducible refine' w_tup ?_)
  | (with_reducible refine' w_lst ?_)
  | (with_reducible refine' w_cb ?_)
  | (with_reducible refine' w_call ?_)
  | (with_reducible refine' w_bm ?_)
  | (with_reducible refine' w_bm0 ?_)
  | ((with_reducible refine' w_app ?hh ?hz ?_); (case hh => walk_at "hp"); (case hz => first | exact ly_lt (by omega) | exact ly_lt (by simp only [List.length_append, List.length_map, List.length_cons, List.length_nil]; omega)))
  | ((with_reducible refine' w_popA ?hh ?_); (case hh => walk_at "hp"))
  | ((with_reducible refine' w_ext ?hh ?hh2 ?hz ?_); (case hh => walk_at "hp"); (case hh2 => walk_at "hp"))
  | ((with_reducible refine' w_ixL ?hh ?ha ?_); (case hh => walk_at "hp"); (case ha => first | exact rfl | exact at_map (by omega) | exact atI_last _ _ | ((refine' at_of ?ae ?ah); (case ah => assumption); (case ae => omega))))
  | ((with_reducible refine' w_ixT ?hh ?ha ?_); (case hh => walk_at "hp"); (case ha => first | exact rfl | exact at_map (by omega) | exact atI_last _ _ | ((refine' at_of ?ae ?ah); (case ah => assumption); (case ae => omega))))
  | ((with_reducible refine' w_cat ?hh ?hh2 ?hz ?_); (case hh => walk_at "hp"); (case hh2 => walk_at "hp"))
  | ((with_reducible refine' w_setL ?hh ?ha ?_); (case hh => walk_at "hp"); (case ha => exact rfl))
  | (with_reducible refine' w_test ?_)
  | (with_reducible refine' w_tB ?_)
  | (with_reducible refine' w_bl ?_)
  | (with_reducible refine' w_and ?_)
  | (with_reducible refine' w_or ?_)
  | (with_reducible refine' w_not ?_)
  | (with_reducible refine' w_andV ?_)
  | (with_reducible refine' w_orV ?_)
  | (with_reducible refine' w_notV ?_)
  | (with_reducible refine' w_ifE ?_)
  | (with_reducible refine' w_for ?_)
  | ((with_reducible refine' w_nin ?hh ?_); (case hh => walk_at "hp"))
  | ((with_reducible refine' w_sorted ?hh ?_); (case hh => walk_at "hp"))
  | (with_reducible refine' w_tsadd ?_)
  | ((with_reducible refine' w_tsadd1 ?hh ?_); (case hh => walk_at "hp"))
  | ((with_reducible refine' w_sadd ?hh ?hr ?_); (case hh => walk_at "hp"); (case hr => omega))
  | (with_reducible refine' w_iZ ?_)
  | ((with_reducible refine' w_iZ1 ?hh ?hh2 ?_); (case hh => walk_at "hp"); (case hh2 => walk_at "hp"))
  | (with_reducible refine' w_iS ?_)
  | (with_reducible refine' w_iS1 ?_)
  | ((with_reducible refine' w_gtup ?hh ?hn ?_); (case hh => walk_at "hp"); (case hn => exact rfl))
  | (with_reducible refine' w_gcons ?_)
  | (with_reducible refine' w_gnil ?_)
  | (with_reducible refine' w_js ?_)
  | (with_reducible refine' w_jsn ?_)
  | ((with_reducible refine' w_js1 ?hl ?_); (case hl => decide +kernel))
  | (with_reducible refine' w_fmt ?_)
  | ((with_reducible refine' w_fmt1 ?hl ?_); (case hl => decide +kernel))
  | (with_reducible refine' w_callS ?_)
  | ((with_reducible refine' w_truL ?hh ?_); (case hh => walk_at "hp"))
  | (with_reducible refine' w_lc ?_)
  | (with_reducible refine' w_yes ?_)
  | ((with_reducible refine' w_wipe ?he ?_); (case he => exact rfl))
  | (with_reducible refine' w_iL ?_)
  | (with_reducible refine' w_iT ?_)
  | (with_reducible refine' w_iR ?_)
  | ((with_reducible refine' w_iL1 ?hh ?_); (case hh => walk_at "hp"))
  | ((with_reducible refine' w_iT1 ?hh ?_); (case hh => walk_at "hp"))
  | ((with_reducible refine' w_iR1 ?h1 ?h2 ?_); (case h1 => omega); (case h2 => omega))
  | ((with_reducible refine' w_aug ?hv ?_); (case hv => exact rfl))
  | (with_reducible refine' w_ipI ?_)
  | ((with_reducible refine' w_isi ?hy ?hk ?_); (case hy => walk_at "ty"); (case hk => walk_at "kit"))
  | ((with_reducible refine' w_int ?_))
  | ((with_reducible refine' w_intB ?_))
  | ((with_reducible refine' w_abs ?_))
  | ((with_reducible refine' w_lenL ?hh ?_); (case hh => walk_at "hp"))
  | ((with_reducible refine' w_lenT ?hh ?_); (case hh => walk_at "hp"))
  | ((with_reducible refine' w_tupL ?hh ?_); (case hh => walk_at "hp"))
  | ((with_reducible refine' w_tupT ?hh ?_); (case hh => walk_at "hp"))
  | ((with_reducible refine' w_catA ?hh ?hh2 ?hz ?_); (case hh => walk_at "hp"); (case hh2 => walk_at "hp"); (case hz => walk_at "len"))
  | ((with_reducible refine' w_repB ?hh ?hne ?h2 ?h3 ?hz ?_); (case hh => walk_at "hp"); (case hne => simp); (case h2 => omega); (case h3 => omega); (case hz => exact Nat.le_of_ble_eq_true rfl))
  | ((with_reducible refine' w_eqN ?hh ?hh2 ?n1 ?n2 ?_); (case hh => walk_at "hp"); (case hh2 => walk_at "hp"); (case n1 => walk_at "nd"); (case n2 => walk_at "nd"))
  | ((with_reducible refine' w_neN ?hh ?hh2 ?n1 ?n2 ?_); (case hh => walk_at "hp"); (case hh2 => walk_at "hp"); (case n1 => walk_at "nd"); (case n2 => walk_at "nd"))
  | ((with_reducible refine' w_eqL ?hh ?hh2 ?n1 ?n2 ?_); (case hh => walk_at "hp"); (case hh2 => walk_at "hp"); (case n1 => walk_at "nd"); (case n2 => walk_at "nd"))
  | ((with_reducible refine' w_neL ?hh ?hh2 ?n1 ?n2 ?_); (case hh => walk_at "hp"); (case hh2 => walk_at "hp"); (case n1 => walk_at "nd"); (case n2 => walk_at "nd"))
  | ((with_reducible refine' w_neNon ?hh2 ?n2 ?_); (case hh2 => walk_at "hp"); (case n2 => walk_at "nd"))
  | ((with_reducible refine' w_eqNon ?hh2 ?n2 ?_); (case hh2 => walk_at "hp"); (case n2 => walk_at "nd"))
  | ((with_reducible refine' w_slA ?hh ?_); (case hh => walk_at "hp"))
  | ((with_reducible refine' w_disp ?hz ?_); (case hz => exact sz_of (Nat.le_of_ble_eq_true rfl)))
  | ((with_reducible refine' w_tyL ?hh ?_); (case hh => walk_at "hp"))
  | (with_reducible refine' iteT ?_)
  | (with_reducible refine' iteF ?_)
  | (with_reducible refine' w_nT ?_)
  | (with_reducible refine' w_nn ?_)
  | (with_reducible refine' w_nnT ?_)
  | (with_reducible refine' w_nnR ?_)
  | (with_reducible refine' w_neG ?_)
  | (with_reducible refine' w_eqG ?_)
  | (with_reducible refine' w_neS ?_)
  | (with_reducible refine' w_eqS ?_)
  | (with_reducible refine' w_neSb ?_)
  | (with_reducible refine' w_eqSb ?_)
  | (with_reducible refine' w_deIS ?_)
  | (with_reducible refine' w_deSI ?_)
  | (with_reducible refine' w_deISn ?_)
  | ((with_reducible refine' w_deST ?he ?_); (case he => decide +kernel))
  | ((with_reducible refine' w_deSF ?he ?_); (case he => decide +kernel))
  | ((with_reducible refine' w_deSTn ?he ?_); (case he => decide +kernel))
  | ((with_reducible refine' w_deSFn ?he ?_); (case he => decide +kernel))
  | (with_reducible refine' w_nF ?_)
  | dsimp only [Bool.not_true, Bool.not_false])
local macro_rules | `(tactic| walk_at "ty") => `(tactic| first
  | exact .base (.int _) | exact .base (.str _) | exact .base (.bl _) | exact .base .non
  | ((refine' tyx_t ?hq); (case hq => walk_at "hp")) | ((refine' tyx_l ?hq); (case hq => walk_at "hp")) | ((refine' .base (.tup ?hq)); (case hq => walk_at "hp")) | assumption)
local macro_rules | `(tactic| walk_at "go") => `(tactic| repeat walk_at "go1")
local macro_rules | `(tactic| walk_at "st") => `(tactic| try dsimp only [cxOf, Cx.nox, Cx.wish])
local macro_rules | `(tactic| walk_at "kit") => `(tactic| with_reducible first | exact kit_int_int | exact kit_int_str | exact kit_int_bool | exact kit_int_tuple | exact kit_int_list | exact kit_str_int | exact kit_str_str | exact kit_str_bool | exact kit_str_tuple | exact kit_str_list | exact kit_bool_int | exact kit_bool_str | exact kit_bool_bool | exact kit_bool_tuple | exact kit_bool_list | exact kit_NoneType_int | exact kit_NoneType_str | exact kit_NoneType_bool | exact kit_NoneType_tuple | exact kit_NoneType_list | exact kit_list_int | exact kit_list_str | exact kit_list_bool | exact kit_list_tuple | exact kit_list_list | exact kit_tuple_int | exact kit_tuple_str | exact kit_tuple_bool | exact kit_tuple_tuple | exact kit_tuple_list)
local macro_rules | `(tactic| walk_at "nd") => `(tactic| first
  | assumption
  | exact Tm.nds _
  | exact Nds.nil
  | exact Nds.ofInts _
  | ((refine' Nds.cons ?na ?nb); (case na => first | exact Nds.I _ | exact Nds.L | exact Nds.A); (case nb => walk_at "nd"))
  | ((refine' Nds.app ?na ?nb); (case na => walk_at "nd"); (case nb => walk_at "nd"))
  | ((refine' Nds.rep ?na _); (case na => walk_at "nd")))
local macro_rules | `(tactic| walk_at "len") => `(tactic| first
  | exact ly_sz (by omega)
  | ((simp only [List.length_append, List.length_cons, List.length_nil, List.length_map, PyProof.Rows.lm_len_rep_flat]); exact ly_sz (by omega)))
local macro_rules | `(tactic| walk_at "go1") => `(tactic| first
  | (with_reducible refine' w_kget2 ?_)
  | (with_reducible refine' w_isRN ?_)
  | (with_reducible refine' w_isNN ?_)
  | (with_reducible refine' w_isIN ?_)
  | ((with_reducible refine' w_kg ?hd ?_); (case hd => assumption)))
local macro_rules | `(tactic| walk_at "go1") => `(tactic| first
  | ((with_reducible refine' w_extT ?hh ?hh2 ?hz ?_); (case hh => walk_at "hp"); (case hh2 => walk_at "hp"))
  | ((with_reducible refine' w_I ?hc ?_); (case hc => exact ⟨by decide, by decide, by decide⟩))
  | (with_reducible refine' w_sl ?_)
  | (with_reducible refine' w_noP ?_)
  | (with_reducible refine' w_part ?_)
  | (with_reducible refine' w_part1 ?_)
  | (with_reducible refine' w_it ?_)
  | (with_reducible refine' w_it1 ?_)
  | ((with_reducible refine' w_lenZ ?hz ?_); (case hz => omega))
  | ((with_reducible refine' w_addZb ?hz ?_); (case hz => omega))
  | ((with_reducible refine' w_addZf ?hz ?_); (case hz => omega))
  | ((with_reducible refine' w_addZa ?hz ?_); (case hz => omega))
  | ((with_reducible refine' w_inS ?hh ?_); (case hh => walk_at "hp"))
  | ((with_reducible refine' w_ixT ?hh ?ha ?_); (case hh => assumption); (case ha => exact atI_nat (by assumption))))
local macro_rules | `(tactic| walk_at "go1") => `(tactic| first
  | (with_reducible refine' w_iR2 ?_)
  | ((with_reducible refine' w_iR21 ?h1 ?h2 ?h3 ?h4 ?_); (case h1 => omega); (case h2 => omega); (case h3 => omega); (case h4 => omega))
  | (with_reducible refine' w_nnI ?_)
  | (with_reducible refine' w_max ?_)
  | (with_reducible refine' w_break ?_)
  | (with_reducible refine' w_cont ?_))
local macro_rules | `(tactic| walk_at "go1") => `(tactic| first
  | (with_reducible refine' w_tdget ?_)
  | (with_reducible refine' w_tdin ?_)
  | (with_reducible refine' w_tdnotin ?_)
  | (with_reducible refine' w_sdput ?_)
  | (with_reducible refine' w_tdsetd ?_)
  | (with_reducible refine' w_dnew ?_))
section
variable {P : Program} {w : World} {K : PySem.W.Frag} {mg : Str → Option Value} {base : Heap} {tk : Nat → Tok} {cl : Nat → Addr}
theorem rpl_len1 {g : Nat → Option Kt} (h : ∀ n u, g n = some u → u.enc.length ≤ 1) : ∀ {t : Kt}, (t.rpl g).enc.length = t.enc.length
  | .var n => by
    simp only [Kt.rpl]
    cases e : g n with
    | none => rfl
    | some u =>
      have h1 := h n u e
      have h2 := u.pos
      simp only [Option.getD_some, Kt.enc, List.length_singleton]
      omega
  | .to a b => by simp only [Kt.rpl, Kt.enc, List.length_cons, List.length_append, rpl_len1 h (t := a), rpl_len1 h (t := b)]
theorem rpl_len4 {g : Nat → Option Kt} {M : Nat} (hM : 1 ≤ M) (h : ∀ n u, g n = some u → u.enc.length ≤ M) : ∀ t : Kt, (t.rpl g).enc.length ≤ M * t.enc.length
  | .var n => by
    simp only [Kt.rpl, Kt.enc, List.length_singleton]
    cases e : g n with
    | none => simpa [Kt.enc] using hM
    | some u => simpa using h n u e
  | .to a b => by
    have h1 := rpl_len4 hM h a
    have h2 := rpl_len4 hM h b
    simp only [Kt.rpl, Kt.enc, List.length_cons, List.length_append, Nat.mul_add]
    omega
theorem Rws.set {K : PySem.W.Frag} {H : Hp} {as : List Addr} {xss : List (List V)} {p : Addr} {xs : List V} (h : Rws K H as xss) (hp : SqT K H p xs) : ∀ j, Rws K H (as.set j p) (xss.set j xs) := by
  induction h with
  | nil => exact fun j => .nil
  | cons h t ih =>
    intro j
    cases j with
    | zero => exact .cons hp t
    | succ j => exact .cons h (ih j)
def spLaw (K : PySem.W.Frag) : Sp := fun vs H Q _ => ∃ (a : Addr) (ns : List Int), vs = [.ref a] ∧ SqL K H a (ns.map V.int) ∧ ns.length ≤ 63 ∧ ∀ H', Q (.bl true) H'
theorem ok_law {f : Addr} {fd : FuncData} (F : Fun K "law" "law" s_law f fd) (T : Txt w K mg tk cl)
    (D1 : Def P w K mg base CX0 1 "_law_stream" ["script"] (spStream K)) (D2 : Def P w K mg base CX0 1 "_law_draw" ["stream", "many"] spDraw) (D3 : Def P w K mg base CX0 2 "_law_kind" ["stream", "size", "many"] (spKind K)) (D4 : Def P w K mg base CX0 1 "_law_replaced" ["kind", "table"] (spRpl K))
    (D5 : Def P w K mg base CX0 1 "renamed" ["kinds"] (spRenamed K)) (D6 : Def P w K mg base CX0 1 "_law_renamed" ["rows"] (spRenamed K)) (D7 : Def P w K mg base CX0 5 "is_instance" ["general", "special"] (spInst K)) (D8 : Def P w K mg base CX0 2 "_law_is_instance" ["general", "special"] (spInst K)) : FnOk P w K mg base CX0 40 f fd ["script"] (spLaw K) := by
  obtain ⟨f1, fd1, g_law_stream, kp_law_stream, b_law_stream, G_law_stream⟩ := D1
  obtain ⟨f2, fd2, g_law_draw, kp_law_draw, b_law_draw, G_law_draw⟩ := D2
  obtain ⟨f3, fd3, g_law_kind, kp_law_kind, b_law_kind, G_law_kind⟩ := D3
  obtain ⟨f4, fd4, g_law_replaced, kp_law_replaced, b_law_replaced, G_law_replaced⟩ := D4
  obtain ⟨f5, fd5, g_renamed, kp_renamed, b_renamed, G_renamed⟩ := D5
  obtain ⟨f6, fd6, g_law_renamed, kp_law_renamed, b_law_renamed, G_law_renamed⟩ := D6
  obtain ⟨f7, fd7, g_is_instance, kp_is_instance, b_is_instance, G_is_instance⟩ := D7
  obtain ⟨f8, fd8, g_law_is_instance, kp_law_is_instance, b_law_is_instance, G_law_is_instance⟩ := D8
  refine F.ok sc_law (fun vs H Q E h => ?_) (fun cdv A outer s H vs Q E hr h => ?_)
  · obtain ⟨a, ns, rfl, _⟩ := h
    rfl
  · obtain ⟨a, ns, rfl, hS, hlen, q⟩ := h
    refine ⟨_, (pss_cons (ps_set (i := 1) sc_law.nd rfl (.inr rfl) (pe_call G_law_stream (hr.mono (by first | decide | omega)) (by rfl) g_law_stream kp_law_stream b_law_stream .nil pass0 (pa_cons (pv 0) pa_nil))) (pss_cons (ps_set (i := 2) sc_law.nd rfl (.inl rfl) (pe_call G_law_draw (hr.mono (by first | decide | omega)) (by rfl) g_law_draw kp_law_draw b_law_draw .nil pass0 (pa_cons (pv 1) (pa_cons pe_int pa_nil)))) (pss_cons (ps_setLc (i := 3) (own := [("k", 4)]) (g := gName 4) (tt := tYes) rfl sc_law.nd rfl rfl (sw_true rfl rfl rfl (by decide +kernel)) (pi_range1 (by rfl) T.n_range (pa_cons (pv 2) pa_nil)) (blkOk_by (N := N_law) (sc := defScope s_law) (by decide +kernel)) (fun _ _ _ _ _ => pg_name (i := 4) sc_law.nd rfl (Or.inl rfl)) (fun _ _ _ _ _ => pts_nil) (fun _ _ _ _ _ => (pe_call G_law_kind (hr.mono (by first | decide | omega)) (by rfl) g_law_kind kp_law_kind b_law_kind .nil pass0 (pa_cons (pv 1) (pa_cons (pe_op op_add pe_int (pe_call G_law_draw (hr.mono (by first | decide | omega)) (by rfl) g_law_draw kp_law_draw b_law_draw .nil pass0 (pa_cons (pv 1) (pa_cons pe_int pa_nil)))) (pa_cons pe_int pa_nil)))))) (pss_cut (ps_if (pt_cmpR op_eq (pe_call G_law_draw (hr.mono (by first | decide | omega)) (by rfl) g_law_draw kp_law_draw b_law_draw .nil pass0 (pa_cons (pv 1) (pa_cons pe_int pa_nil))) pe_int (nomark _)) (pss_cons (ps_set (i := 5) sc_law.nd rfl (.inr rfl) pe_dnewK) (pss_cons (ps_for PassesOwn.never rfl (pi_range1 (by rfl) T.n_range (pa_cons pe_int pa_nil)) (pg_name (i := 4) sc_law.nd rfl (.inl rfl)) (pss_one (ps_dput (by exact Nat.lt_of_le_of_lt (Nat.add_le_add_left (by decide) _) hr.units) (pv 5) (pv 4) (pe_tup (pa_cons (pe_op op_sub (pe_op op_sub pe_int (pe_op op_mul pe_int (pv 4))) (pe_call G_law_draw (hr.mono (by first | decide | omega)) (by rfl) g_law_draw kp_law_draw b_law_draw .nil pass0 (pa_cons (pv 1) (pa_cons pe_int pa_nil)))) pa_nil)) (by rfl)))) (pss_one (ps_setLc (i := 3) (own := [("row", 6)]) (g := gName 6) (tt := tYes) rfl sc_law.nd rfl rfl (sw_true rfl rfl rfl (by decide +kernel)) (pi_list (pv 3)) (blkOk_by (N := N_law) (sc := defScope s_law) (by decide +kernel)) (fun _ _ _ _ _ => pg_name (i := 6) sc_law.nd rfl (Or.inl rfl)) (fun _ _ _ _ _ => pts_nil) (fun _ _ _ _ _ => (pe_call G_law_replaced (hr.mono (by first | decide | omega)) (by rfl) g_law_replaced kp_law_replaced b_law_replaced .nil pass0 (pa_cons (pv 6) (pa_cons (pv 5) pa_nil)))))))) pss_nil) (pss_cons (ps_set (i := 7) sc_law.nd rfl (.inl rfl) (pe_callTy call_list_of (by rfl) T.n_list (by decide +kernel) (pa_cons (pv 3) pa_nil))) (pss_cons (ps_set (i := 8) sc_law.nd rfl (.inl rfl) (pe_call G_renamed (hr.mono (by first | decide | omega)) (by rfl) g_renamed kp_renamed b_renamed .nil pass0 (pa_cons (pv 7) pa_nil))) (pss_cons (ps_if (PW.pt (pw_or (pt_not (pt_val (pe_callB call_isi (by rfl) T.n_isinstance (by decide +kernel) (pa_cons (pv 8) (pa_cons (pe_bltn (v := .ty "list") (by rfl) T.n_list (by decide +kernel) rfl) pa_nil))))) (pw_or (pt_cmpR (op_neD hr.units) (pv 8) (pe_call G_law_renamed (hr.mono (by first | decide | omega)) (by rfl) g_law_renamed kp_law_renamed b_law_renamed .nil pass0 (pa_cons (pv 3) pa_nil)) (nomark _)) (pw_or1 (pt_cmpR (op_neD hr.units) (pv 7) (pv 3) (nomark _)))))) (pss_one (ps_ret pe_bl)) pss_nil) (pss_cons (ps_set (i := 9) sc_law.nd rfl (.inl rfl) (pe_call G_renamed (hr.mono (by first | decide | omega)) (by rfl) g_renamed kp_renamed b_renamed .nil pass0 (pa_cons (pv 7) pa_nil))) (pss_cons (ps_expr (pe_bm PySem.F.plainAttrs_list PySem.F.slot_list_append PySem.F.type_list_append mt_append (pv 9) (pa_cons (pe_tup (pa_cons pe_int pa_nil)) pa_nil))) (pss_cons (ps_if (PW.pt (pw_or (pt_cmpR (op_neD hr.units) (pv 7) (pv 3) (nomark _)) (pw_or1 (pt_cmpR (op_neD hr.units) (pe_call G_renamed (hr.mono (by first | decide | omega)) (by rfl) g_renamed kp_renamed b_renamed .nil pass0 (pa_cons (pv 7) pa_nil)) (pv 8) (nomark _))))) (pss_one (ps_ret pe_bl)) pss_nil) (pss_cons (ps_if (PW.pt (pw_or (pt_cmpR (op_neD hr.units) (pe_call G_renamed (hr.mono (by first | decide | omega)) (by rfl) g_renamed kp_renamed b_renamed .nil pass0 (pa_cons (pv 8) pa_nil)) (pv 8) (nomark _)) (pw_or (pt_cmpR op_notBl (pe_call G_is_instance (hr.mono (by first | decide | omega)) (by rfl) g_is_instance kp_is_instance b_is_instance .nil pass0 (pa_cons (pv 8) (pa_cons (pv 7) pa_nil))) pe_bl (nomark _)) (pw_or1 (pt_cmpR op_notBl (pe_call G_is_instance (hr.mono (by first | decide | omega)) (by rfl) g_is_instance kp_is_instance b_is_instance .nil pass0 (pa_cons (pv 7) (pa_cons (pv 8) pa_nil))) pe_bl (nomark _)))))) (pss_one (ps_ret pe_bl)) pss_nil) (pss_cons (ps_set (i := 10) sc_law.nd rfl (.inr rfl) pe_dnewK) (pss_cons (ps_for PassesOwn.never rfl (pi_list (pv 3)) (pg_name (i := 6) sc_law.nd rfl (.inl rfl)) (pss_one (ps_for PassesOwn.never rfl (pi_tup (pv 6)) (pg_name (i := 11) sc_law.nd rfl (.inl rfl)) (pss_one (ps_if (pt_val (pe_callB call_isi (by rfl) T.n_isinstance (by decide +kernel) (pa_cons (pv 11) (pa_cons (pe_bltn (v := .ty "int") (by rfl) T.n_int (by decide +kernel) rfl) pa_nil)))) (pss_one (ps_dput (by exact Nat.lt_of_le_of_lt (Nat.add_le_add_left (by decide) _) hr.units) (pv 10) (pv 11) (pe_call G_law_kind (hr.mono (by first | decide | omega)) (by rfl) g_law_kind kp_law_kind b_law_kind .nil pass0 (pa_cons (pv 1) (pa_cons (pe_op op_add pe_int (pe_call G_law_draw (hr.mono (by first | decide | omega)) (by rfl) g_law_draw kp_law_draw b_law_draw .nil pass0 (pa_cons (pv 1) (pa_cons pe_int pa_nil)))) (pa_cons pe_int pa_nil)))) (by rfl))) pss_nil))))) (pss_cons (ps_setLc (i := 12) (own := [("row", 6)]) (g := gName 6) (tt := tYes) rfl sc_law.nd rfl rfl (sw_true rfl rfl rfl (by decide +kernel)) (pi_list (pv 3)) (blkOk_by (N := N_law) (sc := defScope s_law) (by decide +kernel)) (fun _ _ _ _ _ => pg_name (i := 6) sc_law.nd rfl (Or.inl rfl)) (fun _ _ _ _ _ => pts_nil) (fun _ _ _ _ _ => (pe_call G_law_replaced (hr.mono (by first | decide | omega)) (by rfl) g_law_replaced kp_law_replaced b_law_replaced .nil pass0 (pa_cons (pv 6) (pa_cons (pv 10) pa_nil))))) (pss_cons (ps_set (i := 13) sc_law.nd rfl (.inl rfl) (pe_call G_law_draw (hr.mono (by first | decide | omega)) (by rfl) g_law_draw kp_law_draw b_law_draw .nil pass0 (pa_cons (pv 1) (pa_cons pe_int pa_nil)))) (pss_cut (ps_if (PW.pt (pw_and (pt_cmpR op_eq (pv 13) pe_int (nomark _)) (pw_and1 (pt_truth (pv 12) (by intro _; rfl))))) (pss_cons (ps_set (i := 14) sc_law.nd rfl (.inl rfl) (pe_call G_law_draw (hr.mono (by first | decide | omega)) (by rfl) g_law_draw kp_law_draw b_law_draw .nil pass0 (pa_cons (pv 1) (pa_cons (pe_callB call_len_seq (by rfl) T.n_len (by decide +kernel) (pa_cons (pv 12) pa_nil)) pa_nil)))) (pss_one (ps_asg (pe_call G_law_kind (hr.mono (by first | decide | omega)) (by rfl) g_law_kind kp_law_kind b_law_kind .nil pass0 (pa_cons (pv 1) (pa_cons (pe_op op_add pe_int (pe_call G_law_draw (hr.mono (by first | decide | omega)) (by rfl) g_law_draw kp_law_draw b_law_draw .nil pass0 (pa_cons (pv 1) (pa_cons pe_int pa_nil)))) (pa_cons pe_int pa_nil)))) (pg_sub (pv 12) (pv 14) set_list)))) pss_nil) (pss_cut (ps_if (pt_cmpR op_eq (pv 13) pe_int (nomark _)) (pss_one (ps_setLc (i := 12) (own := [("k", 4)]) (g := gName 4) (tt := tYes) rfl sc_law.nd rfl rfl (sw_true rfl rfl rfl (by decide +kernel)) (pi_range1 (by rfl) T.n_range (pa_cons (pe_call G_law_draw (hr.mono (by first | decide | omega)) (by rfl) g_law_draw kp_law_draw b_law_draw .nil pass0 (pa_cons (pv 1) (pa_cons pe_int pa_nil))) pa_nil)) (blkOk_by (N := N_law) (sc := defScope s_law) (by decide +kernel)) (fun _ _ _ _ _ => pg_name (i := 4) sc_law.nd rfl (Or.inl rfl)) (fun _ _ _ _ _ => pts_nil) (fun _ _ _ _ _ => (pe_call G_law_kind (hr.mono (by first | decide | omega)) (by rfl) g_law_kind kp_law_kind b_law_kind .nil pass0 (pa_cons (pv 1) (pa_cons (pe_op op_add pe_int (pe_call G_law_draw (hr.mono (by first | decide | omega)) (by rfl) g_law_draw kp_law_draw b_law_draw .nil pass0 (pa_cons (pv 1) (pa_cons pe_int pa_nil)))) (pa_cons pe_int pa_nil))))))) pss_nil) (pss_cons (ps_set (i := 15) sc_law.nd rfl (.inl rfl) (pe_callTy call_list_of (by rfl) T.n_list (by decide +kernel) (pa_cons (pv 12) pa_nil))) (pss_cons (ps_set (i := 16) sc_law.nd rfl (.inl rfl) (pe_call G_is_instance (hr.mono (by first | decide | omega)) (by rfl) g_is_instance kp_is_instance b_is_instance .nil pass0 (pa_cons (pv 7) (pa_cons (pv 12) pa_nil)))) (pss_one (ps_ret (pe_and (pe_callB call_isi (by rfl) T.n_isinstance (by decide +kernel) (pa_cons (pv 16) (pa_cons (pe_bltn (v := .ty "bool") (by rfl) T.n_bool (by decide +kernel) rfl) pa_nil))) (pe_and (pe_cmpR op_eq (pv 16) (pe_call G_law_is_instance (hr.mono (by first | decide | omega)) (by rfl) g_law_is_instance kp_law_is_instance b_law_is_instance .nil pass0 (pa_cons (pv 3) (pa_cons (pv 15) pa_nil))) (nomark _)) (pe_and (pe_cmpR (op_eqD hr.units) (pv 12) (pv 15) (nomark _)) (pe_one (pe_cmpR (op_eqD hr.units) (pv 7) (pv 3) (nomark _))))))))))))))))))))))))))), ?_⟩
    refine sl_of (σ2 := [some _, none, none, none, none, none, none, none, none, none, none, none, none, none, none, none, none]) rfl ?_
    walk_at "st"
    walk_at "go"
    refine ⟨a, ns, rfl, hS, hlen, fun H1 s1 l e1 hs1 st1 => ?_⟩
    generalize (⟨l, ns, 0, 0, mixOf ns⟩ : Stm) = m1 at *
    clear hs1 e1 hS
    walk_at "go"
    refine ⟨s1, m1, 5, rfl, st1, by decide, by decide, fun H2 fr2 st2 => ?_⟩
    have v2 := m1.val_lt (n := 5) (by decide)
    generalize m1.val 5 = n2 at *
    generalize m1.next 5 = m2 at *
    clear st1 fr2
    walk_at "go"
    intro d0 hd0
    have nd0 := (st2.ne hd0).1
    have nh0 := (st2.ne hd0).2
    refine lc_range (lo := 0) (n := n2.toNat) (fun i H' => ∃ m as ts, m.home = m2.home ∧ StAt H' s1 m ∧ H' d0 = some (.lst (refs as)) ∧ Rws K H' as ((ts : List Kt).map Kt.enc) ∧ ts.length ≤ i ∧ ∀ t ∈ ts, t.lt 5 ∧ t.enc.length ≤ 9)
      ⟨m2, [], [], rfl, st2.new hd0, upd_same, .nil, Nat.le_refl _, by simp⟩ ?_ ?_
    · rintro i H8 hi ⟨m, as, ts, hm, st, hd, hT, htl, hts⟩
      have hal := hT.len
      rw [List.length_map] at hal
      have rl : (refs as).length = as.length := List.length_map _
      walk_at "go"
      refine ⟨s1, m, 9, rfl, st, by decide, by decide, fun H9 fr9 st9 => ?_⟩
      have gm9 : (m.next 9).home = m.home := (Fol.next m 9).1
      have v9 := m.val_lt (n := 9) (by decide)
      have hd9 := fr9 _ _ nd0 hd
      have hT9 := hT.mono fun a xs z => fr_t fr9 st.2.1 z
      generalize m.val 9 = i9 at *
      generalize m.next 9 = m9 at *
      walk_at "go"
      refine ⟨s1, m9, (1 + i9).toNat, 5, by rw [Int.toNat_of_nonneg (by omega)]; rfl, st9, by omega, by omega, by decide, by decide, fun H10 p m10 t fr10 st10 fol10 hp hw hl => ?_⟩
      have hd10 := fr10 _ _ nd0 hd9
      have hT10 := hT9.mono fun a xs z => fr_t fr10 st9.2.1 z
      have hme : m10.home = m2.home := (fol10.1.trans gm9).trans hm
      refine ⟨refs as, hd10, ly_lt (by omega), m10, as ++ [p], ts ++ [t], hme, st10.put nd0 (by rw [hme]; exact nh0), by rw [upd_same]; simp [refs], ?_, by rw [List.length_append, List.length_singleton]; omega, ?_⟩
      · rw [List.map_append]
        exact (hT10.lst hd10).snoc (sqt_lst hd10 hp)
      intro u hu
      rcases List.mem_append.mp hu with h | h
      · exact hts u h
      · rw [List.mem_singleton.mp h]
        exact ⟨hw, by omega⟩
    · rintro H3 ⟨m3, as, ts, hm3, st3, hd3, hT3, htl, hts⟩
      have htl5 : ts.length ≤ 5 := by omega
      clear st2 hd0
      walk_at "go"
      have rl3 : (refs as).length = ts.length := by rw [List.length_map, hT3.len, List.length_map]
      refine w_cut (M := fun σ' H' => ∃ (m : Stm) (dl : Addr) (as : List Addr) (ts : List Kt) (y4 y5 y6 : Option V), σ' = [some (.ref a), some (.ref s1), some (.int n2), some (.ref dl), y4, y5, y6, none, none, none, none, none, none, none, none, none, none] ∧ StAt H' s1 m ∧ dl ≠ s1 ∧ dl ≠ m.home ∧ H' dl = some (.lst (refs as)) ∧ Rws K H' as (ts.map Kt.enc) ∧ ts.length ≤ 5 ∧ ∀ t ∈ ts, t.enc.length ≤ 9) ?_ ?_
      · walk_at "go"
        refine ⟨s1, m3, 4, rfl, st3, by decide, by decide, fun H4 fr4 st4 => ?_⟩
        have hd4 := fr4 _ _ nd0 hd3
        have hT4 := hT3.mono fun a xs z => fr_t fr4 st3.2.1 z
        have hm4 : (m3.next 4).home = m2.home := (Fol.next m3 4).1.trans hm3
        generalize m3.val 4 = n4 at *
        generalize m3.next 4 = m4 at *
        clear fr4 st3 hd3 hT3
        walk_at "go"
        refine w_brI (fun c1 => ?_) (fun c1 => ?_)
        · walk_at "go"
          intro fd0 hfd
          have nfs := (st4.ne hfd).1
          have nfh := (st4.ne hfd).2
          have nfd : d0 ≠ fd0 := ne_of_none hd4 hfd
          walk_at "go"
          refine for_range (lo := 0) (n := 5) (fun k σ H' => ∃ (m : Stm) (kvs : List (L2.Key × V)) (g : Nat → Option Kt) (y4 : Option V), σ = [some (.ref a), some (.ref s1), some (.int n2), some (.ref d0), y4, some (.ref fd0), none, none, none, none, none, none, none, none, none, none, none] ∧ StAt H' s1 m ∧ m.home = m2.home ∧ H' fd0 = some (.dK kvs) ∧ Tab K H' kvs g ∧ kvs.length ≤ k ∧ (∀ n u, g n = some u → u.enc.length ≤ 1) ∧ H' d0 = some (.lst (refs as)) ∧ Rws K H' as (ts.map Kt.enc))
            ⟨m4, [], fun _ => none, none, rfl, st4.new hfd, hm4, upd_same, Tab.nil, Nat.le_refl _, (fun n u h => by cases h), by rw [upd_ne nfd]; exact hd4, hT4.mono fun _ _ z => ex_t (Ex.new hfd) z⟩ ?_ ?_
          · clear hd4 hT4 st4
            rintro k σ H5 hk ⟨m, kvs, g, y4, rfl, st5, hm5, hf5, hTb, hkl, hg1, hd5, hT5⟩
            rw [show (0 : Int) + (k : Int) = (k : Int) by omega]
            walk_at "go"
            refine ⟨s1, m, 3, rfl, st5, by decide, by decide, fun H6 fr6 st6 => ?_⟩
            have v6 := m.val_lt (n := 3) (by decide)
            have hm6 : (m.next 3).home = m2.home := (Fol.next m 3).1.trans hm5
            have hf6 := fr6 _ _ nfs hf5
            have hd6 := fr6 _ _ nd0 hd5
            have hT6 := hT5.mono fun a xs z => fr_t fr6 st5.2.1 z
            have hTb6 := hTb.mono fun a xs z => fr_t fr6 st5.2.1 z
            generalize m.val 3 = n6 at *
            generalize m.next 3 = m6 at *
            clear fr6 st5 hf5 hd5 hT5 hTb
            obtain ⟨nn, hnn⟩ : ∃ nn : Nat, (1000000 : Int) - 90000 * (k : Int) - n6 = (nn : Int) := ⟨((1000000 : Int) - 90000 * (k : Int) - n6).toNat, (Int.toNat_of_nonneg (by omega)).symm⟩
            walk_at "go"
            rw [hnn]
            walk_at "go"
            intro p hp
            have e7 := Ex.new hp (o := .tup [V.int (nn : Int)])
            have hp7 : SqT K (upd H6 p (.tup [V.int (nn : Int)])) p (Kt.var nn).enc := SqT.of upd_same
            have st7 := st6.ex e7
            generalize upd H6 p (.tup [V.int (nn : Int)]) = H7 at *
            have hf7 := e7 _ _ hf6
            have hd7 := e7 _ _ hd6
            have hT7 := hT6.ex e7
            have hTb7 := hTb6.mono fun _ _ z => ex_t e7 z
            have lp := length_putK kvs (.inl (k : Int)) (.ref p)
            walk_at "go"
            refine w_dput hf7 (ly_lt (by omega)) ?_
            exact ⟨m6, _, setG g k (.var nn), _, rfl, st7.put nfs (by rw [hm6, ← hm4]; exact nfh), hm6, upd_same, (hTb7.put hp7).mono fun _ _ z => sqt_dic hf7 z, by omega, fun n u hu => by
              unfold setG at hu
              split at hu
              · cases hu
                exact Nat.le_refl _
              · exact hg1 n u hu, by rw [upd_ne nfd]; exact hd7, hT7.dic hf7⟩
          · clear hd4 hT4 st4
            rintro σ H5 ⟨m, kvs, g, y4, rfl, st5, hm5, hf5, hTb, hkl, hg1, hd5, hT5⟩
            walk_at "go"
            intro dl hdl
            have ndl := (st5.ne hdl).1
            have nhl := (st5.ne hdl).2
            refine lc_list (K := K) (a := d0) (xs := refs as) (fun k H' => ∃ (bs : List Addr), Ex H5 H' ∧ H' dl = some (.lst (refs bs)) ∧ Rws K H' bs (((ts.take k).map fun t => t.rpl g).map Kt.enc) ∧ bs.length = k) ⟨[], Ex.new hdl, upd_same, .nil, rfl⟩ (fun k H' _ ⟨_, e, _⟩ => SqL.of (e _ _ hd5)) ?_ ?_
            · rintro k v H6 hk ⟨bs, e6, hb6, hR6, hbl⟩
              obtain ⟨ra, ys, rfl, hys, hra⟩ := hT5.at_ hk
              rw [List.getElem?_map] at hys
              obtain ⟨t, ht, rfl⟩ := Option.map_eq_some_iff.mp hys
              have hkt : k < ts.length := (List.getElem?_eq_some_iff.mp ht).1
              have nbl : (refs bs).length ≤ 100 := by rw [List.length_map]; omega
              have tk : ((ts.take (k + 1)).map fun t => t.rpl g).map Kt.enc = ((ts.take k).map fun t => t.rpl g).map Kt.enc ++ [(t.rpl g).enc] := by rw [List.take_add_one, ht]; simp
              walk_at "go"
              refine ⟨ra, fd0, t, kvs, g, rfl, ex_t e6 hra, e6 _ _ hf5, hTb.mono (fun _ _ z => ex_t e6 z), by have := (hts t (List.mem_of_getElem? ht)).2; omega, fun n u hu => by have := hg1 n u hu; omega, fun H7 p e7 hp => ?_⟩
              have hb7 := e7 _ _ hb6
              refine ⟨_, hb7, ly_lt (by omega), bs ++ [p], (e6.trans e7).mut hdl, by rw [upd_same]; simp [refs], ?_, by simp [hbl]⟩
              rw [tk]
              exact ((hR6.ex e7).lst hb7).snoc (sqt_lst hb7 hp)
            · rintro H6 ⟨bs, e6, hb6, hR6, hbl⟩
              rw [rl3, List.take_length] at hR6
              walk_at "go"
              exact ⟨m, dl, bs, ts.map fun t => t.rpl g, _, _, _, rfl, st5.ex e6, ndl, nhl, hb6, hR6, by rw [List.length_map]; exact htl5, fun t ht => by
                obtain ⟨u, hu, rfl⟩ := List.mem_map.mp ht
                rw [rpl_len1 hg1]
                exact (hts u hu).2⟩
        · walk_at "go"
          exact ⟨m4, d0, as, ts, _, _, _, rfl, st4, nd0, by rw [hm4]; exact nh0, hd4, hT4, htl5, fun t ht => (hts t ht).2⟩
      · clear st3 hd3 hT3
        rintro σ' H4 ⟨m4, dl, as, ts, y4, y5, y6, rfl, st4, nds, ndh, hd4, hT4, htl5, hts⟩
        have ndk : ∀ xs ∈ ts.map Kt.enc, xs.length ≤ 1000 ∧ ∀ x ∈ xs, NodeK x := fun xs h => by
          obtain ⟨t, ht, rfl⟩ := List.mem_map.mp h
          exact ⟨by have := hts t ht; omega, t.nodes⟩
        have tl5 : (ts.map Kt.enc).length ≤ 1000 := by rw [List.length_map]; omega
        obtain ⟨rs, hrs, hrl, hrM, hi1, hi2⟩ := ren_inst ts
        have hrs9 := hrM 9 hts
        have ndr : ∀ xs ∈ rs.map Kt.enc, xs.length ≤ 1000 ∧ ∀ x ∈ xs, NodeK x := fun xs h => by
          obtain ⟨t, ht, rfl⟩ := List.mem_map.mp h
          exact ⟨by have := hrs9 t ht; omega, t.nodes⟩
        have rl5 : (rs.map Kt.enc).length ≤ 1000 := by rw [List.length_map]; omega
        have hidem := renRows_idem (ts.map Kt.enc)
        rw [hrs] at hidem
        walk_at "go"
        intro gl hgl
        have e5 := Ex.new hgl (o := .lst (refs as))
        have hg5 : upd H4 gl (.lst (refs as)) gl = some (.lst (refs as)) := upd_same
        have ngs := (st4.ne hgl).1
        have st5 := st4.ex e5
        generalize upd H4 gl (.lst (refs as)) = H5 at *
        have hd5 := e5 _ _ hd4
        have hT5 := hT4.ex e5
        clear hd4 hT4 st4 e5 hgl
        walk_at "go"
        refine ⟨gl, as, _, rfl, hg5, hT5, tl5, ndk, fun H6 al bs e6 hal0 hal hR6 => ?_⟩
        rw [hrs] at hR6
        have hg6 := e6 _ _ hg5
        have hd6 := e6 _ _ hd5
        have hT6 := hT5.ex e6
        have st6 := st5.ex e6
        clear hg5 hd5 hT5 st5
        walk_at "go"
        refine ⟨dl, as, _, rfl, hd6, hT6, tl5, ndk, fun H7 pl2 bs2 e7 _ hp7 hR7b => ?_⟩
        rw [hrs] at hR7b
        have hg7 := e7 _ _ hg6
        have hd7 := e7 _ _ hd6
        have hT7 := hT6.ex e7
        have st7 := st6.ex e7
        have ha7 := e7 _ _ hal
        have hR7 := hR6.ex e7
        clear hg6 hd6 hT6 st6 hal hR6
        refine w_neR ha7 hp7 hR7 hR7b (nds_kts rs) ?_
        walk_at "go"
        refine w_neR hg7 hd7 hT7 hT7 (nds_kts ts) ?_
        walk_at "go"
        refine ⟨gl, as, _, rfl, hg7, hT7, tl5, ndk, fun H8 sl bs3 e8 hsl hs8 hR8 => ?_⟩
        have hg8 := e8 _ _ hg7
        have hd8 := e8 _ _ hd7
        have hT8 := hT7.ex e8
        have st8 := st7.ex e8
        have ha8 := e8 _ _ ha7
        have hR8a := hR7.ex e8
        have nsg : gl ≠ sl := ne_of_none hg7 hsl
        have nsd : dl ≠ sl := ne_of_none hd7 hsl
        have nsa : al ≠ sl := ne_of_none ha7 hsl
        have nss := (st7.ne hsl).1
        have nsh := (st7.ne hsl).2
        have lb3 : (refs bs3).length ≤ 1000 := by
          rw [hrs] at hR8
          rw [List.length_map, hR8.len, List.length_map]
          omega
        clear hg7 hd7 hT7 st7 ha7 hR7 hR8 e8 hsl hp7 hR7b
        walk_at "go"
        intro zp hzp
        have e9 := Ex.new hzp (o := .tup [V.int 0])
        generalize upd H8 zp (.tup [V.int 0]) = H9 at *
        have hs9 := e9 _ _ hs8
        have hg9 := e9 _ _ hg8
        have hd9 := e9 _ _ hd8
        have hT9 := hT8.ex e9
        have st9 := st8.ex e9
        have ha9 := e9 _ _ ha8
        have hR9 := hR8a.ex e9
        clear hs8 hg8 hd8 hT8 st8 ha8 hR8a e9
        walk_at "go"
        have hg10 : upd H9 sl (.lst (refs bs3 ++ [V.ref zp])) gl = some (.lst (refs as)) := by rw [upd_ne nsg]; exact hg9
        have hd10 : upd H9 sl (.lst (refs bs3 ++ [V.ref zp])) dl = some (.lst (refs as)) := by rw [upd_ne nsd]; exact hd9
        have ha10 : upd H9 sl (.lst (refs bs3 ++ [V.ref zp])) al = some (.lst (refs bs)) := by rw [upd_ne nsa]; exact ha9
        have hT10 := hT9.lst (zs := refs bs3 ++ [V.ref zp]) hs9
        have hR10 := hR9.lst (zs := refs bs3 ++ [V.ref zp]) hs9
        have st10 := st9.put (o := .lst (refs bs3 ++ [V.ref zp])) nss nsh
        generalize upd H9 sl (.lst (refs bs3 ++ [V.ref zp])) = H10 at *
        clear hs9 hg9 hd9 ha9 hT9 hR9 st9
        refine w_neR hg10 hd10 hT10 hT10 (nds_kts ts) ?_
        walk_at "go"
        refine ⟨gl, as, _, rfl, hg10, hT10, tl5, ndk, fun H11 p11 b11 e11 _ hp11 hR11 => ?_⟩
        rw [hrs] at hR11
        have hg11 := e11 _ _ hg10
        have hd11 := e11 _ _ hd10
        have ha11 := e11 _ _ ha10
        have hT11 := hT10.ex e11
        have hRa11 := hR10.ex e11
        have st11 := st10.ex e11
        clear hg10 hd10 ha10 hT10 hR10 st10 e11
        walk_at "go"
        refine w_neR hp11 ha11 hR11 hRa11 (nds_kts rs) ?_
        walk_at "go"
        refine ⟨al, bs, _, rfl, ha11, hRa11, rl5, ndr, fun H12 p12 b12 e12 _ hp12 hR12 => ?_⟩
        rw [hidem] at hR12
        have hg12 := e12 _ _ hg11
        have hd12 := e12 _ _ hd11
        have ha12 := e12 _ _ ha11
        have hT12 := hT11.ex e12
        have hRa12 := hRa11.ex e12
        have st12 := st11.ex e12
        clear hg11 hd11 ha11 hT11 hRa11 st11 e12 hp11 hR11
        walk_at "go"
        refine w_neR hp12 ha12 hR12 hRa12 (nds_kts rs) ?_
        walk_at "go"
        refine ⟨al, gl, bs, as, rs, ts, rfl, ha12, hg12, hRa12, hT12, by omega, by omega, fun t ht => by have := hrs9 t ht; omega, fun t ht => by have := hts t ht; omega, fun H13 e13 => ?_⟩
        rw [hi1, decide_eq_true hrl, Bool.and_self]
        have hg13 := e13 _ _ hg12
        have hd13 := e13 _ _ hd12
        have ha13 := e13 _ _ ha12
        have hT13 := hT12.ex e13
        have hRa13 := hRa12.ex e13
        have st13 := st12.ex e13
        clear hg12 hd12 ha12 hT12 hRa12 st12 e13 hp12 hR12
        walk_at "go"
        refine ⟨gl, al, as, bs, ts, rs, rfl, hg13, ha13, hT13, hRa13, by omega, by omega, fun t ht => by have := hts t ht; omega, fun t ht => by have := hrs9 t ht; omega, fun H14 e14 => ?_⟩
        rw [hi2, decide_eq_true hrl.symm, Bool.and_self]
        have hg14 := e14 _ _ hg13
        have hd14 := e14 _ _ hd13
        have hT14 := hT13.ex e14
        have st14 := st13.ex e14
        clear hg13 hd13 ha13 hT13 hRa13 st13 e14
        walk_at "go"
        intro td htd
        have nts := (st14.ne htd).1
        have nth := (st14.ne htd).2
        have ntg : gl ≠ td := ne_of_none hg14 htd
        have ntd : dl ≠ td := ne_of_none hd14 htd
        have ngs2 : gl ≠ s1 := ngs
        walk_at "go"
        refine for_list (K := K) (a := dl) (xs := refs as) (fun k σ H' => ∃ (m : Stm) (kvs : List (L2.Key × V)) (g : Nat → Option Kt) (y6 y11 : Option V), σ = [some (.ref a), some (.ref s1), some (.int n2), some (.ref dl), y4, y5, y6, some (.ref gl), some (.ref al), some (.ref sl), some (.ref td), y11, none, none, none, none, none] ∧ StAt H' s1 m ∧ m.home = m4.home ∧ H' td = some (.dK kvs) ∧ Tab K H' kvs g ∧ kvs.length ≤ 1000 * k ∧ (∀ n u, g n = some u → u.enc.length ≤ 4) ∧ H' dl = some (.lst (refs as)) ∧ H' gl = some (.lst (refs as)) ∧ Rws K H' as (ts.map Kt.enc))
          ⟨m4, [], fun _ => none, y6, none, rfl, st14.new htd, rfl, upd_same, Tab.nil, Nat.zero_le _, (fun n u h => by cases h), by rw [upd_ne ntd]; exact hd14, by rw [upd_ne ntg]; exact hg14, hT14.mono fun _ _ z => ex_t (Ex.new htd) z⟩ (fun k σ H' _ ⟨_, _, _, _, _, _, _, _, _, _, _, _, h, _⟩ => SqL.of h) ?_ ?_
        · clear hg14 hd14 hT14 st14
          rintro k v σ H15 hk ⟨m5, kvs, g, y6, y11, rfl, st15, hm15, ht15, hTb, hkl, hg4, hd15, hg15, hT15⟩
          obtain ⟨ra, ys, rfl, hys, hra⟩ := hT15.at_ hk
          rw [List.getElem?_map] at hys
          obtain ⟨t, ht, rfl⟩ := Option.map_eq_some_iff.mp hys
          have htl9 := hts t (List.mem_of_getElem? ht)
          have hkt5 : k < ts.length := (List.getElem?_eq_some_iff.mp ht).1
          walk_at "go"
          refine for_tup (K := K) (a := ra) (xs := t.enc) (fun i σ H' => ∃ (m : Stm) (kvs : List (L2.Key × V)) (g : Nat → Option Kt) (y11 : Option V), σ = [some (.ref a), some (.ref s1), some (.int n2), some (.ref dl), y4, y5, some (.ref ra), some (.ref gl), some (.ref al), some (.ref sl), some (.ref td), y11, none, none, none, none, none] ∧ StAt H' s1 m ∧ m.home = m4.home ∧ H' td = some (.dK kvs) ∧ Tab K H' kvs g ∧ kvs.length ≤ 1000 * k + i ∧ (∀ n u, g n = some u → u.enc.length ≤ 4) ∧ H' dl = some (.lst (refs as)) ∧ H' gl = some (.lst (refs as)) ∧ Rws K H' as (ts.map Kt.enc) ∧ SqT K H' ra t.enc)
            ⟨m5, kvs, g, y11, rfl, st15, hm15, ht15, hTb, by omega, hg4, hd15, hg15, hT15, hra⟩ (fun i σ H' _ ⟨_, _, _, _, _, _, _, _, _, _, _, _, _, _, h⟩ => h) ?_ ?_
          · clear st15 hm15 ht15 hTb hkl hg4 hd15 hg15 hT15 hra
            rintro i x σ H15 hi ⟨m5, kvs, g, y11, rfl, st15, hm15, ht15, hTb, hkl, hg4, hd15, hg15, hT15, hra⟩
            have hil : i < t.enc.length := (List.getElem?_eq_some_iff.mp hi).1
            walk_at "go"
            rcases t.nodes x (List.mem_of_getElem? hi) with ⟨n, rfl⟩ | rfl
            · walk_at "go"
              refine ⟨s1, m5, 4, rfl, st15, by decide, by decide, fun H16 fr16 st16 => ?_⟩
              have gm16 : (m5.next 4).home = m4.home := (Fol.next m5 4).1.trans hm15
              have v16 := m5.val_lt (n := 4) (by decide)
              generalize m5.val 4 = i16 at *
              generalize m5.next 4 = m16 at *
              walk_at "go"
              refine ⟨s1, m16, (1 + i16).toNat, 4, by rw [Int.toNat_of_nonneg (by omega)]; rfl, st16, by omega, by omega, by decide, by decide, fun H17 p m17 t17 fr17 st17 fol17 hp hw hl17 => ?_⟩
              have fr := fr16.trans fr17
              have ht17 := fr _ _ nts ht15
              have hd17 := fr _ _ nds hd15
              have hg17 := fr _ _ ngs2 hg15
              have mm : ∀ b xs, SqT K H15 b xs → SqT K H17 b xs := fun b xs z => fr_t fr17 st16.2.1 (fr_t fr16 st15.2.1 z)
              have hm17 : m17.home = m4.home := fol17.1.trans gm16
              have lp := length_putK kvs (.inl (n : Int)) (.ref p)
              have md : ∀ b xs, SqT K H17 b xs → SqT K (upd H17 td (.dK (putK kvs (.inl (n : Int)) (.ref p)))) b xs := fun b xs z => sqt_dic ht17 z
              walk_at "go"
              refine w_dput ht17 (ly_lt (by omega)) ?_
              exact ⟨m17, _, setG g n t17, _, rfl, st17.put nts (by rw [hm17]; exact nth), hm17, upd_same, ((hTb.mono mm).put hp).mono md, by omega, fun n2 u hu => by
                unfold setG at hu
                split at hu
                · cases hu
                  omega
                · exact hg4 n2 u hu, by rw [upd_ne ntd]; exact hd17, by rw [upd_ne ntg]; exact hg17, hT15.mono fun _ _ z => md _ _ (mm _ _ z), md _ _ (mm _ _ hra)⟩
            · walk_at "go"
              exact ⟨m5, kvs, g, _, rfl, st15, hm15, ht15, hTb, by omega, hg4, hd15, hg15, hT15, hra⟩
          · clear st15 hm15 ht15 hTb hkl hg4 hd15 hg15 hT15 hra
            rintro σ H15 ⟨m5, kvs, g, y11, rfl, st15, hm15, ht15, hTb, hkl, hg4, hd15, hg15, hT15, hra⟩
            walk_at "go"
            exact ⟨m5, kvs, g, _, _, rfl, st15, hm15, ht15, hTb, by omega, hg4, hd15, hg15, hT15⟩
        · clear hg14 hd14 hT14 st14
          rintro σ H15 ⟨m5, kvs, g, y6, y11, rfl, st15, hm15, ht15, hTb, hkl, hg4, hd15, hg15, hT15⟩
          walk_at "go"
          intro ol hol
          have nol := (st15.ne hol).1
          have noh := (st15.ne hol).2
          have nod : dl ≠ ol := ne_of_none hd15 hol
          have nog : gl ≠ ol := ne_of_none hg15 hol
          refine lc_list (K := K) (a := dl) (xs := refs as) (fun k H' => ∃ (bs : List Addr), Ex H15 H' ∧ H' ol = some (.lst (refs bs)) ∧ Rws K H' bs (((ts.take k).map fun t => t.rpl g).map Kt.enc) ∧ bs.length = k) ⟨[], Ex.new hol, upd_same, .nil, rfl⟩ (fun k H' _ ⟨_, e, _⟩ => SqL.of (e _ _ hd15)) ?_ ?_
          · rintro k v H16 hk ⟨bs, e6, hb6, hR6, hbl⟩
            obtain ⟨ra, ys, rfl, hys, hra⟩ := hT15.at_ hk
            rw [List.getElem?_map] at hys
            obtain ⟨t, ht, rfl⟩ := Option.map_eq_some_iff.mp hys
            have hkt : k < ts.length := (List.getElem?_eq_some_iff.mp ht).1
            have nbl : (refs bs).length ≤ 100 := by rw [List.length_map]; omega
            have tk : ((ts.take (k + 1)).map fun t => t.rpl g).map Kt.enc = ((ts.take k).map fun t => t.rpl g).map Kt.enc ++ [(t.rpl g).enc] := by rw [List.take_add_one, ht]; simp
            walk_at "go"
            refine ⟨ra, td, t, kvs, g, rfl, ex_t e6 hra, e6 _ _ ht15, hTb.mono (fun _ _ z => ex_t e6 z), by have := hts t (List.mem_of_getElem? ht); omega, fun n u hu => by have := hg4 n u hu; omega, fun H7 p e7 hp => ?_⟩
            have hb7 := e7 _ _ hb6
            refine ⟨_, hb7, ly_lt (by omega), bs ++ [p], (e6.trans e7).mut hol, by rw [upd_same]; simp [refs], ?_, by simp [hbl]⟩
            rw [tk]
            exact ((hR6.ex e7).lst hb7).snoc (sqt_lst hb7 hp)
          · rintro H16 ⟨bs, e6, hb6, hR6, hbl⟩
            have ral : (refs as).length = ts.length := by rw [List.length_map, hT15.len, List.length_map]
            rw [ral, List.take_length] at hR6
            have hd16 := e6 _ _ hd15
            have hg16 := e6 _ _ hg15
            have hT16 := hT15.ex e6
            have st16 := st15.ex e6
            have hus0 : ∀ u ∈ ts.map fun t => t.rpl g, u.enc.length ≤ 36 := fun u hu => by
              obtain ⟨t, ht, rfl⟩ := List.mem_map.mp hu
              have z := rpl_len4 (by decide) hg4 t
              have z2 := hts t ht
              omega
            have hul0 : (ts.map fun t => t.rpl g).length ≤ 5 := by rw [List.length_map]; exact htl5
            generalize (ts.map fun t => t.rpl g) = us at *
            clear hd15 hg15 hT15 st15 hTb ht15 e6
            walk_at "go"
            refine ⟨s1, m5, 3, rfl, st16, by decide, by decide, fun H17 fr17 st17 => ?_⟩
            have hd17 := fr17 _ _ nds hd16
            have hg17 := fr17 _ _ ngs2 hg16
            have hb17 := fr17 _ _ nol hb6
            have hT17 := hT16.mono fun a xs z => fr_t fr17 st16.2.1 z
            have hR17 := hR6.mono fun a xs z => fr_t fr17 st16.2.1 z
            have gm17 : (m5.next 3).home = m5.home := (Fol.next m5 3).1
            generalize m5.val 3 = n17 at *
            generalize m5.next 3 = m17 at *
            clear hd16 hg16 hT16 hR6 hb6 st16 fr17
            have rbl : (refs bs).length = us.length := by rw [List.length_map, hR17.len, List.length_map]
            walk_at "go"
            refine w_cut (M := fun σ' H' => ∃ (m : Stm) (bs : List Addr) (us : List Kt) (y14 : Option V), σ' = [some (.ref a), some (.ref s1), some (.int n2), some (.ref dl), y4, y5, y6, some (.ref gl), some (.ref al), some (.ref sl), some (.ref td), y11, some (.ref ol), some (.int n17), y14, none, none] ∧ StAt H' s1 m ∧ H' dl = some (.lst (refs as)) ∧ H' gl = some (.lst (refs as)) ∧ Rws K H' as (ts.map Kt.enc) ∧ H' ol = some (.lst (refs bs)) ∧ Rws K H' bs (us.map Kt.enc) ∧ us.length ≤ 5 ∧ ∀ u ∈ us, u.enc.length ≤ 36) ?_ ?_
            · walk_at "go"
              refine w_brI (fun c0 => ?_) (fun c0 => ?_)
              · walk_at "go"
                cases bs with
                | nil =>
                  rw [show (!(refs ([] : List Addr)).isEmpty) = false from rfl]
                  walk_at "go"
                  exact ⟨m17, [], us, _, rfl, st17, hd17, hg17, hT17, hb17, hR17, hul0, hus0⟩
                | cons b0 bs =>
                  rw [show (!(refs (b0 :: bs)).isEmpty) = true from rfl]
                  have lpos : 1 ≤ us.length := by rw [← rbl]; simp
                  walk_at "go"
                  refine ⟨s1, m17, ((refs (b0 :: bs)).length : Int), rfl, st17, by omega, by omega, fun H18 fr18 st18 => ?_⟩
                  have v18 := m17.val_lt (n := ((refs (b0 :: bs)).length : Int)) (by omega)
                  have gm18 : (m17.next ((refs (b0 :: bs)).length : Int)).home = m5.home := (Fol.next m17 _).1.trans gm17
                  have ff := fr18
                  generalize m17.val ((refs (b0 :: bs)).length : Int) = n18 at *
                  generalize m17.next ((refs (b0 :: bs)).length : Int) = m18 at *
                  walk_at "go"
                  refine ⟨s1, m18, 9, rfl, st18, by decide, by decide, fun H19 fr19 st19 => ?_⟩
                  have v19 := m18.val_lt (n := 9) (by decide)
                  have gm19 : (m18.next 9).home = m5.home := (Fol.next m18 9).1.trans gm18
                  generalize m18.val 9 = n19 at *
                  generalize m18.next 9 = m19 at *
                  walk_at "go"
                  refine ⟨s1, m19, (1 + n19).toNat, 4, by rw [Int.toNat_of_nonneg (by omega)]; rfl, st19, by omega, by omega, by decide, by decide, fun H20 p m20 t20 fr20 st20 fol20 hp hw hl20 => ?_⟩
                  have fr := (fr18.trans fr19).trans fr20
                  have mm : ∀ b xs, SqT K H17 b xs → SqT K H20 b xs := fun b xs z => fr_t fr20 st19.2.1 (fr_t fr19 st18.2.1 (fr_t fr18 st17.2.1 z))
                  have hd20 := fr _ _ nds hd17
                  have hg20 := fr _ _ ngs2 hg17
                  have hb20 := fr _ _ nol hb17
                  walk_at "go"
                  refine w_setL hb20 (j := n18.toNat) (by unfold ixN; rw [if_pos (by omega), if_pos (by omega)]) ?_
                  have gm20 : m20.home = m5.home := fol20.1.trans gm19
                  have er : (refs (b0 :: bs)).set n18.toNat (.ref p) = refs ((b0 :: bs).set n18.toNat p) := by simp [refs, List.map_set]
                  rw [er]
                  have er2 : (us.map Kt.enc).set n18.toNat t20.enc = (us.set n18.toNat t20).map Kt.enc := by rw [List.map_set]
                  have hs20 := ((hR17.mono mm).set hp n18.toNat).lst (zs := refs ((b0 :: bs).set n18.toNat p)) hb20
                  rw [er2] at hs20
                  exact ⟨m20, (b0 :: bs).set n18.toNat p, us.set n18.toNat t20, _, rfl, st20.put nol (by rw [gm20]; exact noh), by rw [upd_ne nod]; exact hd20, by rw [upd_ne nog]; exact hg20, (hT17.mono mm).lst hb20, upd_same, hs20, by rw [List.length_set]; exact hul0, fun u hu => by
                    rcases List.mem_or_eq_of_mem_set hu with h | rfl
                    · exact hus0 u h
                    · omega⟩
              · walk_at "go"
                exact ⟨m17, bs, us, _, rfl, st17, hd17, hg17, hT17, hb17, hR17, hul0, hus0⟩
            · clear hd17 hg17 hT17 hb17 hR17 st17 gm17 rbl hul0 hus0
              rintro σ' H18 ⟨m18, bs, us, y14, rfl, st18, hd18, hg18, hT18, hb18, hR18, hul, hus⟩
              walk_at "go"
              refine w_cut (M := fun σ' H' => ∃ (ol : Addr) (bs : List Addr) (us : List Kt), σ' = [some (.ref a), some (.ref s1), some (.int n2), some (.ref dl), y4, y5, y6, some (.ref gl), some (.ref al), some (.ref sl), some (.ref td), y11, some (.ref ol), some (.int n17), y14, none, none] ∧ H' dl = some (.lst (refs as)) ∧ H' gl = some (.lst (refs as)) ∧ Rws K H' as (ts.map Kt.enc) ∧ H' ol = some (.lst (refs bs)) ∧ Rws K H' bs (us.map Kt.enc) ∧ us.length ≤ 5 ∧ ∀ u ∈ us, u.enc.length ≤ 36) ?_ ?_
              · walk_at "go"
                refine w_brI (fun c0 => ?_) (fun c0 => ?_)
                · walk_at "go"
                  refine ⟨s1, m18, 5, rfl, st18, by decide, by decide, fun H19 fr19 st19 => ?_⟩
                  have v19 := m18.val_lt (n := 5) (by decide)
                  have hd19 := fr19 _ _ nds hd18
                  have hg19 := fr19 _ _ ngs2 hg18
                  have hT19 := hT18.mono fun a xs z => fr_t fr19 st18.2.1 z
                  generalize m18.val 5 = n19 at *
                  generalize m18.next 5 = m19 at *
                  clear hd18 hg18 hT18 hb18 hR18 st18 fr19 hul hus
                  walk_at "go"
                  intro d9 hd9
                  have nd9 := (st19.ne hd9).1
                  have nh9 := (st19.ne hd9).2
                  have ngd9 : gl ≠ d9 := ne_of_none hg19 hd9
                  have ndd9 : dl ≠ d9 := ne_of_none hd19 hd9
                  refine lc_range (lo := 0) (n := n19.toNat) (fun i H' => ∃ m as2 ts2, m.home = m19.home ∧ StAt H' s1 m ∧ H' d9 = some (.lst (refs as2)) ∧ Rws K H' as2 ((ts2 : List Kt).map Kt.enc) ∧ ts2.length ≤ i ∧ (∀ t ∈ ts2, t.enc.length ≤ 36) ∧ H' dl = some (.lst (refs as)) ∧ H' gl = some (.lst (refs as)) ∧ Rws K H' as (ts.map Kt.enc))
                    ⟨m19, [], [], rfl, st19.new hd9, upd_same, .nil, Nat.le_refl _, (by simp), by rw [upd_ne ndd9]; exact hd19, by rw [upd_ne ngd9]; exact hg19, hT19.mono fun _ _ z => ex_t (Ex.new hd9) z⟩ ?_ ?_
                  · clear hd19 hg19 hT19 st19
                    rintro i H8 hi ⟨m, as2, ts2, hm, st, hd, hT, htl, hts2, hdl8, hgl8, hT8⟩
                    have hal := hT.len
                    rw [List.length_map] at hal
                    have rl : (refs as2).length = as2.length := List.length_map _
                    walk_at "go"
                    refine ⟨s1, m, 5, rfl, st, by decide, by decide, fun H9 fr9 st9 => ?_⟩
                    have gm9 : (m.next 5).home = m.home := (Fol.next m 5).1
                    have v9 := m.val_lt (n := 5) (by decide)
                    generalize m.val 5 = i9 at *
                    generalize m.next 5 = m9 at *
                    walk_at "go"
                    refine ⟨s1, m9, (1 + i9).toNat, 3, by rw [Int.toNat_of_nonneg (by omega)]; rfl, st9, by omega, by omega, by decide, by decide, fun H10 p m10 t fr10 st10 fol10 hp hw hl => ?_⟩
                    have fr := fr9.trans fr10
                    have mm : ∀ b xs, SqT K H8 b xs → SqT K H10 b xs := fun b xs z => fr_t fr10 st9.2.1 (fr_t fr9 st.2.1 z)
                    have hd10 := fr _ _ nd9 hd
                    have hme : m10.home = m19.home := (fol10.1.trans gm9).trans hm
                    refine ⟨refs as2, hd10, ly_lt (by omega), m10, as2 ++ [p], ts2 ++ [t], hme, st10.put nd9 (by rw [hme]; exact nh9), by rw [upd_same]; simp [refs], ?_, by rw [List.length_append, List.length_singleton]; omega, ?_, by rw [upd_ne ndd9]; exact fr _ _ nds hdl8, by rw [upd_ne ngd9]; exact fr _ _ ngs2 hgl8, (hT8.mono mm).lst hd10⟩
                    · rw [List.map_append]
                      exact ((hT.mono mm).lst hd10).snoc (sqt_lst hd10 hp)
                    intro u hu
                    rcases List.mem_append.mp hu with h | h
                    · exact hts2 u h
                    · rw [List.mem_singleton.mp h]
                      omega
                  · clear hd19 hg19 hT19 st19
                    rintro H20 ⟨m, as2, ts2, hm, st, hd, hT, htl, hts2, hdl8, hgl8, hT8⟩
                    walk_at "go"
                    exact ⟨d9, as2, ts2, rfl, hdl8, hgl8, hT8, hd, hT, by omega, hts2⟩
                · walk_at "go"
                  exact ⟨ol, bs, us, rfl, hd18, hg18, hT18, hb18, hR18, hul, hus⟩
              · clear hd18 hg18 hT18 hb18 hR18 st18 hul hus
                rintro σ' H19 ⟨ol, bs, us, rfl, hd19, hg19, hT19, hb19, hR19, hul, hus⟩
                walk_at "go"
                intro kl hkl9
                have e20 := Ex.new hkl9 (o := .lst (refs bs))
                have hk20 : upd H19 kl (.lst (refs bs)) kl = some (.lst (refs bs)) := upd_same
                generalize upd H19 kl (.lst (refs bs)) = H20 at *
                have hd20 := e20 _ _ hd19
                have hg20 := e20 _ _ hg19
                have hb20 := e20 _ _ hb19
                have hT20 := hT19.ex e20
                have hR20 := hR19.ex e20
                walk_at "go"
                refine ⟨gl, ol, as, bs, ts, us, rfl, hg20, hb20, hT20, hR20, by omega, by omega, fun t ht => by have := hts t ht; omega, fun t ht => by have := hus t ht; omega, fun H21 e21 => ?_⟩
                walk_at "go"
                refine ⟨dl, kl, as, bs, ts, us, rfl, e21 _ _ hd20, e21 _ _ hk20, hT20.ex e21, hR20.ex e21, by omega, by omega, fun t ht => by have := hts t ht; omega, fun t ht => by have := hus t ht; omega, fun H22 e22 => ?_⟩
                have e3 := e21.trans e22
                walk_at "go"
                refine w_eqR (e3 _ _ hb20) (e3 _ _ hk20) (hR20.ex e3) (hR20.ex e3) (nds_kts us) ?_
                walk_at "go"
                refine w_eqR (e3 _ _ hg20) (e3 _ _ hd20) (hT20.ex e3) (hT20.ex e3) (nds_kts ts) ?_
                exact q _
end
end Ly
set_option Elab.async false
set_option linter.all false
set_option maxRecDepth 100000
set_option maxHeartbeats 8000000
namespace Ly
open PySem PySem.Spec PyProof.Rows L2 Evl

/-! ### what the top has left; the head -/
theorem all_mk {l : PySem.W.OpenLaw} {w : World} {K : PySem.W.Frag} {h : Heap} {mg : Str → Option Value} {fa f1 f2 f3 f4 f5 f6 f7 f8 f9 f10 f11 f12 f13 f14 f15 f16 f17 f18 f19 cc40 cc23 : Addr} (X : K.In h) (G : h.Ns mainGlobals mg) (hfa : mg "law" = some (.ref fa))
    {od1 an1 od2 an2 od3 an3 od4 an4 od5 an5 od6 an6 od7 an7 od8 an8 od9 an9 od10 an10 od11 an11 od12 an12 od13 an13 od14 an14 od15 an15 od16 an16 od17 an17 od18 an18 od19 an19 : Option Addr} {sl1 sl2 sl3 sl4 sl5 sl6 sl7 sl8 sl9 sl10 sl11 sl12 sl13 sl14 sl15 sl16 sl17 sl18 sl19 : Array (Option Value)} {oc1 kV1 dc1 pm1 cd1 ct1 oc2 kV2 dc2 pm2 cd2 ct2 oc3 kV3 dc3 pm3 cd3 ct3 oc4 kV4 dc4 pm4 cd4 ct4 oc5 kV5 dc5 pm5 cd5 ct5 oc6 kV6 dc6 pm6 cd6 ct6 oc7 kV7 dc7 pm7 cd7 ct7 oc8 kV8 dc8 pm8 cd8 ct8 oc9 kV9 dc9 pm9 cd9 ct9 oc10 kV10 dc10 pm10 cd10 ct10 oc11 kV11 dc11 pm11 cd11 ct11 oc12 kV12 dc12 pm12 cd12 ct12 oc13 kV13 dc13 pm13 cd13 ct13 oc14 kV14 dc14 pm14 cd14 ct14 oc15 kV15 dc15 pm15 cd15 ct15 oc16 kV16 dc16 pm16 cd16 ct16 oc17 kV17 dc17 pm17 cd17 ct17 oc18 kV18 dc18 pm18 cd18 ct18 oc19 kV19 dc19 pm19 cd19 ct19 : Value} 
    (a1 : PySem.W.nsIn K mainGlobals "_law_draw" = some (some (.ref f1))) (l1 : K.lookup f1 = some ⟨oc1, od1, .func (PySem.W.fnOf "_law_draw" "_law_draw" (defArgs s_law_draw) (defBody s_law_draw) (defScope s_law_draw) .none kV1 dc1 pm1 an1 cd1 ct1), sl1⟩) (c1 : PySem.W.codeIn K cd1 "_law_draw" = true) (k1 : PySem.W.keepIn K (.ref f1) = true)
    (a2 : PySem.W.nsIn K mainGlobals "_law_stream" = some (some (.ref f2))) (l2 : K.lookup f2 = some ⟨oc2, od2, .func (PySem.W.fnOf "_law_stream" "_law_stream" (defArgs s_law_stream) (defBody s_law_stream) (defScope s_law_stream) .none kV2 dc2 pm2 an2 cd2 ct2), sl2⟩) (c2 : PySem.W.codeIn K cd2 "_law_stream" = true) (k2 : PySem.W.keepIn K (.ref f2) = true)
    (a3 : PySem.W.nsIn K mainGlobals "_law_kind" = some (some (.ref f3))) (l3 : K.lookup f3 = some ⟨oc3, od3, .func (PySem.W.fnOf "_law_kind" "_law_kind" (defArgs s_law_kind) (defBody s_law_kind) (defScope s_law_kind) .none kV3 dc3 pm3 an3 cd3 ct3), sl3⟩) (c3 : PySem.W.codeIn K cd3 "_law_kind" = true) (k3 : PySem.W.keepIn K (.ref f3) = true)
    (a4 : PySem.W.nsIn K mainGlobals "renamed" = some (some (.ref f4))) (l4 : K.lookup f4 = some ⟨oc4, od4, .func (PySem.W.fnOf "renamed" "renamed" (defArgs s_renamed) (defBody s_renamed) (defScope s_renamed) .none kV4 dc4 pm4 an4 cd4 ct4), sl4⟩) (c4 : PySem.W.codeIn K cd4 "renamed" = true) (k4 : PySem.W.keepIn K (.ref f4) = true)
    (a5 : PySem.W.nsIn K mainGlobals "_law_renamed" = some (some (.ref f5))) (l5 : K.lookup f5 = some ⟨oc5, od5, .func (PySem.W.fnOf "_law_renamed" "_law_renamed" (defArgs s_law_renamed) (defBody s_law_renamed) (defScope s_law_renamed) .none kV5 dc5 pm5 an5 cd5 ct5), sl5⟩) (c5 : PySem.W.codeIn K cd5 "_law_renamed" = true) (k5 : PySem.W.keepIn K (.ref f5) = true)
    (a6 : PySem.W.nsIn K mainGlobals "part_count" = some (some (.ref f6))) (l6 : K.lookup f6 = some ⟨oc6, od6, .func (PySem.W.fnOf "part_count" "part_count" (defArgs s_part_count) (defBody s_part_count) (defScope s_part_count) .none kV6 dc6 pm6 an6 cd6 ct6), sl6⟩) (c6 : PySem.W.codeIn K cd6 "part_count" = true) (k6 : PySem.W.keepIn K (.ref f6) = true)
    (a7 : PySem.W.nsIn K mainGlobals "end_of" = some (some (.ref f7))) (l7 : K.lookup f7 = some ⟨oc7, od7, .func (PySem.W.fnOf "end_of" "end_of" (defArgs s_end_of) (defBody s_end_of) (defScope s_end_of) .none kV7 dc7 pm7 an7 cd7 ct7), sl7⟩) (c7 : PySem.W.codeIn K cd7 "end_of" = true) (k7 : PySem.W.keepIn K (.ref f7) = true)
    (a8 : PySem.W.nsIn K mainGlobals "_law_kind_end" = some (some (.ref f8))) (l8 : K.lookup f8 = some ⟨oc8, od8, .func (PySem.W.fnOf "_law_kind_end" "_law_kind_end" (defArgs s_law_kind_end) (defBody s_law_kind_end) (defScope s_law_kind_end) .none kV8 dc8 pm8 an8 cd8 ct8), sl8⟩) (c8 : PySem.W.codeIn K cd8 "_law_kind_end" = true) (k8 : PySem.W.keepIn K (.ref f8) = true)
    (a9 : PySem.W.nsIn K mainGlobals "_law_replaced" = some (some (.ref f9))) (l9 : K.lookup f9 = some ⟨oc9, od9, .func (PySem.W.fnOf "_law_replaced" "_law_replaced" (defArgs s_law_replaced) (defBody s_law_replaced) (defScope s_law_replaced) .none kV9 dc9 pm9 an9 cd9 ct9), sl9⟩) (c9 : PySem.W.codeIn K cd9 "_law_replaced" = true) (k9 : PySem.W.keepIn K (.ref f9) = true)
    (a10 : PySem.W.nsIn K mainGlobals "_law_is_instance" = some (some (.ref f10))) (l10 : K.lookup f10 = some ⟨oc10, od10, .func (PySem.W.fnOf "_law_is_instance" "_law_is_instance" (defArgs s_law_is_instance) (defBody s_law_is_instance) (defScope s_law_is_instance) .none kV10 dc10 pm10 an10 cd10 ct10), sl10⟩) (c10 : PySem.W.codeIn K cd10 "_law_is_instance" = true) (k10 : PySem.W.keepIn K (.ref f10) = true)
    (a11 : PySem.W.findIn K (.ref cc23) "__init__" = some (some (.ref f11))) (i11 : PySem.W.isFn K (.ref f11) = true) (l11 : K.lookup f11 = some ⟨oc11, od11, .func (PySem.W.fnOf "__init__" "KindGraph.__init__" (defArgs s_KindGraph_init) (defBody s_KindGraph_init) (defScope s_KindGraph_init) .none kV11 dc11 pm11 an11 cd11 ct11), sl11⟩) (c11 : PySem.W.codeIn K cd11 "KindGraph.__init__" = true) (k11 : PySem.W.keepIn K (.ref f11) = true)
    (a12 : PySem.W.findIn K (.ref cc23) "new_node" = some (some (.ref f12))) (i12 : PySem.W.isFn K (.ref f12) = true) (l12 : K.lookup f12 = some ⟨oc12, od12, .func (PySem.W.fnOf "new_node" "KindGraph.new_node" (defArgs s_KindGraph_new_node) (defBody s_KindGraph_new_node) (defScope s_KindGraph_new_node) .none kV12 dc12 pm12 an12 cd12 ct12), sl12⟩) (c12 : PySem.W.codeIn K cd12 "KindGraph.new_node" = true) (k12 : PySem.W.keepIn K (.ref f12) = true)
    (a13 : PySem.W.findIn K (.ref cc23) "chief" = some (some (.ref f13))) (i13 : PySem.W.isFn K (.ref f13) = true) (l13 : K.lookup f13 = some ⟨oc13, od13, .func (PySem.W.fnOf "chief" "KindGraph.chief" (defArgs s_KindGraph_chief) (defBody s_KindGraph_chief) (defScope s_KindGraph_chief) .none kV13 dc13 pm13 an13 cd13 ct13), sl13⟩) (c13 : PySem.W.codeIn K cd13 "KindGraph.chief" = true) (k13 : PySem.W.keepIn K (.ref f13) = true)
    (a14 : PySem.W.findIn K (.ref cc23) "sides_of" = some (some (.ref f14))) (i14 : PySem.W.isFn K (.ref f14) = true) (l14 : K.lookup f14 = some ⟨oc14, od14, .func (PySem.W.fnOf "sides_of" "KindGraph.sides_of" (defArgs s_KindGraph_sides_of) (defBody s_KindGraph_sides_of) (defScope s_KindGraph_sides_of) .none kV14 dc14 pm14 an14 cd14 ct14), sl14⟩) (c14 : PySem.W.codeIn K cd14 "KindGraph.sides_of" = true) (k14 : PySem.W.keepIn K (.ref f14) = true)
    (a15 : PySem.W.findIn K (.ref cc23) "loaded" = some (some (.ref f15))) (i15 : PySem.W.isFn K (.ref f15) = true) (l15 : K.lookup f15 = some ⟨oc15, od15, .func (PySem.W.fnOf "loaded" "KindGraph.loaded" (defArgs s_KindGraph_loaded) (defBody s_KindGraph_loaded) (defScope s_KindGraph_loaded) .none kV15 dc15 pm15 an15 cd15 ct15), sl15⟩) (c15 : PySem.W.codeIn K cd15 "KindGraph.loaded" = true) (k15 : PySem.W.keepIn K (.ref f15) = true)
    (a16 : PySem.W.findIn K (.ref cc23) "is_general" = some (some (.ref f16))) (i16 : PySem.W.isFn K (.ref f16) = true) (l16 : K.lookup f16 = some ⟨oc16, od16, .func (PySem.W.fnOf "is_general" "KindGraph.is_general" (defArgs s_KindGraph_is_general) (defBody s_KindGraph_is_general) (defScope s_KindGraph_is_general) .none kV16 dc16 pm16 an16 cd16 ct16), sl16⟩) (c16 : PySem.W.codeIn K cd16 "KindGraph.is_general" = true) (k16 : PySem.W.keepIn K (.ref f16) = true)
    (a17 : PySem.W.nsIn K mainGlobals "are_general" = some (some (.ref f17))) (l17 : K.lookup f17 = some ⟨oc17, od17, .func (PySem.W.fnOf "are_general" "are_general" (defArgs s_are_general) (defBody s_are_general) (defScope s_are_general) .none kV17 dc17 pm17 an17 cd17 ct17), sl17⟩) (c17 : PySem.W.codeIn K cd17 "are_general" = true) (k17 : PySem.W.keepIn K (.ref f17) = true)
    (a18 : PySem.W.nsIn K mainGlobals "is_instance" = some (some (.ref f18))) (l18 : K.lookup f18 = some ⟨oc18, od18, .func (PySem.W.fnOf "is_instance" "is_instance" (defArgs s_is_instance) (defBody s_is_instance) (defScope s_is_instance) .none kV18 dc18 pm18 an18 cd18 ct18), sl18⟩) (c18 : PySem.W.codeIn K cd18 "is_instance" = true) (k18 : PySem.W.keepIn K (.ref f18) = true)
    (a19 : PySem.W.nsIn K mainGlobals "law" = some (some (.ref f19))) (l19 : K.lookup f19 = some ⟨oc19, od19, .func (PySem.W.fnOf "law" "law" (defArgs s_law) (defBody s_law) (defScope s_law) .none kV19 dc19 pm19 an19 cd19 ct19), sl19⟩) (c19 : PySem.W.codeIn K cd19 "law" = true) (k19 : PySem.W.keepIn K (.ref f19) = true)
    (z_int : PySem.W.nsIn K mainGlobals "int" = some none)
    (z_list : PySem.W.nsIn K mainGlobals "list" = some none)
    (z_len : PySem.W.nsIn K mainGlobals "len" = some none)
    (z_abs : PySem.W.nsIn K mainGlobals "abs" = some none)
    (z_isinstance : PySem.W.nsIn K mainGlobals "isinstance" = some none)
    (z_tuple : PySem.W.nsIn K mainGlobals "tuple" = some none)
    (z_range : PySem.W.nsIn K mainGlobals "range" = some none)
    (z_zip : PySem.W.nsIn K mainGlobals "zip" = some none)
    (z_reversed : PySem.W.nsIn K mainGlobals "reversed" = some none)
    (z_all : PySem.W.nsIn K mainGlobals "all" = some none)
    (z_bool : PySem.W.nsIn K mainGlobals "bool" = some none)
    (e_PART_COUNTS : PySem.W.nsIn K mainGlobals "PART_COUNTS" = some (some (.ref cc40)))
    (e_KindGraph : PySem.W.nsIn K mainGlobals "KindGraph" = some (some (.ref cc23)))
    (y_d_PART_COUNTS : KD K w cc40 [("lam", .int 1), ("app", .int 2), ("to", .int 2)])
    (y_pg_KindGraph : PySem.W.plainGet K cc23 Str.empty = true)
    (y_hd_KindGraph : PySem.W.hasDictIn K cc23 = true)
    (y_po_KindGraph : PySem.W.plainOver K cc23 = true)
    (y_sa_KindGraph : PySem.W.findIn K (.ref cc23) "__setattr__" = some (some (.builtin "object.__setattr__")))
    (y_mk_KindGraph : PySem.W.makesIn K cc23 = true)
    (y_kc_KindGraph : PySem.W.keepIn K (.ref cc23) = true)
    (y_nf_KindGraph_chiefs : PySem.W.findIn K (.ref cc23) "chiefs" = some none)
    (y_nf_KindGraph_sides : PySem.W.findIn K (.ref cc23) "sides" = some none)
    : ∃ fd : FuncData, (∀ (s : Shared) (v : Value), BindsTo s fd ⟨[v], []⟩ [("script", v)]) ∧ ∀ base : Heap, K.In base → base.Ns mainGlobals mg → FnOk l.prog w K mg base CX0 40 fa fd ["script"] (spLaw K) := by
  have e := hfa.symm.trans (PySem.W.mg_of X G a19)
  cases e
  have T : Txt w K mg (fun n => match n with  | _ => 0) (fun n => match n with | 40 => cc40 | _ => cc23) := ⟨PySem.W.mg_none_of X G z_int, PySem.W.mg_none_of X G z_list, PySem.W.mg_none_of X G z_len, PySem.W.mg_none_of X G z_abs, PySem.W.mg_none_of X G z_isinstance, PySem.W.mg_none_of X G z_tuple, PySem.W.mg_none_of X G z_range, PySem.W.mg_none_of X G z_zip, PySem.W.mg_none_of X G z_reversed, PySem.W.mg_none_of X G z_all, PySem.W.mg_none_of X G z_bool, PySem.W.mg_of X G e_PART_COUNTS, y_d_PART_COUNTS, PySem.W.mg_of X G e_KindGraph, y_pg_KindGraph, y_hd_KindGraph, y_po_KindGraph, y_sa_KindGraph, y_mk_KindGraph, y_kc_KindGraph, y_nf_KindGraph_chiefs, y_nf_KindGraph_sides⟩
  exact ⟨PySem.W.fnOf "law" "law" (defArgs s_law) (defBody s_law) (defScope s_law) .none kV19 dc19 pm19 an19 cd19 ct19, fun s v => .of_eq rfl, fun base _ _ => by
    have F1 := fun_mk (st := s_law_draw) l1 c1 k1
    have D1 := Def.of (P := l.prog) (w := w) (base := base) (k := 1) (PySem.W.mg_of X G a1) k1 (F1.binds (ps := ["stream", "many"]) fun _ _ _ _ _ _ us hl => match us, hl with | [_, _], _ => rfl) (ok_draw F1 T)
    have F2 := fun_mk (st := s_law_stream) l2 c2 k2
    have D2 := Def.of (P := l.prog) (w := w) (base := base) (k := 1) (PySem.W.mg_of X G a2) k2 (F2.binds (ps := ["script"]) fun _ _ _ _ _ _ us hl => match us, hl with | [_], _ => rfl) (ok_stream F2 T)
    have F3 := fun_mk (st := s_law_kind) l3 c3 k3
    have D3 := Def.of (P := l.prog) (w := w) (base := base) (k := 2) (PySem.W.mg_of X G a3) k3 (F3.binds (ps := ["stream", "size", "many"]) fun _ _ _ _ _ _ us hl => match us, hl with | [_, _, _], _ => rfl) (ok_kind F3 T D1)
    have F4 := fun_mk (st := s_renamed) l4 c4 k4
    have D4 := Def.of (P := l.prog) (w := w) (base := base) (k := 1) (PySem.W.mg_of X G a4) k4 (F4.binds (ps := ["kinds"]) fun _ _ _ _ _ _ us hl => match us, hl with | [_], _ => rfl) (ok_renamed F4 T)
    have F5 := fun_mk (st := s_law_renamed) l5 c5 k5
    have D5 := Def.of (P := l.prog) (w := w) (base := base) (k := 1) (PySem.W.mg_of X G a5) k5 (F5.binds (ps := ["rows"]) fun _ _ _ _ _ _ us hl => match us, hl with | [_], _ => rfl) (ok_lrenamed F5 T)
    have F6 := fun_mk (st := s_part_count) l6 c6 k6
    have D6 := Def.of (P := l.prog) (w := w) (base := base) (k := 1) (PySem.W.mg_of X G a6) k6 (F6.binds (ps := ["node"]) fun _ _ _ _ _ _ us hl => match us, hl with | [_], _ => rfl) (ok_part_countK F6 T)
    have F7 := fun_mk (st := s_end_of) l7 c7 k7
    have D7 := Def.of (P := l.prog) (w := w) (base := base) (k := 2) (PySem.W.mg_of X G a7) k7 (F7.binds (ps := ["term", "start"]) fun _ _ _ _ _ _ us hl => match us, hl with | [_, _], _ => rfl) (ok_end_ofK F7 T D6)
    have F8 := fun_mk (st := s_law_kind_end) l8 c8 k8
    have D8 := Def.of (P := l.prog) (w := w) (base := base) (k := 1) (PySem.W.mg_of X G a8) k8 (F8.binds (ps := ["kind", "at"]) fun _ _ _ _ _ _ us hl => match us, hl with | [_, _], _ => rfl) (ok_kend F8 T)
    have F9 := fun_mk (st := s_law_replaced) l9 c9 k9
    have D9 := Def.of (P := l.prog) (w := w) (base := base) (k := 1) (PySem.W.mg_of X G a9) k9 (F9.binds (ps := ["kind", "table"]) fun _ _ _ _ _ _ us hl => match us, hl with | [_, _], _ => rfl) (ok_rpl F9 T)
    have F10 := fun_mk (st := s_law_is_instance) l10 c10 k10
    have D10 := Def.of (P := l.prog) (w := w) (base := base) (k := 2) (PySem.W.mg_of X G a10) k10 (F10.binds (ps := ["general", "special"]) fun _ _ _ _ _ _ us hl => match us, hl with | [_, _], _ => rfl) (ok_linst F10 T D8)
    have F11 := fun_mk (st := s_KindGraph_init) l11 c11 k11
    have D11 := DefC.of (P := l.prog) (w := w) (mg := mg) (base := base) (k := 1) ⟨y_mk_KindGraph, a11, i11, y_kc_KindGraph⟩ (F11.binds (ps := ["self"]) fun _ _ _ _ _ _ us hl => match us, hl with | [_], _ => rfl) (ok_ginit F11 T)
    have F12 := fun_mk (st := s_KindGraph_new_node) l12 c12 k12
    have D12 := C8.Met.mk (P := l.prog) (w := w) (K := K) (mg := mg) (base := base) (k := 1) (m := "new_node") (dvs := []) ⟨f12, _, ["self", "sides"], [], T.cls_KindGraph, ⟨a12, i12, k12⟩, ok_gnew F12 T, (F12.binds (ps := ["self", "sides"]) fun _ _ _ _ _ _ us hl => match us, hl with | [_, _], _ => rfl), .nil⟩
    have F13 := fun_mk (st := s_KindGraph_chief) l13 c13 k13
    have D13 := C8.Met.mk (P := l.prog) (w := w) (K := K) (mg := mg) (base := base) (k := 1) (m := "chief") (dvs := []) ⟨f13, _, ["self", "node"], [], T.cls_KindGraph, ⟨a13, i13, k13⟩, ok_gchief F13 T, (F13.binds (ps := ["self", "node"]) fun _ _ _ _ _ _ us hl => match us, hl with | [_, _], _ => rfl), .nil⟩
    have F14 := fun_mk (st := s_KindGraph_sides_of) l14 c14 k14
    have D14 := C8.Met.mk (P := l.prog) (w := w) (K := K) (mg := mg) (base := base) (k := 2) (m := "sides_of") (dvs := []) ⟨f14, _, ["self", "node"], [], T.cls_KindGraph, ⟨a14, i14, k14⟩, ok_gsides F14 T D13, (F14.binds (ps := ["self", "node"]) fun _ _ _ _ _ _ us hl => match us, hl with | [_, _], _ => rfl), .nil⟩
    have F15 := fun_mk (st := s_KindGraph_loaded) l15 c15 k15
    have D15 := C8.Met.mk (P := l.prog) (w := w) (K := K) (mg := mg) (base := base) (k := 2) (m := "loaded") (dvs := []) ⟨f15, _, ["self", "kind", "variables"], [], T.cls_KindGraph, ⟨a15, i15, k15⟩, ok_gload F15 T D12, (F15.binds (ps := ["self", "kind", "variables"]) fun _ _ _ _ _ _ us hl => match us, hl with | [_, _, _], _ => rfl), .nil⟩
    have F16 := fun_mk (st := s_KindGraph_is_general) l16 c16 k16
    have D16 := C8.Met.mk (P := l.prog) (w := w) (K := K) (mg := mg) (base := base) (k := 3) (m := "is_general") (dvs := []) ⟨f16, _, ["self", "node", "kind", "parts"], [], T.cls_KindGraph, ⟨a16, i16, k16⟩, ok_ggen F16 T D13 D14 D7, (F16.binds (ps := ["self", "node", "kind", "parts"]) fun _ _ _ _ _ _ us hl => match us, hl with | [_, _, _, _], _ => rfl), .nil⟩
    have F17 := fun_mk (st := s_are_general) l17 c17 k17
    have D17 := Def.of (P := l.prog) (w := w) (base := base) (k := 4) (PySem.W.mg_of X G a17) k17 (F17.binds (ps := ["graph", "nodes", "kinds"]) fun _ _ _ _ _ _ us hl => match us, hl with | [_, _, _], _ => rfl) (ok_are F17 T D16)
    have F18 := fun_mk (st := s_is_instance) l18 c18 k18
    have D18 := Def.of (P := l.prog) (w := w) (base := base) (k := 5) (PySem.W.mg_of X G a18) k18 (F18.binds (ps := ["general", "special"]) fun _ _ _ _ _ _ us hl => match us, hl with | [_, _], _ => rfl) (ok_inst F18 T D11 D15 D17)
    have F19 := fun_mk (st := s_law) l19 c19 k19
    exact ok_law F19 T D2 D1 D3 D9 D4 D5 D18 D10⟩
theorem walk {l : PySem.W.OpenLaw} {q : Program} {loose : List Str} {XP : (Str → Option Value) → Heap → Prop} {YP : World → Heap → Prop} {d : DefRec} {K : Params → PySem.W.Frag} (hn : l.most = some 63) (hdf : d.params.defaults = [])
    (hY : ∀ (w : World) (h : Heap), YP w h → (K w.params).In h)
    (F : ∀ (w : World) (mg : Str → Option Value) (fa : Addr) (h : Heap), (K w.params).In h → h.Ns mainGlobals mg → mg d.name = some (.ref fa) →
      ∃ fd : FuncData, (∀ (s : Shared) (u : Value), BindsTo s fd ⟨[u], []⟩ [("script", u)]) ∧ ∀ base : Heap, (K w.params).In base → base.Ns mainGlobals mg → FnOk l.prog w (K w.params) mg base CX0 40 fa fd ["script"] (spLaw (K w.params))) :
    PySem.W.WalkO q loose XP YP l.row.toRowW d [] (fun f vs => PySem.call f vs) :=
  L2.walk_of (n := 63) (k := 40) (x := "script") (CX := fun _ => CX0) (sp := fun w => spLaw (K w.params)) hn (by decide) hdf ⟨rfl, by decide, by decide⟩ hY F (fun _ _ a ns hl _ hS => ⟨a, ns, rfl, hS, hl, fun _ => rfl⟩) fun _ _ _ _ _ z => z
end Ly
open PySem PySem.W PyProof.Rows in
set_option maxRecDepth 100000 in
set_option maxHeartbeats 0 in
theorem PySem.Challenge.cw_lydite_k70_renamed_and_instances_holds : PySem.Challenge.rw_lydite_k70_renamed_and_instances.Holds := by
  w_on; o_law; k_head; (case hw => w_witness2)
  k_fill
  refine Ly.walk (l := PySem.Challenge.rw_lydite_k70_renamed_and_instances) rfl rfl (fun w h Y => PySem.W.kIn_of Y) ?F
  case F =>
    intro w mg fa h KX G hmg
    refine' Ly.all_mk KX G hmg ?a1 ?l1 ?c1 ?k1 ?a2 ?l2 ?c2 ?k2 ?a3 ?l3 ?c3 ?k3 ?a4 ?l4 ?c4 ?k4 ?a5 ?l5 ?c5 ?k5 ?a6 ?l6 ?c6 ?k6 ?a7 ?l7 ?c7 ?k7 ?a8 ?l8 ?c8 ?k8 ?a9 ?l9 ?c9 ?k9 ?a10 ?l10 ?c10 ?k10 ?a11 ?i11 ?l11 ?c11 ?k11 ?a12 ?i12 ?l12 ?c12 ?k12 ?a13 ?i13 ?l13 ?c13 ?k13 ?a14 ?i14 ?l14 ?c14 ?k14 ?a15 ?i15 ?l15 ?c15 ?k15 ?a16 ?i16 ?l16 ?c16 ?k16 ?a17 ?l17 ?c17 ?k17 ?a18 ?l18 ?c18 ?k18 ?a19 ?l19 ?c19 ?k19 ?z_int ?z_list ?z_len ?z_abs ?z_isinstance ?z_tuple ?z_range ?z_zip ?z_reversed ?z_all ?z_bool ?e_PART_COUNTS ?e_KindGraph ?y_d_PART_COUNTS ?y_pg_KindGraph ?y_hd_KindGraph ?y_po_KindGraph ?y_sa_KindGraph ?y_mk_KindGraph ?y_kc_KindGraph ?y_nf_KindGraph_chiefs ?y_nf_KindGraph_sides
    (case e_PART_COUNTS => k_is)
    (case e_KindGraph => k_is)
    (case y_d_PART_COUNTS => (refine' Ly.KD.mk ?kl ?kk ?ks ?ke; (case kl => k_is); (case kk => k_keys); (case ks => decide); (case ke => exact ⟨⟨_, rfl⟩, ⟨_, rfl⟩, ⟨⟨_, rfl⟩, ⟨_, rfl⟩, ⟨⟨_, rfl⟩, ⟨_, rfl⟩, True.intro⟩⟩⟩)))
    (case a1 => k_is)
    (case l1 => k_is)
    (case c1 => k_is)
    (case k1 => k_is)
    (case a2 => k_is)
    (case l2 => k_is)
    (case c2 => k_is)
    (case k2 => k_is)
    (case a3 => k_is)
    (case l3 => k_is)
    (case c3 => k_is)
    (case k3 => k_is)
    (case a4 => k_is)
    (case l4 => k_is)
    (case c4 => k_is)
    (case k4 => k_is)
    (case a5 => k_is)
    (case l5 => k_is)
    (case c5 => k_is)
    (case k5 => k_is)
    (case a6 => k_is)
    (case l6 => k_is)
    (case c6 => k_is)
    (case k6 => k_is)
    (case a7 => k_is)
    (case l7 => k_is)
    (case c7 => k_is)
    (case k7 => k_is)
    (case a8 => k_is)
    (case l8 => k_is)
    (case c8 => k_is)
    (case k8 => k_is)
    (case a9 => k_is)
    (case l9 => k_is)
    (case c9 => k_is)
    (case k9 => k_is)
    (case a10 => k_is)
    (case l10 => k_is)
    (case c10 => k_is)
    (case k10 => k_is)
    (case a11 => k_is)
    (case i11 => k_is)
    (case l11 => k_is)
    (case c11 => k_is)
    (case k11 => k_is)
    (case a12 => k_is)
    (case i12 => k_is)
    (case l12 => k_is)
    (case c12 => k_is)
    (case k12 => k_is)
    (case a13 => k_is)
    (case i13 => k_is)
    (case l13 => k_is)
    (case c13 => k_is)
    (case k13 => k_is)
    (case a14 => k_is)
    (case i14 => k_is)
    (case l14 => k_is)
    (case c14 => k_is)
    (case k14 => k_is)
    (case a15 => k_is)
    (case i15 => k_is)
    (case l15 => k_is)
    (case c15 => k_is)
    (case k15 => k_is)
    (case a16 => k_is)
    (case i16 => k_is)
    (case l16 => k_is)
    (case c16 => k_is)
    (case k16 => k_is)
    (case a17 => k_is)
    (case l17 => k_is)
    (case c17 => k_is)
    (case k17 => k_is)
    (case a18 => k_is)
    (case l18 => k_is)
    (case c18 => k_is)
    (case k18 => k_is)
    (case a19 => k_is)
    (case l19 => k_is)
    (case c19 => k_is)
    (case k19 => k_is)
    (case z_int => k_is)
    (case z_list => k_is)
    (case z_len => k_is)
    (case z_abs => k_is)
    (case z_isinstance => k_is)
    (case z_tuple => k_is)
    (case z_range => k_is)
    (case z_zip => k_is)
    (case z_reversed => k_is)
    (case z_all => k_is)
    (case z_bool => k_is)
    (case y_pg_KindGraph => k_is)
    (case y_hd_KindGraph => k_is)
    (case y_po_KindGraph => k_is)
    (case y_sa_KindGraph => k_is)
    (case y_mk_KindGraph => k_is)
    (case y_kc_KindGraph => k_is)
    (case y_nf_KindGraph_chiefs => k_is)
    (case y_nf_KindGraph_sides => k_is)
