import PyProof.Rows.All
import Wide.All
import OpenK.AllK
import Wide.FinOn
import HandS.ForMost
import HandS.IsInst
import HandS.Style
import HandS.Walk
import HandS.TupMul
import HandS.TupAny
import HandS.Evl
import PyProof.P3Eq
import HandS.ForExc
import HandS.ExcIs
import HandS.FStr
import HandS.RaiseMore
import PySem.Challenge.RW_lydite_k02_build
set_option Elab.async false
set_option linter.all false
set_option maxRecDepth 100000
/-! Ly: one rule a reading, and three small searchers (heap, apartness, frame). -/
namespace Ly
open PySem PySem.Spec PyProof.Rows L2 Evl

section
variable {K : PySem.W.Frag} {σ : L2.St} {H H' H0 : Hp} {Q : VK} {D : Ends} {ta tb tc te to : TE} {tA : TA} {t u : TT} {s1 s2 : TS} {g : TG}
theorem w_var {i : Nat} {v : V} (h : σ[i]? = some (some v)) (q : Q v H) : tVar i σ H Q := ⟨v, h, q⟩
theorem w_c {v : V} (q : Q v H) : tC v σ H Q := q
theorem w_op {r : R2} (h : ta σ H fun x H1 => tb σ H1 fun y H2 => r x y H2 Q) : tOp r ta tb σ H Q := h
theorem w_un {r : V → Hp → VK → Prop} (h : ta σ H fun x H1 => r x H1 Q) : tUn r ta σ H Q := h
theorem w_I0 {f : Int → Int → V} {i j : Int} (q : Q (f i j) H) : rI0 f (.int i) (.int j) H Q := ⟨i, j, rfl, rfl, q⟩
theorem w_I {C : Int → Int → Prop} {f : Int → Int → V} {i j : Int} (c : C i j) (q : Q (f i j) H) : rI C f (.int i) (.int j) H Q := ⟨i, j, rfl, rfl, c, q⟩
theorem w_U {f : Int → V} {i : Int} (q : Q (f i) H) : rU f (.int i) H Q := ⟨i, rfl, q⟩
theorem w_eq {x y : V} (s : scal x y = true) (q : Q (.bl (decide (x = y))) H) : rEq x y H Q := ⟨s, q⟩
theorem w_ne {x y : V} (s : scal x y = true) (q : Q (.bl (!decide (x = y))) H) : rNe x y H Q := ⟨s, q⟩
theorem w_isB {a b : Bool} (q : Q (.bl (decide (a = b))) H) : rIsB (.bl a) (.bl b) H Q := ⟨a, b, rfl, rfl, q⟩
theorem w_notB {a b : Bool} (q : Q (.bl (!decide (a = b))) H) : rNotB (.bl a) (.bl b) H Q := ⟨a, b, rfl, rfl, q⟩
theorem w_nil {R : List V → Hp → Prop} (q : R [] H) : tNil σ H R := q
theorem w_cons {R : List V → Hp → Prop} {tr : TA} (h : ta σ H fun x H1 => tr σ H1 fun xs H2 => R (x :: xs) H2) : tCons ta tr σ H R := h
theorem w_tup (h : tA σ H fun xs H1 => xs.length ≤ sizeLine ∧ ∀ p, H1 p = none → Q (.ref p) (upd H1 p (.tup xs))) : tTup tA σ H Q := h
theorem w_lst (h : tA σ H fun xs H1 => xs.length ≤ sizeLine ∧ ∀ p, H1 p = none → Q (.ref p) (upd H1 p (.lst xs))) : tLst tA σ H Q := h
theorem w_cb {r : List V → Hp → VK → Prop} (h : tA σ H fun vs H1 => r vs H1 Q) : tCB r tA σ H Q := h
theorem w_call {sp : Sp} {dvs : List V} {E : XK} (h : tA σ H fun vs H1 => sp (vs ++ dvs) H1 Q E) : tCall sp dvs E tA σ H Q := h
theorem w_isi {x : V} {n : String} {t : Value} {b : Bool} (h : TyX K H x t) (k : PySem.W.kitOne K t (.type n) = some b) (q : Q (.bl b) H) : rIsi K [x, .ty n] H Q :=
  ⟨x, .ty n, t, .type n, b, rfl, .ty n, h, k, q⟩
theorem w_bm {T : String} {r : V → List V → Hp → VK → Prop} (h : to σ H fun x H1 => tyV K T x H1 ∧ tA σ H1 fun xs H2 => r x xs H2 Q) : tBM K T r to tA σ H Q := h
theorem w_bm0 {T : String} {r : V → List V → Hp → VK → Prop} (h : to σ H fun x H1 => tyV K T x H1 ∧ r x [] H1 Q) : tBM0 K T r to σ H Q := h
theorem w_app {l : Addr} {xs : List V} {y : V} (h : H l = some (.lst xs)) (z : xs.length < sizeLine) (q : Q .non (upd H l (.lst (xs ++ [y])))) : rAppend (.ref l) [y] H Q := ⟨l, xs, y, rfl, rfl, h, z, q⟩
theorem w_pop {l : Addr} {xs : List V} {y : V} (h : H l = some (.lst xs)) (z : xs[xs.length - 1]? = some y) (q : Q y (upd H l (.lst xs.dropLast))) : rPop (.ref l) [] H Q := ⟨l, xs, y, rfl, rfl, h, z, q⟩
theorem w_popA {l : Addr} {xs : List V} {y : V} (h : H l = some (.lst (xs ++ [y]))) (q : Q y (upd H l (.lst xs))) : rPop (.ref l) [] H Q :=
  ⟨l, xs ++ [y], y, rfl, rfl, h, by simp, by rw [List.dropLast_concat]; exact q⟩
theorem w_ext {l b : Addr} {xs zs : List V} (h : H l = some (.lst xs)) (h2 : H b = some (.lst zs)) (z : xs.length + zs.length ≤ sizeLine) (q : Q .non (upd H l (.lst (xs ++ zs)))) : rExtend (.ref l) [.ref b] H Q := ⟨l, b, xs, zs, rfl, rfl, h, h2, z, q⟩
theorem w_ixL {p : Addr} {xs : List V} {i : Int} {v : V} (h : SqL K H p xs) (a : atI xs i = some v) (q : Q v H) : rIxL K (.ref p) (.int i) H Q := ⟨p, xs, i, v, rfl, rfl, h, a, q⟩
theorem w_ixT {p : Addr} {xs : List V} {i : Int} {v : V} (h : SqT K H p xs) (a : atI xs i = some v) (q : Q v H) : rIxT K (.ref p) (.int i) H Q := ⟨p, xs, i, v, rfl, rfl, h, a, q⟩
theorem w_cat {a b : Addr} {xs ys : List V} (h : H a = some (.lst xs)) (h2 : H b = some (.lst ys)) (z : xs.length + ys.length ≤ sizeLine) (q : ∀ p, H p = none → Q (.ref p) (upd H p (.lst (xs ++ ys)))) : rCat (.ref a) (.ref b) H Q := ⟨a, b, xs, ys, rfl, rfl, h, h2, z, q⟩
theorem w_test {R : Bool → Hp → Prop} (h : te σ H fun x H1 => ∃ k, x = .bl k ∧ R k H1) : tTest te σ H R := h
theorem w_tB {R : Bool → Hp → Prop} (h : te σ H fun x H1 => ∃ k, x = .bl k ∧ R k H1) : tB te σ H R := h
theorem w_bl {A : Bool → Prop} {k : Bool} (h : A k) : ∃ c, V.bl k = .bl c ∧ A c := ⟨k, rfl, h⟩
theorem w_and {R : Bool → Hp → Prop} (h : t σ H fun c H1 => if c = true then u σ H1 R else R false H1) : tAnd t u σ H R := h
theorem w_or {R : Bool → Hp → Prop} (h : t σ H fun c H1 => if c = true then R true H1 else u σ H1 R) : tOr t u σ H R := h
theorem w_not {R : Bool → Hp → Prop} (h : t σ H fun c H1 => R (!c) H1) : tNot t σ H R := h
theorem w_andV (h : ta σ H fun x H1 => ∃ c, x = .bl c ∧ if c = true then tb σ H1 Q else Q (.bl false) H1) : tAndV ta tb σ H Q := h
theorem w_orV (h : ta σ H fun x H1 => ∃ c, x = .bl c ∧ if c = true then Q (.bl true) H1 else tb σ H1 Q) : tOrV ta tb σ H Q := h
theorem w_notV (h : ta σ H fun x H1 => ∃ c, x = .bl c ∧ Q (.bl (!c)) H1) : tNotV ta σ H Q := h
theorem w_ifE (h : t σ H fun c H1 => if c = true then ta σ H1 Q else tb σ H1 Q) : tIf t ta tb σ H Q := h
theorem w_ch {r r' : R2} (h : ta σ H fun x H1 => tb σ H1 fun y H2 => r x y H2 fun z H3 => ∃ k, z = .bl k ∧ (if k = true then tc σ H3 fun w' H4 => r' y w' H4 Q else Q (.bl false) H3)) : tChain r r' ta tb tc σ H Q := h
-- statements
theorem sl_of {t : TS} {D : Ends} {σ σ2 : L2.St} {H : Hp} (e : σ = σ2) (h : t D σ2 H) : t D σ H := by
  rw [e]
  exact h
theorem w_seq (h : s1 { D with nx := s2 D } σ H) : tSeq s1 s2 D σ H := h
theorem w_cut {M : L2.St → Hp → Prop} (h : s1 { D with nx := M } σ H) (q : ∀ σ' H', M σ' H' → s2 D σ' H') : tCut s1 s2 D σ H := ⟨M, h, q⟩
theorem w_while (W : Nat → L2.St → Hp → Prop) (m0 : Nat) (h0 : W m0 σ H) (hs : ∀ m σ H, W m σ H → t σ H fun b H1 => if b = true then ∃ N : L2.St → Hp → Prop, (∀ σ' H', N σ' H' → ∃ m', m' < m ∧ W m' σ' H') ∧ s1 { D with nx := N, ct := N, bk := D.nx } σ H1 else D.nx σ H1) : tWhile t s1 D σ H := ⟨W, ⟨m0, h0⟩, hs⟩
theorem w_truL {l : Addr} {xs : List V} {A : Bool → Prop} (h : SqL K H l xs) (q : A (!xs.isEmpty)) : ∃ k, TruV K (.ref l) H k ∧ A k := ⟨_, .inl ⟨xs, h, rfl⟩, q⟩
theorem w_next (h : D.nx σ H) : tNext D σ H := h
theorem w_drop (h : te σ H fun _ H1 => D.nx σ H1) : tDrop te D σ H := h
theorem w_ret (h : te σ H D.rt) : tRet te D σ H := h
theorem w_asg (h : te σ H fun x H1 => g x σ H1 D.nx) : tAsg te g D σ H := h
theorem w_if (h : t σ H fun b H1 => if b = true then s1 D σ H1 else s2 D σ H1) : tIfS t s1 s2 D σ H := h
theorem w_name {v : V} {i : Nat} {R : L2.St → Hp → Prop} (h : R (σ.set i (some v)) H) : gName i v σ H R := h
theorem w_sub {v : V} {st : TSet} {R : L2.St → Hp → Prop} (h : ta σ H fun o H1 => tb σ H1 fun i H2 => st o i v H2 fun H3 => R σ H3) : gSub ta tb st v σ H R := h
theorem w_setL {R : Hp → Prop} {p : Addr} {xs : List V} {k : Int} {j : Nat} {v : V} (h : H p = some (.lst xs)) (a : ixN xs.length k = some j) (q : R (upd H p (.lst (xs.set j v)))) : rSetL (.ref p) (.int k) v H R := ⟨p, xs, k, j, rfl, rfl, h, a, q⟩
theorem w_aug {i : Nat} {x : V} {ti : TIp} (h : σ[i]? = some (some x)) (q : te σ H fun y H1 => ti x y H1 fun z H2 => D.nx (σ.set i (some z)) H2) : tAug i te ti D σ H := ⟨x, h, q⟩
theorem w_ipI {f : Int → Int → Int} {i j : Int} (q : Q (.int (f i j)) H) : ipI f (.int i) (.int j) H Q := ⟨i, j, rfl, rfl, q⟩
end

/-! ### what a for walks -/
def ForB (J : It) (g : TG) (tb : TS) (D : Ends) (σ : L2.St) (H1 : Hp) : Prop := ∃ W : Nat → Nat → L2.St → Hp → Prop, (∃ m, W 0 m σ H1) ∧ ∀ i m σ H, W i m σ H →
  (J.stop i H ∧ D.nx σ H) ∨ (J.go i H ∧ ∃ N : L2.St → Hp → Prop, (∀ σ' H', N σ' H' → ∃ m', m' < m ∧ W (i + 1) m' σ' H') ∧ ∀ x H', J.yld i H x H' → g x σ H' fun σ2 H2 => tb { D with nx := N, ct := N, bk := D.nx } σ2 H2)
def LcB (J : It) (g : TG) (tt : TT) (te : TE) (vs : List Nat) (Q : VK) (σ : L2.St) (H1 : Hp) (Dl : Addr) : Prop := ∃ W : Nat → Nat → Hp → Prop, (∃ m, W 0 m (upd H1 Dl (.lst []))) ∧ ∀ i m H, W i m H →
  (J.stop i H ∧ Q (.ref Dl) H) ∨ (J.go i H ∧ ∃ Nx : Hp → Prop, (∀ H', Nx H' → ∃ m', m' < m ∧ W (i + 1) m' H') ∧ ∀ x H', J.yld i H x H' → g x (wipe σ vs) H' fun σ2 H2 => wipe σ2 vs = wipe σ vs ∧ tt σ2 H2 fun b H3 =>
    if b = true then te σ2 H3 fun y H4 => ∃ acc, H4 Dl = some (.lst acc) ∧ acc.length < sizeLine ∧ Nx (upd H4 Dl (.lst (acc ++ [y]))) else Nx H3)
section
variable {K : PySem.W.Frag} {σ : L2.St} {H : Hp} {D : Ends} {ta tb : TE} {tA : TA} {g : TG} {s1 : TS} {wi : TI} {R : It → Hp → Prop}
theorem w_for (h : wi σ H fun J H1 => ForB J g s1 D σ H1) : tFor wi g s1 D σ H := h
theorem w_iL (h : ta σ H fun x H1 => ∃ a, x = .ref a ∧ (∃ xs, SqL K H1 a xs) ∧ R (Itl K a) H1) : iList K ta σ H R := h
theorem w_iL1 {a : Addr} {xs : List V} {B : Addr → Prop} (h : SqL K H a xs) (q : B a) : ∃ b, V.ref a = .ref b ∧ (∃ ys, SqL K H b ys) ∧ B b := ⟨a, rfl, ⟨xs, h⟩, q⟩
theorem w_iT (h : ta σ H fun x H1 => ∃ a, x = .ref a ∧ (∃ xs, SqT K H1 a xs) ∧ R (Itt K a) H1) : iTup K ta σ H R := h
theorem w_iT1 {a : Addr} {xs : List V} {B : Addr → Prop} (h : SqT K H a xs) (q : B a) : ∃ b, V.ref a = .ref b ∧ (∃ ys, SqT K H b ys) ∧ B b := ⟨a, rfl, ⟨xs, h⟩, q⟩
theorem w_iR (h : tA σ H fun vs H1 => ∃ j : Int, vs = [.int j] ∧ -(2 ^ 62) ≤ j ∧ j < 2 ^ 62 ∧ R (Itr 0 j.toNat) H1) : iRng1 tA σ H R := h
theorem w_iR1 {j : Int} {B : Int → Prop} (h1 : -(2 ^ 62) ≤ j) (h2 : j < 2 ^ 62) (q : B j) : ∃ k, [V.int j] = [V.int k] ∧ -(2 ^ 62) ≤ k ∧ k < 2 ^ 62 ∧ B k := ⟨j, rfl, h1, h2, q⟩
theorem w_yes {R : Bool → Hp → Prop} (h : R true H) : tYes σ H R := h
theorem w_wipe {σ2 : L2.St} {vs : List Nat} {B : Prop} (e : wipe σ2 vs = wipe σ vs) (q : B) : wipe σ2 vs = wipe σ vs ∧ B := ⟨e, q⟩
theorem w_lc {tt : TT} {te : TE} {vs : List Nat} {Q : VK} (h : wi σ H fun J H1 => ∀ Dl, H1 Dl = none → LcB J g tt te vs Q σ H1 Dl) : tLc wi g tt te vs σ H Q := h
end

/-! ### frames: all that H knows, but the object at s -/
def Fr (s : Addr) (H H' : Hp) : Prop := ∀ a o, a ≠ s → H a = some o → H' a = some o
section
variable {K : PySem.W.Frag} {H H' H0 H1 H2 : Hp} {a p s : Addr} {o : HO} {xs ys : List V}
theorem Fr.refl (s : Addr) (H : Hp) : Fr s H H := fun _ _ _ h => h
theorem Fr.ex (e : Ex H H') : Fr s H H' := fun a o _ h => e a o h
theorem Fr.trans (a : Fr s H H1) (b : Fr s H1 H2) : Fr s H H2 := fun x o n h => b x o n (a x o n h)
theorem Fr.new (e : Fr s H H') (h : H' p = none) : Fr s H (upd H' p o) := fun x u n ha => by
  have q := e x u n ha
  rw [upd_ne (ne_of_none q h)]
  exact q
theorem Fr.mut (e : Fr s H H') (h : H p = none) : Fr s H (upd H' p o) := fun x u n ha => by
  rw [upd_ne (ne_of_none ha h)]
  exact e x u n ha
theorem Fr.own (e : Fr s H H') : Fr s H (upd H' s o) := fun x u n ha => by
  rw [upd_ne n]
  exact e x u n ha
theorem Fr.free (e : Fr s H H') (hs : H s = some o) (h : H' p = none) (h2 : p ≠ s) : H p = none := by
  cases q : H p with
  | none => rfl
  | some u =>
    rw [e p u h2 q] at h
    cases h
theorem fr_t (e : Fr s H H') (hs : H s = some (.lst ys)) (h : SqT K H a xs) : SqT K H' a xs := by
  rcases h with (h | ⟨ob, h⟩) | h
  · exact .inl (.inl (e a _ (fun z => by rw [z, hs] at h; cases h) h))
  · exact .inl (.inr ⟨ob, e a _ (fun z => by rw [z, hs] at h; cases h) h⟩)
  · exact .inr h
theorem ex_upd (e : Ex H H') (h : H p = none) : Ex H (upd H' p o) := e.mut h
theorem ex_new (e : Ex H H') (h : H' p = none) : Ex H (upd H' p o) := e.trans (Ex.new h)
theorem ly_at (e : Ex H H') (h : H a = some o) : H' a = some o := e a o h
theorem ly_atF (e : Fr s H H') (n : a ≠ s) (h : H a = some o) : H' a = some o := e a o n h
theorem ly_mulL {i j : Int} (h1 : -(2 ^ 64) < i) (h2 : i < 2 ^ 64) : CMul i j := .inl ⟨h1, h2⟩
theorem ly_mulR {i j : Int} (h1 : -(2 ^ 64) < j) (h2 : j < 2 ^ 64) : CMul i j := .inr ⟨h1, h2⟩
end
/-! ### built-in calls -/
section
variable {K : PySem.W.Frag} {H : Hp} {Q : VK} {p : Addr} {xs : List V}
theorem w_int {i : Int} {A : Int → Prop} {B : Prop} (q : A i) : (∃ j, [V.int i] = [V.int j] ∧ A j) ∨ B := .inl ⟨i, rfl, q⟩
theorem w_intB {k : Bool} {A : Prop} {B : Bool → Prop} (q : B k) : A ∨ ∃ c, [V.bl k] = [V.bl c] ∧ B c := .inr ⟨k, rfl, q⟩
theorem w_abs {i : Int} {A : Int → Prop} (q : A i) : ∃ j, [V.int i] = [V.int j] ∧ A j := ⟨i, rfl, q⟩
theorem w_lenL {A : Addr → List V → Prop} (h : SqL K H p xs) (q : A p xs) : ∃ a ys, [V.ref p] = [V.ref a] ∧ (SqL K H a ys ∨ SqT K H a ys) ∧ A a ys := ⟨p, xs, rfl, .inl h, q⟩
theorem w_lenT {A : Addr → List V → Prop} (h : SqT K H p xs) (q : A p xs) : ∃ a ys, [V.ref p] = [V.ref a] ∧ (SqL K H a ys ∨ SqT K H a ys) ∧ A a ys := ⟨p, xs, rfl, .inr h, q⟩
theorem w_tupL {A B : Addr → List V → Prop} (h : SqL K H p xs) (q : A p xs) : ∃ a ys, [V.ref p] = [V.ref a] ∧ ((SqL K H a ys ∧ A a ys) ∨ (SqT K H a ys ∧ B a ys)) := ⟨p, xs, rfl, .inl ⟨h, q⟩⟩
theorem w_tupT {A B : Addr → List V → Prop} (h : SqT K H p xs) (q : B p xs) : ∃ a ys, [V.ref p] = [V.ref a] ∧ ((SqL K H a ys ∧ A a ys) ∨ (SqT K H a ys ∧ B a ys)) := ⟨p, xs, rfl, .inr ⟨h, q⟩⟩
theorem w_nT {A B : Prop} (h : B) : if (!true) = true then A else B := iteF h
theorem w_nF {A B : Prop} (h : A) : if (!false) = true then A else B := iteT h
theorem w_br {c A B : Prop} [Decidable c] (h1 : c → A) (h2 : ¬ c → B) : if decide c = true then A else B := ite2 (fun h => h1 (of_decide_eq_true h)) (fun h => h2 (fun z => h (decide_eq_true z)))
theorem w_deIS {i : Int} {x : Str} {A B : Prop} (h : B) : if decide (V.int i = V.str x) = true then A else B := iteF h
theorem w_deSI {i : Int} {x : Str} {A B : Prop} (h : B) : if decide (V.str x = V.int i) = true then A else B := iteF h
theorem w_deST {x y : Str} {A B : Prop} (e : x = y) (h : A) : if decide (V.str x = V.str y) = true then A else B := by
  rw [decide_eq_true (by rw [e])]
  exact iteT h
theorem w_deSF {x y : Str} {A B : Prop} (e : x ≠ y) (h : B) : if decide (V.str x = V.str y) = true then A else B := by
  rw [decide_eq_false (fun z => e (V.str.inj z))]
  exact iteF h
theorem w_deISn {i : Int} {x : Str} {A B : Prop} (h : A) : if (!decide (V.int i = V.str x)) = true then A else B := iteT h
theorem w_deSTn {x y : Str} {A B : Prop} (e : x = y) (h : B) : if (!decide (V.str x = V.str y)) = true then A else B := by
  rw [decide_eq_true (by rw [e])]
  exact iteF h
theorem w_deSFn {x y : Str} {A B : Prop} (e : x ≠ y) (h : A) : if (!decide (V.str x = V.str y)) = true then A else B := by
  rw [decide_eq_false (fun z => e (V.str.inj z))]
  exact iteT h
theorem w_neS {x : V} {A B : Prop} (h : B) : if (!decide (x = x)) = true then A else B := by
  rw [decide_eq_true rfl]
  exact iteF h
theorem w_eqS {x : V} {A B : Prop} (h : A) : if decide (x = x) = true then A else B := by
  rw [decide_eq_true rfl]
  exact iteT h
theorem w_neSb {x : Bool} {A B : Prop} (h : B) : if (!decide (x = x)) = true then A else B := by
  rw [decide_eq_true rfl]
  exact iteF h
theorem w_eqSb {x : Bool} {A B : Prop} (h : A) : if decide (x = x) = true then A else B := by
  rw [decide_eq_true rfl]
  exact iteT h
theorem w_neG {α : Type} {x : α} [Decidable (x = x)] {A B : Prop} (h : B) : if (!decide (x = x)) = true then A else B := by
  rw [decide_eq_true rfl]
  exact iteF h
theorem w_eqG {α : Type} {x : α} [Decidable (x = x)] {A B : Prop} (h : A) : if decide (x = x) = true then A else B := by
  rw [decide_eq_true rfl]
  exact iteT h
theorem w_nn {B : Prop} (q : B) : V.non = V.non ∧ B := ⟨rfl, q⟩
theorem w_nnT {A B : Prop} (h : B) : if (!decide (V.non = V.non)) = true then A else B := iteF h
theorem w_nnR {a : Addr} {A B : Prop} (h : A) : if (!decide (V.ref a = V.non)) = true then A else B := iteT h
theorem w_brI {i j : Int} {A B : Prop} (h1 : i = j → A) (h2 : i ≠ j → B) : if decide (V.int i = V.int j) = true then A else B := w_br (fun h => h1 (V.int.inj h)) (fun h => h2 (fun z => h (by rw [z])))
theorem w_brS {i j : Str} {A B : Prop} (h1 : i = j → A) (h2 : i ≠ j → B) : if decide (V.str i = V.str j) = true then A else B := w_br (fun h => h1 (V.str.inj h)) (fun h => h2 (fun z => h (by rw [z])))
theorem w_brIn {i j : Int} {A B : Prop} (h1 : i ≠ j → A) (h2 : i = j → B) : if (!decide (V.int i = V.int j)) = true then A else B := by
  by_cases e : i = j
  · rw [e, decide_eq_true rfl]
    exact iteF (h2 e)
  · rw [decide_eq_false (fun z => e (V.int.inj z))]
    exact iteT (h1 e)
theorem w_brSn {i j : Str} {A B : Prop} (h1 : i ≠ j → A) (h2 : i = j → B) : if (!decide (V.str i = V.str j)) = true then A else B := by
  by_cases e : i = j
  · rw [e, decide_eq_true rfl]
    exact iteF (h2 e)
  · rw [decide_eq_false (fun z => e (V.str.inj z))]
    exact iteT (h1 e)
theorem w_disp {R : Addr → Prop} (z : xs.length ≤ sizeLine) (q : ∀ p, H p = none → R p) : xs.length ≤ sizeLine ∧ ∀ p, H p = none → R p := ⟨z, q⟩
theorem w_tyL {R : Prop} (h : SqL K H p xs) (q : R) : tyV K "list" (.ref p) H ∧ R := ⟨.inl ⟨rfl, xs, h⟩, q⟩
end
/-! ### errors -/
theorem kcls_mk {K : PySem.W.Frag} {t : Value} {C : Addr} {r : Bool} (d : PySem.W.hasDictIn K C = true) (ty : PySem.W.typeIn K (.ref C) = some (.type "type")) (s : PySem.W.subIn K t (.ref C) = some r) : PySem.W.kitCls K t (.ref C) = some r := by
  have h : ((PySem.W.clsIn K C).isSome && PySem.W.typeIn K (.ref C) == some (.type "type")) = true := by
    obtain ⟨cd, hc, _⟩ := PySem.W.any_some d
    rw [hc, ty]
    simp
  show (if ((PySem.W.clsIn K C).isSome && PySem.W.typeIn K (.ref C) == some (.type "type")) = true then PySem.W.subIn K t (.ref C) else none) = some r
  rw [if_pos h, s]
theorem kitOne_mk {K : PySem.W.Frag} {t : Value} {C : Addr} (d : PySem.W.hasDictIn K C = true) (ty : PySem.W.typeIn K (.ref C) = some (.type "type")) (s : PySem.W.subIn K t (.ref C) = some true) : PySem.W.kitOne K t (.ref C) = some true := by
  unfold PySem.W.kitOne
  split
  · rfl
  · exact kcls_mk d ty s
theorem kitVE {K : PySem.W.Frag} {C : Addr} (s : PySem.W.subIn K (.ref C) (.type "ValueError") = some true) : PySem.W.kitOne K (.ref C) (.type "ValueError") = some true := by
  have m : PySem.W.kitMeta "ValueError" = true := by decide +kernel
  show (if (Value.ref C == Value.type "ValueError") = true then some true else if PySem.W.kitMeta "ValueError" = true then PySem.W.subIn K (.ref C) (.type "ValueError") else none) = some true
  rw [if_pos m, s]
  split <;> rfl
theorem exm_mk {K : PySem.W.Frag} {t : Value} {C : Addr} {r : Bool} (b : PySem.W.subIn K (.ref C) (.type "BaseException") = some true) (d : PySem.W.hasDictIn K C = true) (ty : PySem.W.typeIn K (.ref C) = some (.type "type")) (s : PySem.W.subIn K t (.ref C) = some r) : PySem.W.exmOne K t (.ref C) = some r := by
  unfold PySem.W.exmOne
  rw [b]
  simp [kcls_mk d ty s]
theorem call_isEa {X : Cx} {a : Addr} {oe : Obj} {cls : Value} {d : Option Addr} {pn : List (Addr × Obj)} (hz : Zc cls d oe) (hf : ∃ vs, oe.data = .fields vs) :
    CallR (X.suite a ((a, oe) :: pn)) (.builtin "isinstance") (fun xs H Q => ∃ D, cls = .ref D ∧ d = none ∧ ExcC X.K D ∧ rIsE X.K D a xs H Q) := by
  intro pins s σ H xs us Q I r ⟨D, e1, e2, C, h⟩
  subst e1 e2
  exact call_isE C hz hf pins s σ H xs us Q I r h
section
variable {K : PySem.W.Frag} {σ : L2.St} {H : Hp} {Q : VK} {te : TE} {tA : TA}
theorem w_js {ts : List TE} {acc : Str} {R : Str → Hp → Prop} (h : te σ H fun x H1 => ∃ y : Str, x = .str y ∧ (acc ++ y).length ≤ sizeLine ∧ tJs ts (acc ++ y) σ H1 R) : tJs (te :: ts) acc σ H R := h
theorem w_jsn {acc : Str} {R : Str → Hp → Prop} (h : R acc H) : tJs [] acc σ H R := h
theorem w_js1 {z acc : Str} {A : Str → Prop} (hl : (acc ++ z).length ≤ sizeLine) (q : A z) : ∃ y : Str, V.str z = .str y ∧ (acc ++ y).length ≤ sizeLine ∧ A y := ⟨z, rfl, hl, q⟩
theorem w_fmt (h : te σ H fun x H1 => (∃ y : Str, x = .str y ∧ y.length ≤ sizeLine ∧ Q (.str y) H1) ∨ ∃ i : Int, x = .int i ∧ i.natAbs.log2 < 1920 ∧ Q (.str (toString i)) H1) : tFmt te σ H Q := h
theorem w_fmt1 {i : Int} {A : Prop} {B : Int → Prop} (hl : i.natAbs.log2 < 1920) (q : B i) : A ∨ ∃ j : Int, V.int i = .int j ∧ j.natAbs.log2 < 1920 ∧ B j := .inr ⟨i, rfl, hl, q⟩
theorem w_callS {sp : Sp} {E : L2.St → XK} (h : tA σ H fun vs H1 => sp vs H1 Q (E σ)) : tCallS sp E tA σ H Q := h
end
/-! ### tuples that come: some tuple of these items -/
section
variable {K : PySem.W.Frag} {H H' : Hp} {Q : VK} {a b p : Addr} {xs ys : List V}
theorem w_catA (h : SqT K H a xs) (h2 : SqT K H b ys) (z : xs.length + ys.length ≤ sizeLine) (q : ∀ p H', Ex H H' → SqT K H' p (xs ++ ys) → Q (.ref p) H') : rCatA K (.ref a) (.ref b) H Q :=
  ⟨a, b, xs, ys, rfl, rfl, h, h2, z, fun e => q b H (Ex.refl H) (by rw [e]; exact h2), fun _ e => q a H (Ex.refl H) (by rw [e, List.append_nil]; exact h), fun _ _ p hp => q p _ (Ex.new hp) (SqT.of upd_same)⟩
theorem w_slA {lo hi : Option Int} (h : SqT K H a xs) (q : ∀ p H', Ex H H' → SqT K H' p (cutV xs lo hi) → Q (.ref p) H') : rSlA K (.ref a) lo hi H Q := by
  refine ⟨a, xs, rfl, h, fun e => q a H (Ex.refl H) ?_, fun _ p hp => q p _ (Ex.new hp) (SqT.of upd_same)⟩
  unfold cutV
  rw [e.1, e.2]
  simpa using h
theorem tyx_t (h : SqT K H a xs) : TyX K H (.ref a) (.type "tuple") := by
  rcases h with (h | ⟨o, h⟩) | ⟨o, _, _, h, c, _⟩
  · exact .base (.tup h)
  · exact .fTuple h
  · exact .kTuple h c
theorem tyx_l (h : SqL K H a xs) : TyX K H (.ref a) (.type "list") := by
  rcases h with (h | ⟨o, h⟩) | ⟨o, _, _, h, c, _⟩
  · exact .base (.lst h)
  · exact .base (.frz h)
  · exact .kList h c
end
/-! ### tuple * int -/
set_option maxHeartbeats 4000000 in
theorem mul_one_meets (l : Addr) (items : Array Value) (n : Nat) (di : Option Addr) (ss : Array (Option Value)) (u : Tok) :
    Meets (Builtin.«tuple.__mul__» ⟨[.ref l, .int 1 u], []⟩) (fun _ R s => s.heap.get? l = some { cls := .type "tuple", dict := di, data := .seq items n, slots := ss } ∧ R (.ok (.ret (Value.ref l))) s) :=
  .of_wp fun prog w A R s ⟨hl, h⟩ => by
    obtain ⟨hp, g, d, tk, os⟩ := s
    have idx := AutoSeq1.idx_int
    have c1 : (items.isEmpty || (1 : Int) == 1) = true := by simp
    have c0 : (decide ((1 : Int) < -(2 ^ 63)) || decide ((1 : Int) ≥ 2 ^ 63)) = false := by decide
    wp_walk using wpAny_loadPart' hl
    repeat (first
      | (refine wpAny_ite_false (decide_eq_false (fun z => by rw [c0] at z; cases z)) ?_; wp_walk using wpAny_loadPart' hl)
      | (refine wpAny_ite_true (decide_eq_true (by simp)) ?_; wp_walk using wpAny_loadPart' hl))
    exact ⟨_, rfl, h⟩
set_option maxHeartbeats 4000000 in
theorem mul_zero_meets (l : Addr) (items : Array Value) (n : Nat) (di : Option Addr) (ss : Array (Option Value)) (u : Tok) (em : items.isEmpty = false) :
    Meets (Builtin.«tuple.__mul__» ⟨[.ref l, .int 0 u], []⟩) (fun _ R s => s.heap.get? l = some { cls := .type "tuple", dict := di, data := .seq items n, slots := ss } ∧
      R (.ok (.ret (Value.ref s.heap.objs.size))) { s with heap := s.heap.push { cls := Value.type "tuple", data := Data.seq #[] }, toks := s.toks }) :=
  .of_wp fun prog w A R s ⟨hl, h⟩ => by
    obtain ⟨hp, g, d, tk, os⟩ := s
    have idx := AutoSeq1.idx_int
    have c1 : (items.isEmpty || (0 : Int) == 1) = false := by rw [em]; rfl
    have c2 : (decide ((0 : Int) ≤ 0) || items.isEmpty) = true := by simp
    have c0 : (decide ((0 : Int) < -(2 ^ 63)) || decide ((0 : Int) ≥ 2 ^ 63)) = false := by decide
    wp_walk using wpAny_loadPart' hl
    repeat (first
      | (refine wpAny_ite_false (decide_eq_false (fun z => by rw [c0] at z; cases z)) ?_; wp_walk using wpAny_loadPart' hl)
      | (refine wpAny_ite_false (decide_eq_false (fun z => by rw [c1] at z; cases z)) ?_; wp_walk using wpAny_loadPart' hl)
      | (refine wpAny_ite_true (decide_eq_true c2) ?_; wp_walk using wpAny_loadPart' hl))
    exact ⟨_, rfl, h⟩
def rRepB (K : PySem.W.Frag) : R2 := fun x y H Q => ∃ (l : Addr) (k : Int) (xs : List V), x = .ref l ∧ y = .int k ∧ SqT K H l xs ∧ xs ≠ [] ∧ 0 ≤ k ∧ k ≤ 3000 ∧ xs.length ≤ 1000 ∧ (k = 1 → Q (.ref l) H) ∧ (k ≠ 1 → ∀ p, H p = none → Q (.ref p) (upd H p (.tup (List.replicate k.toNat xs).flatten)))
theorem op_repB {X : Cx} : OpR X (binaryOp .Mult) (rRepB X.K) := by
  intro pins s σ H x y v u Q I rx ry ⟨l, k, xs, ex, ey, hT, hne, k0, k3, hz, q1, q⟩
  subst ex ey
  cases rx
  obtain ⟨tt, eu⟩ := ry
  subst eu
  obtain ⟨its, r, ⟨⟨cl, di, da, ss⟩, hob, hcl, n, hda⟩, _⟩ := I.tuple hT
  simp only at hcl hda
  subst hcl hda
  have el : its.length = xs.length := r.length.symm
  have es : its.toArray.size = xs.length := by rw [List.size_toArray, el]
  have pos : 0 < xs.length := List.length_pos_iff.mpr hne
  have em : its.toArray.isEmpty = false := by
    rw [Array.isEmpty_eq_false_iff_exists_mem]
    obtain ⟨a0, ha0⟩ := List.exists_mem_of_length_pos (l := its) (by omega)
    exact ⟨a0, by simpa using ha0⟩
  have big : k.toNat * xs.length ≤ 3000 * 1000 := Nat.mul_le_mul (by omega) hz
  have prod : ((its.toArray.size : Nat) : Int) * k = ((k.toNat * xs.length : Nat) : Int) := by
    rw [es, Int.natCast_mul, Int.toNat_of_nonneg (by omega), Int.mul_comm]
  have fl : (List.replicate k.toNat its).flatten.length = k.toNat * xs.length := by rw [PyProof.Rows.lm_len_rep_flat, el]
  have sl := sizeLine_eq
  have d0 : (decide (k < -(2 ^ 63)) || decide (k ≥ 2 ^ 63)) = false := by simp; omega
  refine wpAny_binaryOp_repeat_ref (T := "tuple") (U := "int") (by decide) ⟨_, hob, rfl⟩ (fun z => typeIs_int z k tt) noFill_tuple_mul F.fills_int_mul F.slot_int_rmul repeat_tuple F.slot_int_index.lookup (call_meets F.slot_int_rmul (typeIs_int s k tt) F.entry_int_rmul (F.args_int_rmul_2 _ _)
    (int_rmul_tuple k tt l its.toArray n di ss) ⟨hob, rfl, ⟨_, hob, rfl⟩, ?_⟩)
  have made : ∀ (xs2 : List V) (us : List Value), Vals xs2 us → xs2.length ≤ 3000000 → (∀ p, H p = none → Q (.ref p) (upd H p (.tup xs2))) → EP X pins σ Q (.ref s.heap.objs.size) { s with heap := s.heap.push { cls := Value.type "tuple", data := Data.seq us.toArray }, toks := s.toks } := fun xs2 us rv hlen q2 =>
    ⟨.ref s.heap.objs.size, _, I.laid (t' := s.toks) (o := .tup xs2) (fun _ _ z => Heap.get?_push_of_some _ z) (Nat.le_refl _) ⟨by omega, _, rv, IsTup.new _ _⟩, rfl, q2 _ (I.hok.fresh (Nat.le_refl _))⟩
  by_cases h1 : k = 1
  · subst h1
    exact call_meets F.slot_tuple_mul ⟨_, hob, rfl⟩ F.entry_tuple_mul (F.args_tuple_mul_2 _ _) (mul_one_meets l its.toArray n di ss tt) ⟨hob, .ref l, H, I, rfl, q1 rfl⟩
  · by_cases h2 : k = 0
    · subst h2
      exact call_meets F.slot_tuple_mul ⟨_, hob, rfl⟩ F.entry_tuple_mul (F.args_tuple_mul_2 _ _) (mul_zero_meets l its.toArray n di ss tt em) ⟨hob, made [] [] .nil (by simp) (q h1)⟩
    · have d1 : (its.toArray.isEmpty || k == 1) = false := by rw [em]; simp; omega
      have d2 : (decide (k ≤ 0) || its.toArray.isEmpty) = false := by rw [em]; simp; omega
      have d4 : Builtin.Tuple.tupleTooMany (((its.toArray.size : Nat) : Int) * k) = false := by
        rw [prod]
        unfold Builtin.Tuple.tupleTooMany
        exact decide_eq_false (by omega)
      have tm : Meets _ _ := tuple_mulW l its.toArray n di ss k tt d0 d1 d2 (by rw [prod]; omega) d4 (by rw [size_rep, List.size_toArray, fl]; omega)
      refine call_meets F.slot_tuple_mul ⟨_, hob, rfl⟩ F.entry_tuple_mul (F.args_tuple_mul_2 _ _) tm ⟨hob, ?_⟩
      rw [size_rep]
      exact made _ _ (r.rep k.toNat) (by rw [PyProof.Rows.lm_len_rep_flat]; omega) (q h1)
theorem w_repB {K : PySem.W.Frag} {H : Hp} {Q : VK} {l : Addr} {k : Int} {xs : List V} (h : SqT K H l xs) (hne : xs ≠ []) (h2 : 0 ≤ k) (h3 : k ≤ 3000) (hz : xs.length ≤ 1000) (q : ∀ p H', Ex H H' → SqT K H' p (List.replicate k.toNat xs).flatten → Q (.ref p) H') : rRepB K (.ref l) (.int k) H Q := by
  refine ⟨l, k, xs, rfl, rfl, h, hne, h2, h3, hz, fun e => q l H (Ex.refl H) ?_, fun _ p hp => q p _ (Ex.new hp) (SqT.of upd_same)⟩
  subst e
  simpa using h
/-! ### the rules with the written part given -/
section
variable {X : Cx} {K : PySem.W.Frag}
theorem ix_listK (e : X.K = K) : IxR X (rIxL K) := by
  rw [← e]
  exact ix_list
theorem ix_tupK (e : X.K = K) : IxR X (rIxT K) := by
  rw [← e]
  exact ix_tup
theorem call_len_seqK (e : X.K = K) : CallR X (.builtin "len") (fun xs H Q => ∃ p ys, xs = [.ref p] ∧ (SqL K H p ys ∨ SqT K H p ys) ∧ Q (.int ys.length) H) := by
  rw [← e]
  exact call_len_seq
theorem op_catAK (e : X.K = K) : OpR X (binaryOp .Add) (rCatA K) := by
  rw [← e]
  exact op_catA
theorem op_repBK (e : X.K = K) : OpR X (binaryOp .Mult) (rRepB K) := by
  rw [← e]
  exact op_repB
theorem sl_tupAK (e : X.K = K) : SlR X (rSlA K) := by
  rw [← e]
  exact sl_tupA
end
/-! ### kinds that stay: lists stay lists, tuples stay what they are -/
def Kp (H H' : Hp) : Prop := (∀ a xs, H a = some (.lst xs) → ∃ ys, H' a = some (.lst ys)) ∧ ∀ a xs, H a = some (.tup xs) → H' a = some (.tup xs)
section
variable {K : PySem.W.Frag} {H H' H1 : Hp} {a s l : Addr} {xs ys : List V}
theorem Kp.refl (H : Hp) : Kp H H := ⟨fun _ xs h => ⟨xs, h⟩, fun _ _ h => h⟩
theorem Kp.trans (e : Kp H H1) (f : Kp H1 H') : Kp H H' := ⟨fun a xs h => by
  obtain ⟨ys, h1⟩ := e.1 a xs h
  exact f.1 a ys h1, fun a xs h => f.2 a xs (e.2 a xs h)⟩
theorem Kp.ex (e : Ex H H') : Kp H H' := ⟨fun a xs h => ⟨xs, e a _ h⟩, fun a xs h => e a _ h⟩
theorem Kp.fr (e : Fr s H H') (h : H s = some (.lst xs)) (h2 : H' s = some (.lst ys)) : Kp H H' := ⟨fun a zs q => by
  by_cases z : a = s
  · rw [z]
    exact ⟨_, h2⟩
  · exact ⟨_, e a _ z q⟩, fun a zs q => e a _ (fun z => by rw [z, h] at q; cases q) q⟩
theorem Kp.put (h : H l = some (.lst xs)) : Kp H (upd H l (.lst ys)) := ⟨fun a zs q => by
  by_cases z : a = l
  · rw [z]
    exact ⟨_, upd_same⟩
  · exact ⟨zs, by rw [upd_ne z]; exact q⟩, fun a zs q => by
  rw [upd_ne (fun z => by rw [z, h] at q; cases q)]
  exact q⟩
/-- the values of the law that asks is_term -/
inductive Kd (H : Hp) : V → Prop
  | int (i : Int) : Kd H (.int i)
  | str (x : Str) : Kd H (.str x)
  | bl (b : Bool) : Kd H (.bl b)
  | non : Kd H .non
  | lst {a : Addr} {xs : List V} (h : H a = some (.lst xs)) : Kd H (.ref a)
  | tup {a : Addr} {xs : List V} (h : H a = some (.tup xs)) : Kd H (.ref a)
theorem Kd.mono {v : V} (h : Kd H v) (e : Kp H H') : Kd H' v := by
  cases h with
  | int i => exact .int i
  | str x => exact .str x
  | bl b => exact .bl b
  | non => exact .non
  | lst h =>
    obtain ⟨ys, h⟩ := e.1 _ _ h
    exact .lst h
  | tup h => exact .tup (e.2 _ _ h)
end
theorem Kd.ty {H : Hp} {v : V} (h : Kd H v) (K : PySem.W.Frag) : ∃ n, TyX K H v (.type n) ∧ n = (match v with | .int _ => "int" | .str _ => "str" | .bl _ => "bool" | .non => "NoneType" | _ => n) := by
  cases h with
  | int i => exact ⟨_, .base (.int i), rfl⟩
  | str i => exact ⟨_, .base (.str i), rfl⟩
  | bl i => exact ⟨_, .base (.bl i), rfl⟩
  | non => exact ⟨_, .base .non, rfl⟩
  | lst h => exact ⟨_, .base (.lst h), rfl⟩
  | tup h => exact ⟨_, .base (.tup h), rfl⟩
theorem qeq {Q : VK} {H : Hp} {b c : Bool} (q : Q (.bl b) H) (e : b = c) : Q (.bl c) H := by
  rw [← e]
  exact q
theorem all_nil {H : Hp} : ∀ x ∈ ([] : List V), Kd H x := fun x h => absurd h (by simp)
theorem all_cons {H : Hp} {v : V} {xs : List V} (h : Kd H v) (t : ∀ x ∈ xs, Kd H x) : ∀ x ∈ v :: xs, Kd H x := fun x hx => by
  rcases List.mem_cons.mp hx with e | e
  · rw [e]
    exact h
  · exact t x e
theorem all_app {H : Hp} {xs ys : List V} (h : ∀ x ∈ xs, Kd H x) (t : ∀ x ∈ ys, Kd H x) : ∀ x ∈ xs ++ ys, Kd H x := fun x hx => by
  rcases List.mem_append.mp hx with e | e
  · exact h x e
  · exact t x e
theorem all_kp {H H' : Hp} {xs : List V} (h : ∀ x ∈ xs, Kd H x) (e : Kp H H') : ∀ x ∈ xs, Kd H' x := fun x hx => (h x hx).mono e
theorem at_in {xs : List V} {i : Int} (h0 : 0 ≤ i) (h1 : i < xs.length) : ∃ v, atI xs i = some v ∧ v ∈ xs := by
  have h2 : i.toNat < xs.length := by omega
  refine ⟨xs[i.toNat], at_of (j := i.toNat) (by omega) (List.getElem?_eq_getElem h2), List.getElem_mem h2⟩
/-! ### isinstance of built-in values -/
section
variable {K : PySem.W.Frag}
theorem kit_int_int : PySem.W.kitOne K (.type "int") (.type "int") = some true := kit_ty (by decide +kernel)
theorem kit_int_str : PySem.W.kitOne K (.type "int") (.type "str") = some false := kit_ty (by decide +kernel)
theorem kit_int_bool : PySem.W.kitOne K (.type "int") (.type "bool") = some false := kit_ty (by decide +kernel)
theorem kit_int_tuple : PySem.W.kitOne K (.type "int") (.type "tuple") = some false := kit_ty (by decide +kernel)
theorem kit_int_list : PySem.W.kitOne K (.type "int") (.type "list") = some false := kit_ty (by decide +kernel)
theorem kit_str_int : PySem.W.kitOne K (.type "str") (.type "int") = some false := kit_ty (by decide +kernel)
theorem kit_str_str : PySem.W.kitOne K (.type "str") (.type "str") = some true := kit_ty (by decide +kernel)
theorem kit_str_bool : PySem.W.kitOne K (.type "str") (.type "bool") = some false := kit_ty (by decide +kernel)
theorem kit_str_tuple : PySem.W.kitOne K (.type "str") (.type "tuple") = some false := kit_ty (by decide +kernel)
theorem kit_str_list : PySem.W.kitOne K (.type "str") (.type "list") = some false := kit_ty (by decide +kernel)
theorem kit_bool_int : PySem.W.kitOne K (.type "bool") (.type "int") = some true := kit_ty (by decide +kernel)
theorem kit_bool_str : PySem.W.kitOne K (.type "bool") (.type "str") = some false := kit_ty (by decide +kernel)
theorem kit_bool_bool : PySem.W.kitOne K (.type "bool") (.type "bool") = some true := kit_ty (by decide +kernel)
theorem kit_bool_tuple : PySem.W.kitOne K (.type "bool") (.type "tuple") = some false := kit_ty (by decide +kernel)
theorem kit_bool_list : PySem.W.kitOne K (.type "bool") (.type "list") = some false := kit_ty (by decide +kernel)
theorem kit_NoneType_int : PySem.W.kitOne K (.type "NoneType") (.type "int") = some false := kit_ty (by decide +kernel)
theorem kit_NoneType_str : PySem.W.kitOne K (.type "NoneType") (.type "str") = some false := kit_ty (by decide +kernel)
theorem kit_NoneType_bool : PySem.W.kitOne K (.type "NoneType") (.type "bool") = some false := kit_ty (by decide +kernel)
theorem kit_NoneType_tuple : PySem.W.kitOne K (.type "NoneType") (.type "tuple") = some false := kit_ty (by decide +kernel)
theorem kit_NoneType_list : PySem.W.kitOne K (.type "NoneType") (.type "list") = some false := kit_ty (by decide +kernel)
theorem kit_list_int : PySem.W.kitOne K (.type "list") (.type "int") = some false := kit_ty (by decide +kernel)
theorem kit_list_str : PySem.W.kitOne K (.type "list") (.type "str") = some false := kit_ty (by decide +kernel)
theorem kit_list_bool : PySem.W.kitOne K (.type "list") (.type "bool") = some false := kit_ty (by decide +kernel)
theorem kit_list_tuple : PySem.W.kitOne K (.type "list") (.type "tuple") = some false := kit_ty (by decide +kernel)
theorem kit_list_list : PySem.W.kitOne K (.type "list") (.type "list") = some true := kit_ty (by decide +kernel)
theorem kit_tuple_int : PySem.W.kitOne K (.type "tuple") (.type "int") = some false := kit_ty (by decide +kernel)
theorem kit_tuple_str : PySem.W.kitOne K (.type "tuple") (.type "str") = some false := kit_ty (by decide +kernel)
theorem kit_tuple_bool : PySem.W.kitOne K (.type "tuple") (.type "bool") = some false := kit_ty (by decide +kernel)
theorem kit_tuple_tuple : PySem.W.kitOne K (.type "tuple") (.type "tuple") = some true := kit_ty (by decide +kernel)
theorem kit_tuple_list : PySem.W.kitOne K (.type "tuple") (.type "list") = some false := kit_ty (by decide +kernel)
end
/-- a def that may be called by its name -/
def Def (P : Program) (w : World) (K : PySem.W.Frag) (mg : Str → Option Value) (base : Heap) (CX : CXT) (k : Nat) (x : Str) (ps : List Str) (sp : Sp) : Prop :=
  ∃ (f : Addr) (fd : FuncData), mg x = some (.ref f) ∧ PySem.W.keepIn K (.ref f) = true ∧ Binds K fd ps [] ∧ FnOk P w K mg base CX k f fd ps sp
theorem Def.of {P : Program} {w : World} {K : PySem.W.Frag} {mg : Str → Option Value} {base : Heap} {CX : CXT} {k : Nat} {x : Str} {ps : List Str} {sp : Sp} {f : Addr} {fd : FuncData} (g : mg x = some (.ref f)) (kp : PySem.W.keepIn K (.ref f) = true) (b : Binds K fd ps []) (G : FnOk P w K mg base CX k f fd ps sp) : Def P w K mg base CX k x ps sp := ⟨f, fd, g, kp, b, G⟩
theorem drop_at {α : Type} {xs : List α} {i : Nat} {x : α} (h : xs[i]? = some x) : xs.drop i = x :: xs.drop (i + 1) := by
  obtain ⟨h1, rfl⟩ := List.getElem?_eq_some_iff.mp h
  exact List.drop_eq_getElem_cons h1
/-! ### nodes and terms, as values -/
def isVarV : V → Bool
  | .int i => decide (0 ≤ i) && decide (i ≤ 1000000)
  | _ => false
def isNodeV : V → Bool
  | .str x => decide (x = "lam") || decide (x = "app")
  | v => isVarV v
def pcV (v : V) : Int := if v = .str "app" then 2 else if v = .str "lam" then 1 else 0
def scanV : Int → List V → Bool
  | m, [] => decide (m = 0)
  | m, v :: r => if m = 0 ∨ isNodeV v = false then false else scanV (m + (pcV v - 1)) r
def isTermV (xs : List V) : Bool := decide (xs.length ≤ 1000) && scanV 1 xs
/-! ### terms -/
inductive Tm where
  | var (n : Nat)
  | lam (b : Tm)
  | app (f a : Tm)
def Tm.enc : Tm → List V
  | .var n => [.int n]
  | .lam b => .str "lam" :: b.enc
  | .app f a => .str "app" :: (f.enc ++ a.enc)
/-- its free variables are below d -/
def Tm.wf : Nat → Tm → Prop
  | d, .var n => n < d
  | d, .lam b => b.wf (d + 1)
  | d, .app f a => f.wf d ∧ a.wf d
def encs (ts : List Tm) : List V := (ts.map Tm.enc).flatten
/-- whatever terms stand for what waits (the last one first), the whole is a term -/
def Comp (loose : Nat) (nodes : List V) (wait : List Nat) : Prop := ∀ ts : List Tm, ts.length = wait.length → (∀ p ∈ ts.zip wait.reverse, p.1.wf (p.2 + loose)) → ∃ t : Tm, t.wf loose ∧ t.enc = nodes ++ encs ts
theorem Comp.start (loose : Nat) : Comp loose [] [0] := fun ts hl hw => by
  match ts, hl with
  | [t], _ =>
    refine ⟨t, ?_, by simp [encs]⟩
    have := hw (t, 0) (by simp)
    simpa using this
theorem Comp.done {loose : Nat} {nodes : List V} (h : Comp loose nodes []) : ∃ t : Tm, t.wf loose ∧ t.enc = nodes := by
  obtain ⟨t, h1, h2⟩ := h [] rfl (by simp)
  exact ⟨t, h1, by rw [h2]; simp [encs]⟩
theorem Comp.var {loose : Nat} {nodes : List V} {wait : List Nat} {d n : Nat} (h : Comp loose nodes (wait ++ [d])) (hn : n < d + loose) : Comp loose (nodes ++ [.int n]) wait := fun ts hl hw => by
  obtain ⟨t, h1, h2⟩ := h (.var n :: ts) (by simp [hl]) (fun p hp => by
    rw [List.reverse_append] at hp
    rcases List.mem_cons.mp hp with e | e
    · subst e
      exact hn
    · exact hw p e)
  exact ⟨t, h1, by rw [h2]; simp [encs, Tm.enc]⟩
theorem Comp.lam {loose : Nat} {nodes : List V} {wait : List Nat} {d : Nat} (h : Comp loose nodes (wait ++ [d])) : Comp loose (nodes ++ [.str "lam"]) (wait ++ [d + 1]) := fun ts hl hw => by
  match ts, hl with
  | [], hl => simp at hl
  | b :: r, hl =>
    rw [List.reverse_append] at hw
    obtain ⟨t, h1, h2⟩ := h (.lam b :: r) (by simpa using hl) (fun p hp => by
      rw [List.reverse_append] at hp
      rcases List.mem_cons.mp hp with e | e
      · subst e
        have := hw (b, d + 1) (by simp)
        show b.wf (d + loose + 1)
        have e2 : d + loose + 1 = d + 1 + loose := by omega
        rw [e2]
        exact this
      · exact hw p (List.mem_cons_of_mem _ e))
    exact ⟨t, h1, by rw [h2]; simp [encs, Tm.enc]⟩
theorem Comp.app {loose : Nat} {nodes : List V} {wait : List Nat} {d : Nat} (h : Comp loose nodes (wait ++ [d])) : Comp loose (nodes ++ [.str "app"]) (wait ++ [d] ++ [d]) := fun ts hl hw => by
  match ts, hl with
  | [], hl => simp at hl
  | [_], hl => simp at hl
  | f :: a :: r, hl =>
    rw [List.reverse_append, List.reverse_append] at hw
    obtain ⟨t, h1, h2⟩ := h (.app f a :: r) (by simpa using hl) (fun p hp => by
      rw [List.reverse_append] at hp
      rcases List.mem_cons.mp hp with e | e
      · subst e
        exact ⟨hw (f, d) (by simp), hw (a, d) (by simp)⟩
      · exact hw p (List.mem_cons_of_mem _ (List.mem_cons_of_mem _ e)))
    exact ⟨t, h1, by rw [h2]; simp [encs, Tm.enc]⟩
def Flat (xs : List V) : Prop := ∀ x ∈ xs, (∃ i, x = .int i) ∨ ∃ s, x = .str s
theorem Flat.kd {xs : List V} (h : Flat xs) (H : Hp) : ∀ x ∈ xs, Kd H x := fun x hx => by
  rcases h x hx with ⟨i, rfl⟩ | ⟨s, rfl⟩
  · exact .int i
  · exact .str s
theorem Flat.app {xs ys : List V} (h : Flat xs) (t : Flat ys) : Flat (xs ++ ys) := fun x hx => by
  rcases List.mem_append.mp hx with e | e
  · exact h x e
  · exact t x e
theorem Flat.rep {xs : List V} (h : Flat xs) (n : Nat) : Flat (List.replicate n xs).flatten := fun x hx => by
  obtain ⟨l, h1, h2⟩ := List.mem_flatten.mp hx
  rw [(List.mem_replicate.mp h1).2] at h2
  exact h x h2
theorem Flat.one (x : V) (h : (∃ i, x = .int i) ∨ ∃ s, x = .str s) : Flat [x] := fun y hy => by
  rw [List.mem_singleton.mp hy]
  exact h
theorem Flat.two (x z : V) (h : (∃ i, x = .int i) ∨ ∃ s, x = .str s) (h2 : (∃ i, z = .int i) ∨ ∃ s, z = .str s) : Flat [x, z] := fun y hy => by
  rcases List.mem_cons.mp hy with e | e
  · rw [e]
    exact h
  · rw [List.mem_singleton.mp e]
    exact h2
theorem Flat.cons {x : V} {xs : List V} (h : (∃ i, x = .int i) ∨ ∃ s, x = .str s) (t : Flat xs) : Flat (x :: xs) := fun y hy => by
  rcases List.mem_cons.mp hy with e | e
  · rw [e]
    exact h
  · exact t y e
theorem Flat.nil : Flat [] := fun x h => absurd h (by simp)
theorem Tm.flat : ∀ t : Tm, Flat t.enc
  | .var n => Flat.one _ (.inl ⟨_, rfl⟩)
  | .lam b => Flat.cons (.inr ⟨_, rfl⟩) b.flat
  | .app f a => Flat.cons (.inr ⟨_, rfl⟩) (f.flat.app a.flat)
/-- no variable too great -/
def okV : V → Bool
  | .int i => decide (i ≤ 1000000)
  | _ => true
def fitsV (xs : List V) : Bool := decide (xs.length ≤ 1000) && xs.all okV
/-! ### nodes compared -/
def Nds (xs : List V) : Prop := ∀ x ∈ xs, (∃ i, x = .int i) ∨ x = .str "lam" ∨ x = .str "app"
theorem Nds.flat {xs : List V} (h : Nds xs) : Flat xs := fun x hx => by
  rcases h x hx with e | e | e
  · exact .inl e
  · exact .inr ⟨_, e⟩
  · exact .inr ⟨_, e⟩
theorem Nds.nil : Nds [] := fun x h => absurd h (by simp)
theorem Nds.app {xs ys : List V} (h : Nds xs) (t : Nds ys) : Nds (xs ++ ys) := fun x hx => by
  rcases List.mem_append.mp hx with e | e
  · exact h x e
  · exact t x e
theorem Nds.cons {x : V} {xs : List V} (h : (∃ i, x = .int i) ∨ x = .str "lam" ∨ x = .str "app") (t : Nds xs) : Nds (x :: xs) := fun y hy => by
  rcases List.mem_cons.mp hy with e | e
  · rw [e]
    exact h
  · exact t y e
theorem Nds.rep {xs : List V} (h : Nds xs) (n : Nat) : Nds (List.replicate n xs).flatten := fun x hx => by
  obtain ⟨l, h1, h2⟩ := List.mem_flatten.mp hx
  rw [(List.mem_replicate.mp h1).2] at h2
  exact h x h2
theorem Nds.tail {x : V} {xs : List V} (h : Nds (x :: xs)) : Nds xs := fun y hy => h y (List.mem_cons_of_mem _ hy)
theorem Nds.take {xs : List V} (h : Nds xs) (n : Nat) : Nds (xs.take n) := fun x hx => h x (List.mem_of_mem_take hx)
theorem Nds.drop {xs : List V} (h : Nds xs) (n : Nat) : Nds (xs.drop n) := fun x hx => h x (List.mem_of_mem_drop hx)
theorem Nds.I (i : Int) : (∃ j, V.int i = .int j) ∨ V.int i = .str "lam" ∨ V.int i = .str "app" := .inl ⟨i, rfl⟩
theorem Nds.L : (∃ j, V.str "lam" = .int j) ∨ V.str "lam" = .str "lam" ∨ V.str "lam" = .str "app" := .inr (.inl rfl)
theorem Nds.A : (∃ j, V.str "app" = .int j) ∨ V.str "app" = .str "lam" ∨ V.str "app" = .str "app" := .inr (.inr rfl)
theorem Tm.nds : ∀ t : Tm, Nds t.enc
  | .var n => Nds.cons (Nds.I _) Nds.nil
  | .lam b => Nds.cons Nds.L b.nds
  | .app f a => Nds.cons Nds.A (f.nds.app a.nds)
def dv : V → PyData
  | .int i => .int i
  | .str x => .str x
  | _ => .none
theorem eqv_nodes : ∀ {xs ys : List V}, Nds xs → Nds ys → PyData.eqvAll (xs.map dv) (ys.map dv) = decide (xs = ys)
  | [], [], _, _ => by simp [PyData.eqvAll]
  | [], _ :: _, _, _ => by simp [PyData.eqvAll]
  | _ :: _, [], _, _ => by simp [PyData.eqvAll]
  | x :: xs, y :: ys, h, k => by
    have ih := eqv_nodes h.tail k.tail
    have hxy : PyData.eqv (dv x) (dv y) = decide (x = y) := by
      rcases h x List.mem_cons_self with ⟨i, rfl⟩ | rfl | rfl <;> rcases k y List.mem_cons_self with ⟨j, rfl⟩ | rfl | rfl <;> simp [dv, PyData.eqv] <;> first | (rw [Bool.eq_iff_iff]; simp) | decide +kernel
    rw [List.map_cons, List.map_cons, PyData.eqvAll, ih, hxy]
    simp
theorem lay_nodes : ∀ {xs : List V}, Nds xs → PyData.canLayAll0 (xs.map dv) = true
  | [], _ => rfl
  | x :: xs, h => by
    have ih := lay_nodes h.tail
    have hx : (dv x).canLay0 = true := by
      rcases h x List.mem_cons_self with ⟨i, rfl⟩ | rfl | rfl
      · rfl
      · decide +kernel
      · decide +kernel
    rw [List.map_cons, PyData.canLayAll0, hx, ih]
    rfl
theorem dp_nodes {K : PySem.W.Frag} {H : Hp} : ∀ {xs : List V}, Nds xs → DpAll K H xs (xs.map dv)
  | [], _ => .nil
  | x :: xs, h => by
    refine .cons ?_ (dp_nodes h.tail)
    rcases h x List.mem_cons_self with ⟨i, rfl⟩ | rfl | rfl
    · exact .int i
    · exact .str _
    · exact .str _
theorem depth_atom (x : V) : (dv x).depth ≤ 1 := by
  cases x <;> simp [dv, PyData.depth]
theorem depth_all : ∀ xs : List V, PyData.depthAll (xs.map dv) ≤ 1
  | [] => by simp [PyData.depthAll]
  | x :: xs => by
    have h1 := depth_atom x
    have h2 := depth_all xs
    simp only [List.map_cons, PyData.depthAll]
    omega
theorem depth_nodes {xs : List V} : (PyData.tuple (xs.map dv)).depth ≤ 2 := by
  have h := depth_all xs
  simp only [PyData.depth]
  omega
theorem shaped_nodes {xs : List V} (h : Nds xs) : SeqAt.shaped (.tuple (xs.map dv)) = true := by
  have h1 : (PyData.tuple (xs.map dv)).canLay0 = true := lay_nodes h
  have h2 := depth_nodes (xs := xs)
  unfold SeqAt.shaped
  rw [h1, Bool.true_and]
  exact decide_eq_true (by omega)
section
variable {K : PySem.W.Frag} {H : Hp} {Q : VK} {a b : Addr} {xs ys : List V}
theorem w_eqN (h : SqT K H a xs) (k : SqT K H b ys) (n : Nds xs) (m : Nds ys) (q : Q (.bl (decide (xs = ys))) H) : rEqD K (.ref a) (.ref b) H Q :=
  ⟨_, _, .tup h (dp_nodes n), .tup k (dp_nodes m), shaped_nodes n, shaped_nodes m, by rw [PyData.eqv, eqv_nodes n m]; exact q⟩
theorem w_neN (h : SqT K H a xs) (k : SqT K H b ys) (n : Nds xs) (m : Nds ys) (q : Q (.bl (!decide (xs = ys))) H) : rNeD K (.ref a) (.ref b) H Q :=
  ⟨_, _, .tup h (dp_nodes n), .tup k (dp_nodes m), shaped_nodes n, shaped_nodes m, by rw [PyData.eqv, eqv_nodes n m]; exact q⟩
theorem w_neNon (k : SqT K H b ys) (m : Nds ys) (q : Q (.bl true) H) : rNeD K .non (.ref b) H Q :=
  ⟨_, _, .non, .tup k (dp_nodes m), by decide, shaped_nodes m, q⟩
theorem w_eqNon (k : SqT K H b ys) (m : Nds ys) (q : Q (.bl false) H) : rEqD K .non (.ref b) H Q :=
  ⟨_, _, .non, .tup k (dp_nodes m), by decide, shaped_nodes m, q⟩
end
theorem ly_sz {n : Nat} (h : n ≤ 16000000) : n ≤ sizeLine := by
  rw [sizeLine_eq]
  omega
def Tm.lamN : Nat → Tm → Tm
  | 0, t => t
  | n + 1, t => .lam (Tm.lamN n t)
def Tm.rowN (c : Nat) : Nat → Tm → Tm
  | 0, t => t
  | n + 1, t => .app (.var c) (Tm.rowN c n t)
theorem Tm.enc_lamN (n : Nat) (t : Tm) : (Tm.lamN n t).enc = (List.replicate n [V.str "lam"]).flatten ++ t.enc := by
  induction n with
  | zero => rfl
  | succ n ih =>
    show V.str "lam" :: (Tm.lamN n t).enc = _
    rw [ih, List.replicate_succ]
    rfl
theorem Tm.enc_rowN (c n : Nat) (t : Tm) : (Tm.rowN c n t).enc = (List.replicate n [V.str "app", V.int c]).flatten ++ t.enc := by
  induction n with
  | zero => rfl
  | succ n ih =>
    show V.str "app" :: ([V.int c] ++ (Tm.rowN c n t).enc) = _
    rw [ih, List.replicate_succ]
    rfl
/-- the greatest variable is at most M -/
def Tm.vars (M : Nat) : Tm → Prop
  | .var n => n ≤ M
  | .lam b => b.vars M
  | .app f a => f.vars M ∧ a.vars M
theorem Tm.vars_lamN {M n : Nat} {t : Tm} (h : t.vars M) : (Tm.lamN n t).vars M := by
  induction n with
  | zero => exact h
  | succ n ih => exact ih
theorem Tm.vars_rowN {M c n : Nat} {t : Tm} (hc : c ≤ M) (h : t.vars M) : (Tm.rowN c n t).vars M := by
  induction n with
  | zero => exact h
  | succ n ih => exact ⟨hc, ih⟩
theorem Tm.vars_mono {M N : Nat} (hm : M ≤ N) : ∀ {t : Tm}, t.vars M → t.vars N
  | .var n, h => Nat.le_trans h hm
  | .lam b, h => Tm.vars_mono hm (t := b) h
  | .app f a, h => ⟨Tm.vars_mono hm (t := f) h.1, Tm.vars_mono hm (t := a) h.2⟩
theorem Tm.vars_wf : ∀ {t : Tm} {d : Nat}, t.wf d → t.vars (d + t.enc.length)
  | .var n, d, h => by
    show n ≤ d + 1
    have : n < d := h
    omega
  | .lam b, d, h => by
    have := Tm.vars_wf (t := b) (d := d + 1) h
    exact Tm.vars_mono (by simp [Tm.enc]; omega) this
  | .app f a, d, h => by
    have h1 := Tm.vars_wf (t := f) h.1
    have h2 := Tm.vars_wf (t := a) h.2
    exact ⟨Tm.vars_mono (by simp [Tm.enc]; omega) h1, Tm.vars_mono (by simp [Tm.enc]; omega) h2⟩
theorem pcV_lam : pcV (.str "lam") = 1 := by decide +kernel
theorem pcV_app : pcV (.str "app") = 2 := by decide +kernel
theorem pcV_int (i : Int) : pcV (.int i) = 0 := rfl
theorem node_lam : isNodeV (.str "lam") = true := by decide +kernel
theorem node_app : isNodeV (.str "app") = true := by decide +kernel
theorem node_int {i : Int} (h : 0 ≤ i) (h2 : i ≤ 1000000) : isNodeV (.int i) = true := by simp [isNodeV, isVarV, h, h2]
theorem scan_enc : ∀ (t : Tm), t.vars 1000000 → ∀ (k : Int) (r : List V), 0 ≤ k → scanV (k + 1) (t.enc ++ r) = scanV k r
  | .var n, h, k, r, hk => by
    have h : n ≤ 1000000 := h
    show scanV (k + 1) (V.int n :: r) = _
    have e : k + 1 + (0 - 1) = k := by omega
    rw [scanV, if_neg (by rw [node_int (by omega) (by omega)]; simp; omega), pcV_int, e]
  | .lam b, h, k, r, hk => by
    show scanV (k + 1) (V.str "lam" :: (b.enc ++ r)) = _
    have e : k + 1 + (1 - 1) = k + 1 := by omega
    rw [scanV, if_neg (by rw [node_lam]; simp; omega), pcV_lam, e]
    exact scan_enc b h k r hk
  | .app f a, h, k, r, hk => by
    show scanV (k + 1) (V.str "app" :: (f.enc ++ a.enc ++ r)) = _
    have e : k + 1 + (2 - 1) = k + 1 + 1 := by omega
    rw [scanV, if_neg (by rw [node_app]; simp; omega), pcV_app, e, List.append_assoc, scan_enc f h.1 (k + 1) _ (by omega)]
    exact scan_enc a h.2 k r hk
theorem scan_tm {t : Tm} (h : t.vars 1000000) : scanV 1 t.enc = true := by
  have := scan_enc t h 0 [] (by omega)
  rw [List.append_nil] at this
  rw [show (1 : Int) = 0 + 1 from rfl, this]
  rfl
theorem ok_vars : ∀ {t : Tm}, t.vars 1000000 → t.enc.all okV = true
  | .var n, h => by
    have h : n ≤ 1000000 := h
    simp [Tm.enc, okV]
    omega
  | .lam b, h => by
    have := ok_vars (t := b) h
    simp only [Tm.enc, List.all_cons, this]
    rfl
  | .app f a, h => by
    have h1 := ok_vars (t := f) h.1
    have h2 := ok_vars (t := a) h.2
    simp only [Tm.enc, List.all_cons, List.all_append, h1, h2]
    rfl
/-! ### the law's stream of numbers -/
structure Stm where
  home : Addr
  cells : List Int
  cur : Int
  pos : Nat
  mix : Int
def Stm.take (m : Stm) : Stm := if m.cur = 0 ∧ m.pos < m.cells.length then { m with cur := (if m.cells.getD m.pos 0 < 0 then -(m.cells.getD m.pos 0) else m.cells.getD m.pos 0), pos := m.pos + 1 } else m
def Stm.turn (m : Stm) : Stm := { m with mix := (m.mix * 48271 + 11).fmod 2147483647 }
def Stm.next (m : Stm) (n : Int) : Stm := if m.take.cur = 0 then m.take.turn else { m.take with cur := m.take.cur.fdiv n }
def Stm.val (m : Stm) (n : Int) : Int := if m.take.cur = 0 then (m.take.turn.mix.fdiv 97).fmod n else m.take.cur.fmod n
theorem fmod_lt {a n : Int} (h : 0 < n) : 0 ≤ a.fmod n ∧ a.fmod n < n := ⟨Int.fmod_nonneg_of_pos a h, Int.fmod_lt_of_pos a h⟩
theorem Stm.val_lt (m : Stm) {n : Int} (h : 0 < n) : 0 ≤ m.val n ∧ m.val n < n := by
  unfold Stm.val
  split
  · exact fmod_lt h
  · exact fmod_lt h
def mixOf (ns : List Int) : Int := ns.foldl (fun m c => (m * 48271 + c.fmod 65521 + 1).fmod 2147483647) 17
theorem mixOf_take {ns : List Int} {i : Nat} {z : Int} (h : ns[i]? = some z) : mixOf (ns.take (i + 1)) = (mixOf (ns.take i) * 48271 + z.fmod 65521 + 1).fmod 2147483647 := by
  rw [List.take_add_one, h]
  unfold mixOf
  rw [List.foldl_append]
  rfl
theorem get_int {ns : List Int} {i : Nat} {x : V} (h : (ns.map V.int)[i]? = some x) : ∃ z, ns[i]? = some z ∧ x = .int z := by
  rw [List.getElem?_map] at h
  cases e : ns[i]? with
  | none => rw [e] at h; cases h
  | some z => rw [e] at h; exact ⟨z, rfl, (Option.some.inj h).symm⟩
theorem at_map {ns : List Int} {j : Nat} (h : j < ns.length) : atI (ns.map V.int) (j : Int) = some (.int (ns.getD j 0)) := by
  refine atI_nat ?_
  rw [List.getElem?_map, List.getElem?_eq_getElem h, List.getD_eq_getElem?_getD, List.getElem?_eq_getElem h]
  rfl
theorem Stm.take_cells (m : Stm) : m.take.cells = m.cells := by
  unfold Stm.take
  split <;> rfl
theorem Stm.take_home (m : Stm) : m.take.home = m.home := by
  unfold Stm.take
  split <;> rfl
/-- the stream goes on: the same list of numbers at the same place -/
def Fol (m m' : Stm) : Prop := m'.home = m.home ∧ m'.cells = m.cells
theorem Fol.refl (m : Stm) : Fol m m := ⟨rfl, rfl⟩
theorem Fol.trans {m m1 m2 : Stm} (h : Fol m m1) (k : Fol m1 m2) : Fol m m2 := ⟨k.1.trans h.1, k.2.trans h.2⟩
theorem Fol.next (m : Stm) (n : Int) : Fol m (m.next n) := by
  unfold Stm.next
  split
  · exact ⟨m.take_home, m.take_cells⟩
  · exact ⟨m.take_home, m.take_cells⟩
theorem Fol.step {m m1 : Stm} (h : Fol m m1) (n : Int) : Fol m (m1.next n) := h.trans (Fol.next m1 n)
def StAt (H : Hp) (s : Addr) (m : Stm) : Prop := m.home ≠ s ∧ H s = some (.lst [.ref m.home, .int m.cur, .int m.pos, .int m.mix]) ∧ H m.home = some (.lst (m.cells.map V.int))
theorem StAt.ex {H H' : Hp} {s : Addr} {m : Stm} (h : StAt H s m) (e : Ex H H') : StAt H' s m := ⟨h.1, e _ _ h.2.1, e _ _ h.2.2⟩
theorem StAt.is {H : Hp} {s : Addr} {m : Stm} (h : StAt H s m) : ∃ ys, H s = some (.lst ys) := ⟨_, h.2.1⟩
theorem StAt.put {H : Hp} {s r : Addr} {m : Stm} {o : HO} (h : StAt H s m) (hs : r ≠ s) (hl : r ≠ m.home) : StAt (upd H r o) s m :=
  ⟨h.1, by rw [upd_ne hs.symm]; exact h.2.1, by rw [upd_ne hl.symm]; exact h.2.2⟩
theorem StAt.new {H : Hp} {s r : Addr} {m : Stm} {o : HO} (h : StAt H s m) (hr : H r = none) : StAt (upd H r o) s m := h.ex (Ex.new hr)
theorem StAt.ne {H : Hp} {s r : Addr} {m : Stm} (h : StAt H s m) (hr : H r = none) : r ≠ s ∧ r ≠ m.home := ⟨(ne_of_none h.2.1 hr).symm, (ne_of_none h.2.2 hr).symm⟩
theorem Kp.st {H H' : Hp} {s : Addr} {m m' : Stm} (e : Fr s H H') (h : StAt H s m) (h' : StAt H' s m') : Kp H H' := by
  obtain ⟨ys, h⟩ := h.is
  obtain ⟨zs, h'⟩ := h'.is
  exact Kp.fr e h h'
end Ly
set_option Elab.async false
set_option linter.all false
set_option maxRecDepth 100000
namespace Ly
open PySem PySem.Spec PyProof.Rows L2 Evl
local macro_rules | `(tactic| walk_at "ne") => `(tactic| first
  | assumption
  | ((refine' Ne.symm ?hq); (case hq => assumption))
  | ((refine' ne_of_none ?nh1 ?nh2); (case nh2 => assumption); (case nh1 => walk_at "hp"))
  | ((refine' Ne.symm (ne_of_none ?nh1 ?nh2)); (case nh2 => assumption); (case nh1 => walk_at "hp")))
local macro_rules | `(tactic| walk_at "hp") => `(tactic| first
  | assumption
  | exact upd_same
  | ((refine' SqL.of ?hq); (case hq => walk_at "hp"))
  | ((refine' SqT.of ?hq); (case hq => walk_at "hp"))
  | ((refine' (upd_ne ?hne).trans ?hrest); (case hne => walk_at "ne"); (case hrest => walk_at "hp"))
  | ((refine' ly_at ?hex ?hh); (case hex => assumption); (case hh => walk_at "hp"))
  | ((refine' ly_atF ?hex ?hnn ?hh); (case hex => assumption); (case hh => walk_at "hp"); (case hnn => walk_at "ne"))
  | ((refine' ex_t ?hex ?hh); (case hh => assumption); (case hex => walk_at "ex"))
  | ((refine' ex_l ?hex ?hh); (case hh => assumption); (case hex => walk_at "ex")))
local macro_rules | `(tactic| walk_at "ex") => `(tactic| first
  | assumption
  | exact Ex.refl _
  | ((refine' ex_new ?xa ?xb); (case xb => assumption); (case xa => walk_at "ex"))
  | ((refine' ex_upd ?xa ?xb); (case xb => walk_at "free"); (case xa => walk_at "ex"))
  | ((refine' Ex.trans ?xa ?xb); (case xb => assumption); (case xa => walk_at "ex")))
local macro_rules | `(tactic| walk_at "free") => `(tactic| first
  | assumption
  | ((refine' fresh_back ?xa ?xb); (case xb => assumption); (case xa => walk_at "ex")))
local macro_rules | `(tactic| walk_at "fr") => `(tactic| first
  | assumption
  | exact Fr.refl _ _
  | ((refine' Fr.own ?hq); (case hq => walk_at "fr"))
  | ((refine' Fr.new ?xa ?xb); (case xb => assumption); (case xa => walk_at "fr"))
  | ((refine' Fr.mut ?xa ?xb); (case xb => assumption); (case xa => walk_at "fr"))
  | ((refine' Fr.trans ?xa ?xb); (case xb => assumption); (case xa => walk_at "fr"))
  | ((refine' Fr.trans ?xa (Fr.ex ?xb)); (case xb => assumption); (case xa => walk_at "fr")))
local macro_rules | `(tactic| walk_at "go1") => `(tactic| first
  | (with_reducible refine' w_seq ?_)
  | (with_reducible refine' w_asg ?_)
  | (with_reducible refine' w_ret ?_)
  | (with_reducible refine' w_drop ?_)
  | (with_reducible refine' w_if ?_)
  | (with_reducible refine' w_next ?_)
  | (with_reducible refine' w_name ?_)
  | (with_reducible refine' w_sub ?_)
  | ((with_reducible refine' w_var ?hv ?_); (case hv => exact rfl))
  | (with_reducible refine' w_c ?_)
  | (with_reducible refine' w_op ?_)
  | (with_reducible refine' w_un ?_)
  | (with_reducible refine' w_ch ?_)
  | (with_reducible refine' w_I0 ?_)
  | ((with_reducible refine' w_I ?hc ?_); (case hc => first | (exact ly_mulL (by decide) (by decide)) | (exact ly_mulR (by decide) (by decide)) | (show (_ : Int) ≠ 0; decide) | (show (_ : Int) ≠ 0; omega) | (exact ⟨by decide, by decide⟩) | (exact ⟨by omega, by omega⟩)))
  | (with_reducible refine' w_U ?_)
  | ((with_reducible refine' w_eq ?hs ?_); (case hs => exact rfl))
  | ((with_reducible refine' w_ne ?hs ?_); (case hs => exact rfl))
  | (with_reducible refine' w_isB ?_)
  | (with_reducible refine' w_notB ?_)
  | (with_reducible refine' w_nil ?_)
  | (with_reducible refine' w_cons ?_)
  | (with_reducible refine' w_tup ?_)
  | (with_reducible refine' w_lst ?_)
  | (with_reducible refine' w_cb ?_)
  | (with_reducible refine' w_call ?_)
  | (with_reducible refine' w_bm ?_)
  | (with_reducible refine' w_bm0 ?_)
  | ((with_reducible refine' w_app ?hh ?hz ?_); (case hh => walk_at "hp"); (case hz => first | exact sz_lt (by omega) | exact sz_lt (by simp only [List.length_append, List.length_map, List.length_cons, List.length_nil]; omega)))
  | ((with_reducible refine' w_popA ?hh ?_); (case hh => walk_at "hp"))
  | ((with_reducible refine' w_ext ?hh ?hh2 ?hz ?_); (case hh => walk_at "hp"); (case hh2 => walk_at "hp"))
  | ((with_reducible refine' w_ixL ?hh ?ha ?_); (case hh => walk_at "hp"); (case ha => first | exact rfl | exact at_map (by omega) | exact atI_last _ _))
  | ((with_reducible refine' w_ixT ?hh ?ha ?_); (case hh => walk_at "hp"); (case ha => first | exact rfl | exact at_map (by omega) | exact atI_last _ _))
  | ((with_reducible refine' w_cat ?hh ?hh2 ?hz ?_); (case hh => walk_at "hp"); (case hh2 => walk_at "hp"))
  | ((with_reducible refine' w_setL ?hh ?ha ?_); (case hh => walk_at "hp"); (case ha => exact rfl))
  | (with_reducible refine' w_test ?_)
  | (with_reducible refine' w_tB ?_)
  | (with_reducible refine' w_bl ?_)
  | (with_reducible refine' w_and ?_)
  | (with_reducible refine' w_or ?_)
  | (with_reducible refine' w_not ?_)
  | (with_reducible refine' w_andV ?_)
  | (with_reducible refine' w_orV ?_)
  | (with_reducible refine' w_notV ?_)
  | (with_reducible refine' w_ifE ?_)
  | (with_reducible refine' w_for ?_)
  | (with_reducible refine' w_js ?_)
  | (with_reducible refine' w_jsn ?_)
  | ((with_reducible refine' w_js1 ?hl ?_); (case hl => decide +kernel))
  | (with_reducible refine' w_fmt ?_)
  | ((with_reducible refine' w_fmt1 ?hl ?_); (case hl => decide +kernel))
  | (with_reducible refine' w_callS ?_)
  | ((with_reducible refine' w_truL ?hh ?_); (case hh => walk_at "hp"))
  | (with_reducible refine' w_lc ?_)
  | (with_reducible refine' w_yes ?_)
  | ((with_reducible refine' w_wipe ?he ?_); (case he => exact rfl))
  | (with_reducible refine' w_iL ?_)
  | (with_reducible refine' w_iT ?_)
  | (with_reducible refine' w_iR ?_)
  | ((with_reducible refine' w_iL1 ?hh ?_); (case hh => walk_at "hp"))
  | ((with_reducible refine' w_iT1 ?hh ?_); (case hh => walk_at "hp"))
  | ((with_reducible refine' w_iR1 ?h1 ?h2 ?_); (case h1 => omega); (case h2 => omega))
  | ((with_reducible refine' w_aug ?hv ?_); (case hv => exact rfl))
  | (with_reducible refine' w_ipI ?_)
  | ((with_reducible refine' w_isi ?hy ?hk ?_); (case hy => walk_at "ty"); (case hk => walk_at "kit"))
  | ((with_reducible refine' w_int ?_))
  | ((with_reducible refine' w_intB ?_))
  | ((with_reducible refine' w_abs ?_))
  | ((with_reducible refine' w_lenL ?hh ?_); (case hh => walk_at "hp"))
  | ((with_reducible refine' w_lenT ?hh ?_); (case hh => walk_at "hp"))
  | ((with_reducible refine' w_tupL ?hh ?_); (case hh => walk_at "hp"))
  | ((with_reducible refine' w_tupT ?hh ?_); (case hh => walk_at "hp"))
  | ((with_reducible refine' w_catA ?hh ?hh2 ?hz ?_); (case hh => walk_at "hp"); (case hh2 => walk_at "hp"); (case hz => walk_at "len"))
  | ((with_reducible refine' w_repB ?hh ?hne ?h2 ?h3 ?hz ?_); (case hh => walk_at "hp"); (case hne => simp); (case h2 => omega); (case h3 => omega); (case hz => exact Nat.le_of_ble_eq_true rfl))
  | ((with_reducible refine' w_eqN ?hh ?hh2 ?n1 ?n2 ?_); (case hh => walk_at "hp"); (case hh2 => walk_at "hp"); (case n1 => walk_at "nd"); (case n2 => walk_at "nd"))
  | ((with_reducible refine' w_neN ?hh ?hh2 ?n1 ?n2 ?_); (case hh => walk_at "hp"); (case hh2 => walk_at "hp"); (case n1 => walk_at "nd"); (case n2 => walk_at "nd"))
  | ((with_reducible refine' w_neNon ?hh2 ?n2 ?_); (case hh2 => walk_at "hp"); (case n2 => walk_at "nd"))
  | ((with_reducible refine' w_eqNon ?hh2 ?n2 ?_); (case hh2 => walk_at "hp"); (case n2 => walk_at "nd"))
  | ((with_reducible refine' w_slA ?hh ?_); (case hh => walk_at "hp"))
  | ((with_reducible refine' w_disp ?hz ?_); (case hz => exact sz_of (Nat.le_of_ble_eq_true rfl)))
  | ((with_reducible refine' w_tyL ?hh ?_); (case hh => walk_at "hp"))
  | (with_reducible refine' iteT ?_)
  | (with_reducible refine' iteF ?_)
  | (with_reducible refine' w_nT ?_)
  | (with_reducible refine' w_nn ?_)
  | (with_reducible refine' w_nnT ?_)
  | (with_reducible refine' w_nnR ?_)
  | (with_reducible refine' w_neG ?_)
  | (with_reducible refine' w_eqG ?_)
  | (with_reducible refine' w_neS ?_)
  | (with_reducible refine' w_eqS ?_)
  | (with_reducible refine' w_neSb ?_)
  | (with_reducible refine' w_eqSb ?_)
  | (with_reducible refine' w_deIS ?_)
  | (with_reducible refine' w_deSI ?_)
  | (with_reducible refine' w_deISn ?_)
  | ((with_reducible refine' w_deST ?he ?_); (case he => decide +kernel))
  | ((with_reducible refine' w_deSF ?he ?_); (case he => decide +kernel))
  | ((with_reducible refine' w_deSTn ?he ?_); (case he => decide +kernel))
  | ((with_reducible refine' w_deSFn ?he ?_); (case he => decide +kernel))
  | (with_reducible refine' w_nF ?_)
  | dsimp only [Bool.not_true, Bool.not_false])
local macro_rules | `(tactic| walk_at "ty") => `(tactic| first
  | exact .base (.int _) | exact .base (.str _) | exact .base (.bl _) | exact .base .non
  | ((refine' tyx_t ?hq); (case hq => walk_at "hp")) | ((refine' tyx_l ?hq); (case hq => walk_at "hp")) | ((refine' .base (.tup ?hq)); (case hq => walk_at "hp")) | assumption)
local macro_rules | `(tactic| walk_at "go") => `(tactic| repeat walk_at "go1")
local macro_rules | `(tactic| walk_at "st") => `(tactic| try dsimp only [cxOf, Cx.nox, Cx.wish])
local macro_rules | `(tactic| walk_at "kit") => `(tactic| with_reducible first | exact kit_int_int | exact kit_int_str | exact kit_int_bool | exact kit_int_tuple | exact kit_int_list | exact kit_str_int | exact kit_str_str | exact kit_str_bool | exact kit_str_tuple | exact kit_str_list | exact kit_bool_int | exact kit_bool_str | exact kit_bool_bool | exact kit_bool_tuple | exact kit_bool_list | exact kit_NoneType_int | exact kit_NoneType_str | exact kit_NoneType_bool | exact kit_NoneType_tuple | exact kit_NoneType_list | exact kit_list_int | exact kit_list_str | exact kit_list_bool | exact kit_list_tuple | exact kit_list_list | exact kit_tuple_int | exact kit_tuple_str | exact kit_tuple_bool | exact kit_tuple_tuple | exact kit_tuple_list)
local macro_rules | `(tactic| walk_at "nd") => `(tactic| first
  | assumption
  | exact Tm.nds _
  | exact Nds.nil
  | ((refine' Nds.cons ?na ?nb); (case na => first | exact Nds.I _ | exact Nds.L | exact Nds.A); (case nb => walk_at "nd"))
  | ((refine' Nds.app ?na ?nb); (case na => walk_at "nd"); (case nb => walk_at "nd"))
  | ((refine' Nds.rep ?na _); (case na => walk_at "nd")))
local macro_rules | `(tactic| walk_at "len") => `(tactic| first
  | exact ly_sz (by omega)
  | ((simp only [List.length_append, List.length_cons, List.length_nil, List.length_map, PyProof.Rows.lm_len_rep_flat]); exact ly_sz (by omega)))
def topS (i : Nat) : Stmt := PySem.Challenge.pw_lydite_k02_build.main.body.getD i (.Pass ⟨0, 0, 0, 0⟩)
abbrev s_law_stream : Stmt := topS 14
abbrev N_law_stream : List Str := ["script", "mixed", "cell"]
theorem sc_law_stream : FnScope ["script", "mixed", "cell"] ["script"] (defScope s_law_stream) := ⟨rfl, rfl, rfl, by decide +kernel, rfl, by decide +kernel, by decide +kernel⟩
abbrev s_law_draw : Stmt := topS 15
abbrev N_law_draw : List Str := ["stream", "many", "value"]
theorem sc_law_draw : FnScope ["stream", "many", "value"] ["stream", "many"] (defScope s_law_draw) := ⟨rfl, rfl, rfl, by decide +kernel, rfl, by decide +kernel, by decide +kernel⟩
abbrev s_law_term : Stmt := topS 16
abbrev N_law_term : List Str := ["stream", "size", "loose", "nodes", "waiting", "depth", "room", "pick"]
theorem sc_law_term : FnScope ["stream", "size", "loose", "nodes", "waiting", "depth", "room", "pick"] ["stream", "size", "loose"] (defScope s_law_term) := ⟨rfl, rfl, rfl, by decide +kernel, rfl, by decide +kernel, by decide +kernel⟩
abbrev s_is_node : Stmt := topS 6
abbrev N_is_node : List Str := ["value"]
theorem sc_is_node : FnScope ["value"] ["value"] (defScope s_is_node) := ⟨rfl, rfl, rfl, by decide +kernel, rfl, by decide +kernel, by decide +kernel⟩
abbrev s_part_count : Stmt := topS 7
abbrev N_part_count : List Str := ["node"]
theorem sc_part_count : FnScope ["node"] ["node"] (defScope s_part_count) := ⟨rfl, rfl, rfl, by decide +kernel, rfl, by decide +kernel, by decide +kernel⟩
abbrev s_is_term : Stmt := topS 8
abbrev N_is_term : List Str := ["value", "missing", "node"]
theorem sc_is_term : FnScope ["value", "missing", "node"] ["value"] (defScope s_is_term) := ⟨rfl, rfl, rfl, by decide +kernel, rfl, by decide +kernel, by decide +kernel⟩
abbrev s_check_size : Stmt := topS 9
abbrev N_check_size : List Str := ["size"]
theorem sc_check_size : FnScope ["size"] ["size"] (defScope s_check_size) := ⟨rfl, rfl, rfl, by decide +kernel, rfl, by decide +kernel, by decide +kernel⟩
abbrev s_checked : Stmt := topS 10
abbrev N_checked : List Str := ["term", "node"]
theorem sc_checked : FnScope ["term", "node"] ["term"] (defScope s_checked) := ⟨rfl, rfl, rfl, by decide +kernel, rfl, by decide +kernel, by decide +kernel⟩
abbrev s_abstraction : Stmt := topS 11
abbrev N_abstraction : List Str := ["body"]
theorem sc_abstraction : FnScope ["body"] ["body"] (defScope s_abstraction) := ⟨rfl, rfl, rfl, by decide +kernel, rfl, by decide +kernel, by decide +kernel⟩
abbrev s_application : Stmt := topS 12
abbrev N_application : List Str := ["function", "argument"]
theorem sc_application : FnScope ["function", "argument"] ["function", "argument"] (defScope s_application) := ⟨rfl, rfl, rfl, by decide +kernel, rfl, by decide +kernel, by decide +kernel⟩
abbrev s_law_some : Stmt := topS 17
abbrev N_law_some : List Str := ["stream", "pick"]
theorem sc_law_some : FnScope ["stream", "pick"] ["stream"] (defScope s_law_some) := ⟨rfl, rfl, rfl, by decide +kernel, rfl, by decide +kernel, by decide +kernel⟩
abbrev s_law_built : Stmt := topS 18
abbrev N_law_built : List Str := ["parts", "e"]
theorem sc_law_built : FnScope ["parts", "e"] ["parts"] (defScope s_law_built) := ⟨rfl, rfl, rfl, by decide +kernel, rfl, by decide +kernel, by decide +kernel⟩
abbrev s_law : Stmt := topS 19
abbrev N_law : List Str := ["script", "stream", "one", "two", "pair", "actual"]
theorem sc_law : FnScope ["script", "stream", "one", "two", "pair", "actual"] ["script"] (defScope s_law) := ⟨rfl, rfl, rfl, by decide +kernel, rfl, by decide +kernel, by decide +kernel⟩
structure Txt (K : PySem.W.Frag) (mg : Str → Option Value) (tk : Nat → Tok) (cl : Nat → Addr) : Prop where
  n_int : mg "int" = none
  n_list : mg "list" = none
  n_len : mg "len" = none
  n_abs : mg "abs" = none
  n_isinstance : mg "isinstance" = none
  n_str : mg "str" = none
  n_bool : mg "bool" = none
  n_tuple : mg "tuple" = none
  n_range : mg "range" = none
  g_MOST_NODES : mg "MOST_NODES" = some (.int 1000 (tk 0))
  g_MOST_VARIABLE : mg "MOST_VARIABLE" = some (.int 1000000 (tk 1))
  n_ValueError : mg "ValueError" = none
  g_LyditeError : mg "LyditeError" = some (.ref (cl 0))
  g_TooLarge : mg "TooLarge" = some (.ref (cl 1))
  x_TooLarge : PySem.W.excIn K (cl 1) [.type "ValueError", .type "Exception", .type "BaseException", .type "object"] "ValueError.__new__" = true
  k_TooLarge : PySem.W.keepIn K (.ref (cl 1)) = true
  b_TooLarge : PySem.W.subIn K (.ref (cl 1)) (.type "BaseException") = some true
  t_TooLarge : PySem.W.typeIn K (.ref (cl 1)) = some (.type "type")
  s1_TooLarge : PySem.W.subIn K (.ref (cl 1)) (.ref (cl 1)) = some true
  s0_TooLarge : PySem.W.subIn K (.ref (cl 1)) (.ref (cl 0)) = some true
  sv_TooLarge : PySem.W.subIn K (.ref (cl 1)) (.type "ValueError") = some true
  t_LyditeError : PySem.W.typeIn K (.ref (cl 0)) = some (.type "type")
  h3_LyditeError : PySem.W.hasDictIn K (cl 0) = true
  h1_TooLarge : PySem.W.findIn K (.ref (cl 1)) "__getattribute__" = some (some (.builtin "BaseException.__getattribute__"))
  h2_TooLarge : PySem.W.findIn K (.ref (cl 1)) "__getattr__" = some none
  h3_TooLarge : PySem.W.hasDictIn K (cl 1) = true
  h4_TooLarge : PySem.W.findIn K (.ref (cl 1)) "__class__" = some (some (.builtin "object.__class__"))
  h5_TooLarge : PySem.W.specialIn K (.builtin "object.__class__") "__get__" = some (some (.builtin "getset_descriptor.__get__"))
  h6_TooLarge : PySem.W.takesIn K (.builtin "object.__class__") = some true
  h7_TooLarge : PySem.W.mroIn K (cl 1) (.type "object") = some true
theorem Txt.e_TooLarge {K : PySem.W.Frag} {mg : Str → Option Value} {tk : Nat → Tok} {cl : Nat → Addr} (T : Txt K mg tk cl) : PySem.W.exmOne K (.ref (cl 1)) (.ref (cl 1)) = some true := exm_mk T.b_TooLarge T.h3_TooLarge T.t_TooLarge T.s1_TooLarge
theorem Txt.i_TooLarge_L {K : PySem.W.Frag} {mg : Str → Option Value} {tk : Nat → Tok} {cl : Nat → Addr} (T : Txt K mg tk cl) : PySem.W.kitOne K (.ref (cl 1)) (.ref (cl 0)) = some true := kitOne_mk T.h3_LyditeError T.t_LyditeError T.s0_TooLarge
theorem Txt.i_TooLarge_V {K : PySem.W.Frag} {mg : Str → Option Value} {tk : Nat → Tok} {cl : Nat → Addr} (T : Txt K mg tk cl) : PySem.W.kitOne K (.ref (cl 1)) (.type "ValueError") = some true := kitVE T.sv_TooLarge
theorem Txt.exc {K : PySem.W.Frag} {mg : Str → Option Value} {tk : Nat → Tok} {cl : Nat → Addr} (T : Txt K mg tk cl) : ExcC K (cl 1) := ⟨T.h1_TooLarge, T.h2_TooLarge, T.b_TooLarge, T.h3_TooLarge, T.h4_TooLarge, T.h5_TooLarge, T.h6_TooLarge, T.h7_TooLarge⟩
section
variable {P : Program} {w : World} {K : PySem.W.Frag} {mg : Str → Option Value} {base : Heap} {tk : Nat → Tok} {cl : Nat → Addr}
/-! ### the stream's start, a draw -/
def spStream (K : PySem.W.Frag) : Sp := fun vs H Q _ => ∃ (a : Addr) (ns : List Int), vs = [.ref a] ∧ SqL K H a (ns.map V.int) ∧ ns.length ≤ 63 ∧ ∀ H' p l, Ex H H' → H p = none → StAt H' p ⟨l, ns, 0, 0, mixOf ns⟩ → Q (.ref p) H'
theorem ok_stream {f : Addr} {fd : FuncData} {k : Nat} (F : Fun K "_law_stream" "_law_stream" s_law_stream f fd) (T : Txt K mg tk cl) : FnOk P w K mg base CX0 (k + 1) f fd ["script"] (spStream K) := by
  refine F.ok sc_law_stream (fun vs H Q E h => ?_) (fun cdv A outer s H vs Q E hr h => ?_)
  · obtain ⟨a, ns, rfl, _⟩ := h
    rfl
  · obtain ⟨a, ns, rfl, hS, hlen, q⟩ := h
    refine ⟨_, (pss_cons (ps_set (i := 1) sc_law_stream.nd rfl (.inl rfl) pe_int) (pss_cons (ps_for PassesOwn.never rfl (pi_list (pv 0)) (pg_name (i := 2) sc_law_stream.nd rfl (.inl rfl)) (pss_one (ps_set (i := 1) sc_law_stream.nd rfl (.inl rfl) (pe_op op_modN (pe_callTy call_int1 (by rfl) T.n_int (by decide +kernel) (pa_cons (pe_op op_add (pe_op op_add (pe_op op_mul (pv 1) pe_int) (pe_op op_modN (pe_callTy call_int1 (by rfl) T.n_int (by decide +kernel) (pa_cons (pv 2) pa_nil)) pe_int)) pe_int) pa_nil)) pe_int)))) (pss_one (ps_ret (pe_lst (pa_cons (pe_callTy call_list_of (by rfl) T.n_list (by decide +kernel) (pa_cons (pv 0) pa_nil)) (pa_cons pe_int (pa_cons pe_int (pa_cons (pv 1) pa_nil))))))))), ?_⟩
    refine sl_of (σ2 := [some _, none, none]) rfl ?_
    walk_at "st"
    walk_at "go"
    refine for_list (K := K) (a := a) (xs := ns.map V.int) (fun i σ H' => H' = H ∧ ∃ y, σ = [some (.ref a), some (.int (mixOf (ns.take i))), y]) ⟨rfl, none, rfl⟩ (fun i σ H' _ e => by rw [e.1]; exact hS) ?_ ?_
    · rintro i x σ H' hi ⟨rfl, y, rfl⟩
      obtain ⟨z, hz, rfl⟩ := get_int hi
      walk_at "go"
      exact ⟨rfl, _, by rw [mixOf_take hz]; rfl⟩
    · rintro σ H' ⟨rfl, y, rfl⟩
      walk_at "go"
      intro l hl
      walk_at "go"
      intro p hp
      rw [List.take_of_length_le (by simp)]
      refine q _ _ l ?_ ?_ ⟨?_, ?_, ?_⟩
      · walk_at "ex"
      · walk_at "free"
      · walk_at "ne"
      · walk_at "hp"
      · walk_at "hp"
def spDraw : Sp := fun vs H Q _ => ∃ (s : Addr) (m : Stm) (n : Int), vs = [.ref s, .int n] ∧ StAt H s m ∧ 0 < n ∧ n < 1073741824 ∧ ∀ H', Fr s H H' → StAt H' s (m.next n) → Q (.int (m.val n)) H'
theorem ok_draw {f : Addr} {fd : FuncData} {k : Nat} (F : Fun K "_law_draw" "_law_draw" s_law_draw f fd) (T : Txt K mg tk cl) : FnOk P w K mg base CX0 (k + 1) f fd ["stream", "many"] spDraw := by
  refine F.ok sc_law_draw (fun vs H Q E h => ?_) (fun cdv A outer s H vs Q E hr h => ?_)
  · obtain ⟨a, m, n, rfl, _⟩ := h
    rfl
  · obtain ⟨a, m, n, rfl, ⟨hla, ha, hl⟩, n0, n1, q⟩ := h
    refine ⟨_, (pss_cut (ps_if (PW.pt (pw_and (pt_cmpR op_eq (pe_ix ix_list (pv 0) pe_int (fun _ _ => rfl)) pe_int (nomark _)) (pw_and1 (pt_cmpR op_lt (pe_ix ix_list (pv 0) pe_int (fun _ _ => rfl)) (pe_callB call_len_seq (by rfl) T.n_len (by decide +kernel) (pa_cons (pe_ix ix_list (pv 0) pe_int (fun _ _ => rfl)) pa_nil)) (nomark _))))) (pss_cons (ps_asg (pe_callB call_abs (by rfl) T.n_abs (by decide +kernel) (pa_cons (pe_callTy call_int1 (by rfl) T.n_int (by decide +kernel) (pa_cons (pe_ix ix_list (pe_ix ix_list (pv 0) pe_int (fun _ _ => rfl)) (pe_ix ix_list (pv 0) pe_int (fun _ _ => rfl)) (fun _ _ => rfl)) pa_nil)) pa_nil)) (pg_sub (pv 0) pe_int set_list)) (pss_one (ps_asg (pe_op op_add (pe_ix ix_list (pv 0) pe_int (fun _ _ => rfl)) pe_int) (pg_sub (pv 0) pe_int set_list)))) pss_nil) (pss_cons (ps_if (pt_cmpR op_eq (pe_ix ix_list (pv 0) pe_int (fun _ _ => rfl)) pe_int (nomark _)) (pss_cons (ps_asg (pe_op op_modN (pe_callTy call_int1 (by rfl) T.n_int (by decide +kernel) (pa_cons (pe_op op_add (pe_op op_mul (pe_ix ix_list (pv 0) pe_int (fun _ _ => rfl)) pe_int) pe_int) pa_nil)) pe_int) (pg_sub (pv 0) pe_int set_list)) (pss_one (ps_ret (pe_op op_modN (pe_callTy call_int1 (by rfl) T.n_int (by decide +kernel) (pa_cons (pe_op op_fdivN (pe_ix ix_list (pv 0) pe_int (fun _ _ => rfl)) pe_int) pa_nil)) (pv 1))))) pss_nil) (pss_cons (ps_set (i := 2) sc_law_draw.nd rfl (.inl rfl) (pe_op op_modN (pe_callTy call_int1 (by rfl) T.n_int (by decide +kernel) (pa_cons (pe_ix ix_list (pv 0) pe_int (fun _ _ => rfl)) pa_nil)) (pv 1))) (pss_cons (ps_asg (pe_op op_fdivN (pe_ix ix_list (pv 0) pe_int (fun _ _ => rfl)) (pv 1)) (pg_sub (pv 0) pe_int set_list)) (pss_one (ps_ret (pv 2))))))), ?_⟩
    refine sl_of (σ2 := [some _, some _, none]) rfl ?_
    walk_at "st"
    walk_at "go"
    refine w_cut (M := fun σ' H' => σ' = [some (.ref a), some (.int n), none] ∧ Fr a H H' ∧ H' a = some (.lst [.ref m.home, .int m.take.cur, .int m.take.pos, .int m.take.mix]) ∧ H' m.home = some (.lst (m.cells.map V.int))) ?_ ?_
    · walk_at "go"
      refine w_brI (fun hc => ?_) (fun hc => ?_)
      · walk_at "go"
        refine w_br (fun hp => ?_) (fun hp => ?_)
        · rw [List.length_map] at hp
          have hp2 : m.pos < m.cells.length := by omega
          have e : m.take = { m with cur := (if m.cells.getD m.pos 0 < 0 then -(m.cells.getD m.pos 0) else m.cells.getD m.pos 0), pos := m.pos + 1 } := if_pos ⟨hc, hp2⟩
          walk_at "go"
          refine ⟨rfl, ?_, ?_, ?_⟩
          · walk_at "fr"
          · rw [e]
            exact upd_same
          · walk_at "hp"
        · rw [List.length_map] at hp
          have e : m.take = m := if_neg (fun z => hp (by omega))
          walk_at "go"
          rw [e]
          exact ⟨rfl, Fr.refl _ _, ha, hl⟩
      · have e : m.take = m := if_neg (fun z => hc z.1)
        walk_at "go"
        rw [e]
        exact ⟨rfl, Fr.refl _ _, ha, hl⟩
    · rintro σ' H' ⟨rfl, fr, ea, el⟩
      walk_at "go"
      refine w_brI (fun hc => ?_) (fun hc => ?_)
      · walk_at "go"
        have e1 : m.next n = m.take.turn := if_pos hc
        have e2 : m.val n = (m.take.turn.mix.fdiv 97).fmod n := if_pos hc
        rw [e1, e2] at q
        refine q _ ?_ ⟨?_, ?_, ?_⟩
        · walk_at "fr"
        · show m.take.home ≠ a
          rw [m.take_home]
          exact hla
        · show _ = some (HO.lst [.ref m.take.home, _, _, _])
          rw [upd_same, m.take_home]
          rfl
        · show _ = some (HO.lst (List.map V.int m.take.cells))
          rw [m.take_cells]
          show upd _ a _ m.take.home = _
          rw [m.take_home]
          walk_at "hp"
      · walk_at "go"
        have e1 : m.next n = { m.take with cur := m.take.cur.fdiv n } := if_neg hc
        have e2 : m.val n = m.take.cur.fmod n := if_neg hc
        rw [e1, e2] at q
        refine q _ ?_ ⟨?_, ?_, ?_⟩
        · walk_at "fr"
        · show m.take.home ≠ a
          rw [m.take_home]
          exact hla
        · show _ = some (HO.lst [.ref m.take.home, _, _, _])
          rw [upd_same, m.take_home]
          rfl
        · show _ = some (HO.lst (List.map V.int m.take.cells))
          rw [m.take_cells]
          show upd _ a _ m.take.home = _
          rw [m.take_home]
          walk_at "hp"
/-! ### a drawn term -/
def spTerm : Sp := fun vs H Q _ => ∃ (s : Addr) (m : Stm) (size loose : Nat), vs = [.ref s, .int size, .int loose] ∧ StAt H s m ∧ 1 ≤ size ∧ size ≤ 1000 ∧ loose ≤ 1000 ∧
  ∀ H' p m' (t : Tm), Fr s H H' → StAt H' s m' → Fol m m' → H p = none → H' p = some (.tup t.enc) → t.wf loose → t.enc.length ≤ 2 * size → Q (.ref p) H'
def zeros (ds : List Nat) : Nat := (ds.filter (· == 0)).length
theorem zeros_app (a b : List Nat) : zeros (a ++ b) = zeros a + zeros b := by
  unfold zeros
  rw [List.filter_append, List.length_append]
theorem zeros_le (a : List Nat) : zeros a ≤ a.length := List.length_filter_le _ _
theorem zeros_one (d : Nat) : zeros [d] = if d = 0 then 1 else 0 := by
  unfold zeros
  by_cases h : d = 0
  · simp [h]
  · simp [h]
theorem pop_last {ds : List Nat} (h : ds ≠ []) : ∃ r d, ds = r ++ [d] := ⟨ds.dropLast, ds.getLast h, (List.dropLast_concat_getLast h).symm⟩
def TI (a nl wl : Addr) (H : Hp) (size loose : Nat) (m : Stm) (n : Nat) (σ : L2.St) (H' : Hp) : Prop := ∃ (m' : Stm) (nodes : List V) (ds : List Nat) (y1 y2 y3 : Option V), σ = [some (.ref a), some (.int size), some (.int loose), some (.ref nl), some (.ref wl), y1, y2, y3] ∧ Fr a H H' ∧ StAt H' a m' ∧ Fol m m' ∧ H' nl = some (.lst nodes) ∧ H' wl = some (.lst (ds.map fun (d : Nat) => V.int d)) ∧
  Comp loose nodes ds ∧ nodes.length + ds.length + zeros ds ≤ 2 * size ∧ (∀ d ∈ ds, d ≤ nodes.length) ∧ nodes.length = n
theorem ok_term {f : Addr} {fd : FuncData} (F : Fun K "_law_term" "_law_term" s_law_term f fd) (T : Txt K mg tk cl)
    (D1 : Def P w K mg base CX0 1 "_law_draw" ["stream", "many"] spDraw) : FnOk P w K mg base CX0 2 f fd ["stream", "size", "loose"] spTerm := by
  obtain ⟨f1, fd1, g_law_draw, kp_law_draw, b_law_draw, G_law_draw⟩ := D1
  refine F.ok sc_law_term (fun vs H Q E h => ?_) (fun cdv A outer s H vs Q E hr h => ?_)
  · obtain ⟨a, m, n1, n2, rfl, _⟩ := h
    rfl
  · obtain ⟨a, m, size, loose, rfl, hst, hs1, hs2, hlo, q⟩ := h
    refine ⟨_, (pss_cons (ps_set (i := 3) sc_law_term.nd rfl (.inl rfl) (pe_lst pa_nil)) (pss_cons (ps_set (i := 4) sc_law_term.nd rfl (.inl rfl) (pe_lst (pa_cons pe_int pa_nil))) (pss_cons (ps_while PassesOwn.never (pt_truth (pv 4) (by intro _; rfl)) (pss_cons (ps_set (i := 5) sc_law_term.nd rfl (.inl rfl) (pe_bm0 PySem.F.plainAttrs_list PySem.F.slot_list_pop PySem.F.type_list_pop mt_pop (pv 4))) (pss_cons (ps_set (i := 6) sc_law_term.nd rfl (.inl rfl) (pe_op op_sub (pe_op op_sub (pe_op op_sub (pv 1) (pe_callB call_len_seq (by rfl) T.n_len (by decide +kernel) (pa_cons (pv 3) pa_nil))) (pe_callB call_len_seq (by rfl) T.n_len (by decide +kernel) (pa_cons (pv 4) pa_nil))) pe_int)) (pss_cons (ps_set (i := 7) sc_law_term.nd rfl (.inl rfl) (pe_call G_law_draw (hr.mono (by decide)) (by rfl) g_law_draw kp_law_draw b_law_draw .nil pass0 (pa_cons (pv 0) (pa_cons pe_int pa_nil)))) (pss_one (ps_if (PW.pt (pw_and (pt_cmpR op_gt (pv 6) pe_int (nomark _)) (pw_and1 (pt_cmpR op_lt (pv 7) pe_int (nomark _))))) (pss_cons (ps_expr (pe_bm PySem.F.plainAttrs_list PySem.F.slot_list_append PySem.F.type_list_append mt_append (pv 3) (pa_cons pe_str pa_nil))) (pss_cons (ps_expr (pe_bm PySem.F.plainAttrs_list PySem.F.slot_list_append PySem.F.type_list_append mt_append (pv 4) (pa_cons (pv 5) pa_nil))) (pss_one (ps_expr (pe_bm PySem.F.plainAttrs_list PySem.F.slot_list_append PySem.F.type_list_append mt_append (pv 4) (pa_cons (pv 5) pa_nil)))))) (pss_one (ps_if (PW.pt (pw_or (PW.pt (pw_and (pt_cmpR op_gt (pv 6) pe_int (nomark _)) (pw_and1 (pt_cmpR op_eq (pv 7) pe_int (nomark _))))) (pw_or1 (pt_cmpR op_eq (pe_op op_add (pv 5) (pv 2)) pe_int (nomark _))))) (pss_cons (ps_expr (pe_bm PySem.F.plainAttrs_list PySem.F.slot_list_append PySem.F.type_list_append mt_append (pv 3) (pa_cons pe_str pa_nil))) (pss_one (ps_expr (pe_bm PySem.F.plainAttrs_list PySem.F.slot_list_append PySem.F.type_list_append mt_append (pv 4) (pa_cons (pe_op op_add (pv 5) pe_int) pa_nil))))) (pss_one (ps_expr (pe_bm PySem.F.plainAttrs_list PySem.F.slot_list_append PySem.F.type_list_append mt_append (pv 3) (pa_cons (pe_call G_law_draw (hr.mono (by decide)) (by rfl) g_law_draw kp_law_draw b_law_draw .nil pass0 (pa_cons (pv 0) (pa_cons (pe_op op_add (pv 5) (pv 2)) pa_nil))) pa_nil)))))))))))) (pss_one (ps_ret (pe_callTy call_tuple_of (by rfl) T.n_tuple (by decide +kernel) (pa_cons (pv 3) pa_nil))))))), ?_⟩
    refine sl_of (σ2 := [some _, some _, some _, none, none, none, none, none]) rfl ?_
    walk_at "st"
    walk_at "go"
    intro nl hnl
    walk_at "go"
    intro wl hwl
    obtain ⟨hna, hnh⟩ := hst.ne hnl
    obtain ⟨hwa, hwh⟩ := (hst.new (o := .lst []) hnl).ne hwl
    have hwn : wl ≠ nl := (ne_of_none upd_same hwl).symm
    have hwl0 : H wl = none := by
      rw [upd_ne hwn] at hwl
      exact hwl
    walk_at "go"
    refine w_while (fun k σ' H' => ∃ n, TI a nl wl H size loose m n σ' H' ∧ k = 2 * size - n) (2 * size) ⟨0, ⟨m, [], [0], none, none, none, rfl, by walk_at "fr", (hst.new hnl).new hwl, Fol.refl _, by walk_at "hp", upd_same, Comp.start _, ?_, ?_, rfl⟩, rfl⟩ ?_
    · simp [zeros]
      omega
    · simp
    · rintro k σ H1 ⟨n, ⟨m1, nodes, ds, y1, y2, y3, rfl, fr1, st1, fol1, hn1, hw1, hcomp, hphi, hd, hlen⟩, rfl⟩
      have hnh1 : ∀ {m2 : Stm}, Fol m m2 → nl ≠ m2.home := fun {m2} h => by
        rw [h.1]
        exact hnh
      have hwh1 : ∀ {m2 : Stm}, Fol m m2 → wl ≠ m2.home := fun {m2} h => by
        rw [h.1]
        exact hwh
      walk_at "go"
      by_cases hemp : ds = []
      · subst hemp
        obtain ⟨t, ht1, ht2⟩ := hcomp.done
        refine iteF ?_
        walk_at "go"
        intro p hp
        refine q _ p m1 t ?_ (st1.new hp) fol1 ?_ ?_ ht1 ?_
        · walk_at "fr"
        · refine Fr.free fr1 hst.2.1 hp ?_
          exact (st1.ne hp).1
        · rw [ht2]
          exact upd_same
        · rw [ht2]
          simp at hphi
          omega
      · obtain ⟨r, d, rfl⟩ := pop_last hemp
        rw [List.map_append] at hw1
        have he : (!(List.map (fun (d : Nat) => V.int d) (r ++ [d])).isEmpty) = true := by simp
        rw [he]
        refine iteT ⟨TI a nl wl H size loose m (n + 1), fun σ' H' h => ⟨2 * size - (n + 1), ?_, n + 1, h, rfl⟩, ?_⟩
        · simp at hphi
          omega
        have hdn : d ≤ nodes.length := hd d (by simp)
        have hdr : ∀ x ∈ r, x ≤ nodes.length := fun x hx => hd x (by simp [hx])
        have hphi2 : nodes.length + r.length + 1 + zeros r + (if d = 0 then 1 else 0) ≤ 2 * size := by
          rw [List.length_append, zeros_app, zeros_one] at hphi
          simp at hphi
          omega
        have hzr := zeros_le r
        have hw1b : H1 wl = some (.lst (List.map (fun (d : Nat) => V.int d) r ++ [V.int d])) := hw1
        walk_at "go"
        have st2 := st1.put (o := .lst (List.map (fun (d : Nat) => V.int d) r)) hwa (hwh1 fol1)
        have hn2 : upd H1 wl (.lst (List.map (fun (d : Nat) => V.int d) r)) nl = some (.lst nodes) := by walk_at "hp"
        refine ⟨a, m1, 5, rfl, st2, by decide, by decide, fun H2 fr2 st3 => ?_⟩
        have fol2 := fol1.step 5
        have hn3 : H2 nl = some (.lst nodes) := by walk_at "hp"
        have hw3 : H2 wl = some (.lst (List.map (fun (d : Nat) => V.int d) r)) := by walk_at "hp"
        have fr3 : Fr a H H2 := (Fr.mut fr1 hwl0).trans fr2
        have hw3l : (List.map (fun (d : Nat) => V.int d) r).length = r.length := List.length_map _
        generalize m1.val 5 = pick at *
        generalize m1.next 5 = m2 at *
        have toApp : ∀ {y1 y2 y3 : Option V}, ((r.length + nodes.length + 2 : Nat) : Int) < size → TI a nl wl H size loose m (n + 1) [some (.ref a), some (.int size), some (.int loose), some (.ref nl), some (.ref wl), y1, y2, y3] (upd (upd (upd H2 nl (.lst (nodes ++ [V.str "app"]))) wl (.lst (List.map (fun (d : Nat) => V.int d) r ++ [V.int d]))) wl (.lst (List.map (fun (d : Nat) => V.int d) r ++ [V.int d] ++ [V.int d]))) := fun {y1 y2 y3} hroom => by
          refine ⟨m2, nodes ++ [.str "app"], r ++ [d] ++ [d], y1, y2, y3, rfl, ?_, ?_, fol2, ?_, ?_, hcomp.app, ?_, ?_, ?_⟩
          · walk_at "fr"
          · exact ((st3.put hna (hnh1 fol2)).put hwa (hwh1 fol2)).put hwa (hwh1 fol2)
          · walk_at "hp"
          · rw [upd_same]
            simp
          · rw [zeros_app, zeros_app, zeros_one]
            simp
            split <;> omega
          · intro x hx
            simp at hx
            rw [List.length_append, List.length_singleton]
            rcases hx with hx | hx
            · have := hdr x hx
              omega
            · omega
          · rw [List.length_append, List.length_singleton, hlen]
        have toLam : ∀ {y1 y2 y3 : Option V}, (((r.length + nodes.length + 1 : Nat) : Int) < size ∨ d = 0) → TI a nl wl H size loose m (n + 1) [some (.ref a), some (.int size), some (.int loose), some (.ref nl), some (.ref wl), y1, y2, y3] (upd (upd H2 nl (.lst (nodes ++ [V.str "lam"]))) wl (.lst (List.map (fun (d : Nat) => V.int d) r ++ [V.int (d + 1)]))) := fun {y1 y2 y3} hroom => by
          refine ⟨m2, nodes ++ [.str "lam"], r ++ [d + 1], y1, y2, y3, rfl, ?_, ?_, fol2, ?_, ?_, hcomp.lam, ?_, ?_, ?_⟩
          · walk_at "fr"
          · exact (st3.put hna (hnh1 fol2)).put hwa (hwh1 fol2)
          · walk_at "hp"
          · rw [upd_same]
            simp
          · rw [zeros_app, zeros_one, if_neg (Nat.succ_ne_zero d)]
            simp
            rcases hroom with h | h
            · omega
            · rw [if_pos h] at hphi2
              omega
          · intro x hx
            simp at hx
            rw [List.length_append, List.length_singleton]
            rcases hx with hx | hx
            · have := hdr x hx
              omega
            · omega
          · rw [List.length_append, List.length_singleton, hlen]
        have toVar : ∀ {y1 y2 y3 : Option V}, d + loose ≠ 0 → spDraw ([V.ref a, V.int ((d : Int) + (loose : Int))] ++ []) H2 (fun y H3 => rAppend (V.ref nl) [y] H3 fun _ H4 => TI a nl wl H size loose m (n + 1) [some (.ref a), some (.int size), some (.int loose), some (.ref nl), some (.ref wl), y1, y2, y3] H4) E0 := fun {y1 y2 y3} hne => by
          have hds : d ≤ 2 * size := by omega
          refine ⟨a, m2, _, rfl, st3, by omega, by omega, fun H3 fr4 st4 => ?_⟩
          have hv := m2.val_lt (n := (d : Int) + (loose : Int)) (by omega)
          have hn4 : H3 nl = some (.lst nodes) := by walk_at "hp"
          have hw4 : H3 wl = some (.lst (List.map (fun (d : Nat) => V.int d) r)) := by walk_at "hp"
          have fr5 := fr3.trans fr4
          walk_at "go"
          refine ⟨m2.next _, _, r, y1, y2, y3, rfl, Fr.mut fr5 hnl, st4.put hna (hnh1 (fol2.step _)), fol2.step _, upd_same, by walk_at "hp", ?_, ?_, ?_, ?_⟩
          · have := hcomp.var (n := (m2.val ((d : Int) + (loose : Int))).toNat) (by omega)
            rw [Int.toNat_of_nonneg hv.1] at this
            exact this
          · rw [List.length_append, List.length_singleton]
            omega
          · intro x hx
            have := hdr x hx
            rw [List.length_append, List.length_singleton]
            omega
          · rw [List.length_append, List.length_singleton, hlen]
        walk_at "go"
        rw [hw3l]
        refine w_br (fun c1 => ?_) (fun c1 => ?_)
        · walk_at "go"
          refine w_br (fun c2 => ?_) (fun c2 => ?_)
          · walk_at "go"
            exact toApp (by omega)
          · walk_at "go"
            refine w_br (fun c3 => ?_) (fun c3 => by omega)
            walk_at "go"
            refine w_brI (fun c4 => ?_) (fun c4 => ?_)
            · walk_at "go"
              exact toLam (.inl (by omega))
            · walk_at "go"
              refine w_brI (fun c5 => ?_) (fun c5 => ?_)
              · walk_at "go"
                exact toLam (.inr (by omega))
              · walk_at "go"
                exact toVar (by omega)
        · walk_at "go"
          refine w_br (fun c3 => ?_) (fun c3 => ?_)
          · walk_at "go"
            refine w_brI (fun c4 => ?_) (fun c4 => ?_)
            · walk_at "go"
              exact toLam (.inl (by omega))
            · walk_at "go"
              refine w_brI (fun c5 => ?_) (fun c5 => ?_)
              · walk_at "go"
                exact toLam (.inr (by omega))
              · walk_at "go"
                exact toVar (by omega)
          · walk_at "go"
            refine w_brI (fun c5 => ?_) (fun c5 => ?_)
            · walk_at "go"
              exact toLam (.inr (by omega))
            · walk_at "go"
              exact toVar (by omega)
/-! ### is_node, part_count, is_term -/
def spNode : Sp := fun vs H Q _ => ∃ v, vs = [v] ∧ Kd H v ∧ Q (.bl (isNodeV v)) H
theorem ok_is_node {f : Addr} {fd : FuncData} {k : Nat} (F : Fun K "is_node" "is_node" s_is_node f fd) (T : Txt K mg tk cl) : FnOk P w K mg base CX0 (k + 1) f fd ["value"] spNode := by
  refine F.ok sc_is_node (fun vs H Q E h => ?_) (fun cdv A outer s H vs Q E hr h => ?_)
  · obtain ⟨v, rfl, _⟩ := h
    rfl
  · obtain ⟨v, rfl, hk, q⟩ := h
    refine ⟨_, (pss_cons (ps_if (pt_val (pe_callB call_isi (by rfl) T.n_isinstance (by decide +kernel) (pa_cons (pv 0) (pa_cons (pe_bltn (v := .ty "str") (by rfl) T.n_str (by decide +kernel) rfl) pa_nil)))) (pss_one (ps_ret (pe_or (pe_cmpR op_eq (pv 0) pe_str (nomark _)) (pe_one (pe_cmpR op_eq (pv 0) pe_str (nomark _)))))) pss_nil) (pss_cons (ps_if (PW.pt (pw_or (pt_val (pe_callB call_isi (by rfl) T.n_isinstance (by decide +kernel) (pa_cons (pv 0) (pa_cons (pe_bltn (v := .ty "bool") (by rfl) T.n_bool (by decide +kernel) rfl) pa_nil)))) (pw_or1 (pt_not (pt_val (pe_callB call_isi (by rfl) T.n_isinstance (by decide +kernel) (pa_cons (pv 0) (pa_cons (pe_bltn (v := .ty "int") (by rfl) T.n_int (by decide +kernel) rfl) pa_nil)))))))) (pss_one (ps_ret pe_bl)) pss_nil) (pss_one (ps_ret (pe_chain op_le op_le pe_int (pv 0) (pe_glob (v := .int 1000000) rfl T.g_MOST_VARIABLE ⟨_, rfl⟩)))))), ?_⟩
    refine sl_of (σ2 := [some _]) rfl ?_
    walk_at "st"
    cases hk with
    | int i =>
      walk_at "go"
      refine w_br (fun h1 => ?_) (fun h1 => ?_)
      · walk_at "go"
        exact qeq q (by simp [isNodeV, isVarV, h1])
      · exact qeq q (by simp [isNodeV, isVarV, h1])
    | str x =>
      walk_at "go"
      refine w_brS (fun h1 => ?_) (fun h1 => ?_)
      · exact qeq q (by simp [isNodeV, h1])
      · walk_at "go"
        exact qeq q (by simp [isNodeV, h1])
    | bl b => walk_at "go"; exact q
    | non => walk_at "go"; exact q
    | lst h => walk_at "go"; exact q
    | tup h => walk_at "go"; exact q
def spCount : Sp := fun vs H Q _ => ∃ v, vs = [v] ∧ isNodeV v = true ∧ Q (.int (pcV v)) H
theorem isNodeV_cases {v : V} (h : isNodeV v = true) : (∃ i, v = .int i ∧ 0 ≤ i ∧ i ≤ 1000000) ∨ v = .str "lam" ∨ v = .str "app" := by
  cases v with
  | int i => exact .inl ⟨i, rfl, by simpa [isNodeV, isVarV] using h⟩
  | str x =>
    have h2 : x = "lam" ∨ x = "app" := by simpa [isNodeV] using h
    rcases h2 with e | e
    · exact .inr (.inl (by rw [e]))
    · exact .inr (.inr (by rw [e]))
  | _ => cases h
theorem ok_part_count {f : Addr} {fd : FuncData} {k : Nat} (F : Fun K "part_count" "part_count" s_part_count f fd) (T : Txt K mg tk cl) : FnOk P w K mg base CX0 (k + 1) f fd ["node"] spCount := by
  refine F.ok sc_part_count (fun vs H Q E h => ?_) (fun cdv A outer s H vs Q E hr h => ?_)
  · obtain ⟨v, rfl, _⟩ := h
    rfl
  · obtain ⟨v, rfl, hk, q⟩ := h
    refine ⟨_, (pss_cons (ps_if (pt_cmpR op_eq (pv 0) pe_str (nomark _)) (pss_one (ps_ret pe_int)) pss_nil) (pss_cons (ps_if (pt_cmpR op_eq (pv 0) pe_str (nomark _)) (pss_one (ps_ret pe_int)) pss_nil) (pss_one (ps_ret pe_int)))), ?_⟩
    refine sl_of (σ2 := [some _]) rfl ?_
    walk_at "st"
    rcases isNodeV_cases hk with ⟨i, rfl, _, _⟩ | rfl | rfl
    · walk_at "go"
      exact q
    · walk_at "go"
      exact q
    · walk_at "go"
      exact q
def spIsTerm (K : PySem.W.Frag) : Sp := fun vs H Q _ => ∃ v, vs = [v] ∧ ((∃ a xs, v = .ref a ∧ SqT K H a xs ∧ xs.length ≤ 100000 ∧ (∀ x ∈ xs, Kd H x) ∧ Q (.bl (isTermV xs)) H) ∨ (∃ n b, TyX K H v (.type n) ∧ PySem.W.kitOne K (.type n) (.type "tuple") = some b ∧ b = false ∧ Q (.bl false) H))
theorem ok_is_term {f : Addr} {fd : FuncData} (F : Fun K "is_term" "is_term" s_is_term f fd) (T : Txt K mg tk cl)
    (D1 : Def P w K mg base CX0 1 "is_node" ["value"] spNode) (D2 : Def P w K mg base CX0 1 "part_count" ["node"] spCount) : FnOk P w K mg base CX0 2 f fd ["value"] (spIsTerm K) := by
  obtain ⟨f1, fd1, g_is_node, kp_is_node, b_is_node, G_is_node⟩ := D1
  obtain ⟨f2, fd2, g_part_count, kp_part_count, b_part_count, G_part_count⟩ := D2
  refine F.ok sc_is_term (fun vs H Q E h => ?_) (fun cdv A outer s H vs Q E hr h => ?_)
  · obtain ⟨v, rfl, _⟩ := h
    rfl
  · obtain ⟨v, rfl, h⟩ := h
    refine ⟨_, (pss_cons (ps_if (PW.pt (pw_or (pt_not (pt_val (pe_callB call_isi (by rfl) T.n_isinstance (by decide +kernel) (pa_cons (pv 0) (pa_cons (pe_bltn (v := .ty "tuple") (by rfl) T.n_tuple (by decide +kernel) rfl) pa_nil))))) (pw_or1 (pt_cmpR op_gt (pe_callB call_len_seq (by rfl) T.n_len (by decide +kernel) (pa_cons (pv 0) pa_nil)) (pe_glob (v := .int 1000) rfl T.g_MOST_NODES ⟨_, rfl⟩) (nomark _))))) (pss_one (ps_ret pe_bl)) pss_nil) (pss_cons (ps_set (i := 1) sc_is_term.nd rfl (.inl rfl) pe_int) (pss_cons (ps_for PassesOwn.never rfl (pi_tup (pv 0)) (pg_name (i := 2) sc_is_term.nd rfl (.inl rfl)) (pss_cons (ps_if (PW.pt (pw_or (pt_cmpR op_eq (pv 1) pe_int (nomark _)) (pw_or1 (pt_not (pt_val (pe_call G_is_node (hr.mono (by decide)) (by rfl) g_is_node kp_is_node b_is_node .nil pass0 (pa_cons (pv 2) pa_nil))))))) (pss_one (ps_ret pe_bl)) pss_nil) (pss_one (ps_aug (i := 1) sc_is_term.nd rfl (.inl rfl) (pe_op op_sub (pe_call G_part_count (hr.mono (by decide)) (by rfl) g_part_count kp_part_count b_part_count .nil pass0 (pa_cons (pv 2) pa_nil)) pe_int) ip_add)))) (pss_one (ps_ret (pe_cmpR op_eq (pv 1) pe_int (nomark _))))))), ?_⟩
    refine sl_of (σ2 := [some _, none, none]) rfl ?_
    walk_at "st"
    rcases h with ⟨a, xs, rfl, hS, hz, hk, q⟩ | ⟨n, b, ht, hkit, rfl, q⟩
    · walk_at "go"
      refine w_br (fun h1 => ?_) (fun h1 => ?_)
      · walk_at "go"
        exact qeq q (by simp [isTermV]; omega)
      · walk_at "go"
        have h2 : xs.length ≤ 1000 := by omega
        refine for_tup (K := K) (a := a) (xs := xs) (fun i σ H' => H' = H ∧ ∃ m y, σ = [some (.ref a), some (.int m), y] ∧ scanV m (xs.drop i) = scanV 1 xs) ⟨rfl, 1, none, rfl, rfl⟩ (fun i σ H' _ e => by rw [e.1]; exact hS) ?_ ?_
        · rintro i x σ H' hi ⟨rfl, m, y, rfl, hm⟩
          have hd := drop_at hi
          have hx : x ∈ xs := List.mem_of_getElem? hi
          rw [hd] at hm
          walk_at "go"
          refine w_brI (fun h3 => ?_) (fun h3 => ?_)
          · walk_at "go"
            exact qeq q (by rw [isTermV, ← hm]; simp [scanV, h3])
          · walk_at "go"
            refine ⟨x, rfl, hk x hx, ?_⟩
            walk_at "go"
            cases hn : isNodeV x with
            | false =>
              walk_at "go"
              exact qeq q (by rw [isTermV, ← hm]; simp [scanV, hn])
            | true =>
              walk_at "go"
              refine ⟨x, rfl, hn, ?_⟩
              walk_at "go"
              refine ⟨rfl, _, _, rfl, ?_⟩
              rw [← hm]
              simp [scanV, h3, hn]
        · rintro σ H' ⟨rfl, m, y, rfl, hm⟩
          walk_at "go"
          refine qeq q ?_
          rw [isTermV, ← hm]
          simp [scanV, h2]
    · walk_at "go"
      refine w_isi ht hkit ?_
      walk_at "go"
      exact q
/-! ### what is too large -/
def spSize (C : Addr) : Sp := fun vs H Q E => ∃ n : Int, vs = [.int n] ∧ (n ≤ 1000 → Q .non H) ∧ (¬ n ≤ 1000 → E (.ref C) none H)
theorem ok_check_size {f : Addr} {fd : FuncData} {k : Nat} (F : Fun K "check_size" "check_size" s_check_size f fd) (T : Txt K mg tk cl) : FnOk P w K mg base (L2.CX P w) (k + 1) f fd ["size"] (spSize (cl 1)) := by
  refine F.okX sc_check_size (fun vs H Q E h => ?_) (fun cdv A outer s H vs Q E hr h => ?_)
  · obtain ⟨n, rfl, _⟩ := h
    rfl
  · obtain ⟨n, rfl, q, x⟩ := h
    refine ⟨_, (pss_one (ps_if (pt_cmpR op_gt (pv 0) (pe_glob (v := .int 1000) rfl T.g_MOST_NODES ⟨_, rfl⟩) (nomark _)) (pss_one (ps_raise rfl (takes_of rfl rfl rfl rfl) (SkE.pmk_own1 PySem.F.excBase_ValueError T.x_TooLarge T.g_TooLarge T.k_TooLarge (raises_own T.b_TooLarge T.t_TooLarge) rfl (pe_joined (.cons pe_str (.cons (pe_fmt (pe_glob (v := .int 1000) rfl T.g_MOST_NODES ⟨_, rfl⟩)) (.cons pe_str .nil))))))) pss_nil)), ?_⟩
    refine sl_of (σ2 := [some _]) rfl ?_
    walk_at "st"
    walk_at "go"
    refine w_br (fun h1 => ?_) (fun h1 => ?_)
    · walk_at "go"
      exact x (by omega)
    · walk_at "go"
      exact q (by omega)
def spChecked (K : PySem.W.Frag) (C : Addr) : Sp := fun vs H Q E => ∃ a xs, vs = [.ref a] ∧ SqT K H a xs ∧ Flat xs ∧ (fitsV xs = true → Q (.ref a) H) ∧ (fitsV xs = false → E (.ref C) none H)
theorem ok_checked {f : Addr} {fd : FuncData} (F : Fun K "checked" "checked" s_checked f fd) (T : Txt K mg tk cl)
    (D1 : Def P w K mg base (L2.CX P w) 1 "check_size" ["size"] (spSize (cl 1))) : FnOk P w K mg base (L2.CX P w) 2 f fd ["term"] (spChecked K (cl 1)) := by
  obtain ⟨f1, fd1, g_check_size, kp_check_size, b_check_size, G_check_size⟩ := D1
  refine F.okX sc_checked (fun vs H Q E h => ?_) (fun cdv A outer s H vs Q E hr h => ?_)
  · obtain ⟨a, xs, rfl, _⟩ := h
    rfl
  · obtain ⟨a, xs, rfl, hS, hf, q, x⟩ := h
    refine ⟨_, (pss_cons (ps_expr (pe_call G_check_size (hr.mono (by decide)) (by rfl) g_check_size kp_check_size b_check_size .nil (passes_call (takes_of rfl rfl rfl rfl) (fun _ _ _ _ h => h)) (pa_cons (pe_callB call_len_seq (by rfl) T.n_len (by decide +kernel) (pa_cons (pv 0) pa_nil)) pa_nil))) (pss_cons (ps_for (passes_of rfl) rfl (pi_tup (pv 0)) (pg_name (i := 1) sc_checked.nd rfl (.inl rfl)) (pss_one (ps_if (PW.pt (pw_and (pt_val (pe_callB call_isi (by rfl) T.n_isinstance (by decide +kernel) (pa_cons (pv 1) (pa_cons (pe_bltn (v := .ty "int") (by rfl) T.n_int (by decide +kernel) rfl) pa_nil)))) (pw_and1 (pt_cmpR op_gt (pv 1) (pe_glob (v := .int 1000000) rfl T.g_MOST_VARIABLE ⟨_, rfl⟩) (nomark _))))) (pss_one (ps_raise rfl (takes_of rfl rfl rfl rfl) (SkE.pmk_own1 PySem.F.excBase_ValueError T.x_TooLarge T.g_TooLarge T.k_TooLarge (raises_own T.b_TooLarge T.t_TooLarge) rfl (pe_joined (.cons pe_str (.cons (pe_fmt (pe_glob (v := .int 1000000) rfl T.g_MOST_VARIABLE ⟨_, rfl⟩)) .nil)))))) pss_nil))) (pss_one (ps_ret (pv 0))))), ?_⟩
    refine sl_of (σ2 := [some _, none]) rfl ?_
    walk_at "st"
    walk_at "go"
    refine ⟨_, rfl, fun h1 => ?_, fun h1 => x (by simp [fitsV]; omega)⟩
    have h2 : xs.length ≤ 1000 := by omega
    walk_at "go"
    refine for_tup (K := K) (a := a) (xs := xs) (fun i σ H' => H' = H ∧ ∃ y, σ = [some (.ref a), y] ∧ (xs.take i).all okV = true) ⟨rfl, none, rfl, rfl⟩ (fun i σ H' _ e => by rw [e.1]; exact hS) ?_ ?_
    · rintro i v σ H' hi ⟨rfl, y, rfl, hall⟩
      have hv : v ∈ xs := List.mem_of_getElem? hi
      have bad : okV v = false → fitsV xs = false := fun e => by
        have : xs.all okV = false := List.all_eq_false.mpr ⟨v, hv, by simp [e]⟩
        simp [fitsV, this]
      have good : okV v = true → (xs.take (i + 1)).all okV = true := fun e => by
        rw [List.take_add_one, hi, List.all_append, hall]
        simp [e]
      rcases hf v hv with ⟨j, rfl⟩ | ⟨z, rfl⟩
      · walk_at "go"
        refine w_br (fun h3 => ?_) (fun h3 => ?_)
        · walk_at "go"
          exact x (bad (by simp [okV]; omega))
        · walk_at "go"
          exact ⟨rfl, _, rfl, good (by simp [okV]; omega)⟩
      · walk_at "go"
        exact ⟨rfl, _, rfl, good rfl⟩
    · rintro σ H' ⟨rfl, y, rfl, hall⟩
      walk_at "go"
      rw [List.take_length] at hall
      exact q (by simp [fitsV, h2]; simpa using hall)
end
end Ly
set_option Elab.async false
set_option linter.all false
set_option maxRecDepth 100000
set_option maxHeartbeats 8000000
namespace Ly
open PySem PySem.Spec PyProof.Rows L2 Evl
local macro_rules | `(tactic| walk_at "ne") => `(tactic| first
  | assumption
  | ((refine' Ne.symm ?hq); (case hq => assumption))
  | ((refine' ne_of_none ?nh1 ?nh2); (case nh2 => assumption); (case nh1 => walk_at "hp"))
  | ((refine' Ne.symm (ne_of_none ?nh1 ?nh2)); (case nh2 => assumption); (case nh1 => walk_at "hp")))
local macro_rules | `(tactic| walk_at "hp") => `(tactic| first
  | assumption
  | exact upd_same
  | ((refine' SqL.of ?hq); (case hq => walk_at "hp"))
  | ((refine' SqT.of ?hq); (case hq => walk_at "hp"))
  | ((refine' (upd_ne ?hne).trans ?hrest); (case hne => walk_at "ne"); (case hrest => walk_at "hp"))
  | ((refine' ly_at ?hex ?hh); (case hex => assumption); (case hh => walk_at "hp"))
  | ((refine' ly_atF ?hex ?hnn ?hh); (case hex => assumption); (case hh => walk_at "hp"); (case hnn => walk_at "ne"))
  | ((refine' ex_t ?hex ?hh); (case hh => assumption); (case hex => walk_at "ex"))
  | ((refine' ex_l ?hex ?hh); (case hh => assumption); (case hex => walk_at "ex")))
local macro_rules | `(tactic| walk_at "ex") => `(tactic| first
  | assumption
  | exact Ex.refl _
  | ((refine' ex_new ?xa ?xb); (case xb => assumption); (case xa => walk_at "ex"))
  | ((refine' ex_upd ?xa ?xb); (case xb => walk_at "free"); (case xa => walk_at "ex"))
  | ((refine' Ex.trans ?xa ?xb); (case xb => assumption); (case xa => walk_at "ex")))
local macro_rules | `(tactic| walk_at "free") => `(tactic| first
  | assumption
  | ((refine' fresh_back ?xa ?xb); (case xb => assumption); (case xa => walk_at "ex")))
local macro_rules | `(tactic| walk_at "fr") => `(tactic| first
  | assumption
  | exact Fr.refl _ _
  | ((refine' Fr.own ?hq); (case hq => walk_at "fr"))
  | ((refine' Fr.new ?xa ?xb); (case xb => assumption); (case xa => walk_at "fr"))
  | ((refine' Fr.mut ?xa ?xb); (case xb => assumption); (case xa => walk_at "fr"))
  | ((refine' Fr.trans ?xa ?xb); (case xb => assumption); (case xa => walk_at "fr"))
  | ((refine' Fr.trans ?xa (Fr.ex ?xb)); (case xb => assumption); (case xa => walk_at "fr")))
local macro_rules | `(tactic| walk_at "go1") => `(tactic| first
  | (with_reducible refine' w_seq ?_)
  | (with_reducible refine' w_asg ?_)
  | (with_reducible refine' w_ret ?_)
  | (with_reducible refine' w_drop ?_)
  | (with_reducible refine' w_if ?_)
  | (with_reducible refine' w_next ?_)
  | (with_reducible refine' w_name ?_)
  | (with_reducible refine' w_sub ?_)
  | ((with_reducible refine' w_var ?hv ?_); (case hv => exact rfl))
  | (with_reducible refine' w_c ?_)
  | (with_reducible refine' w_op ?_)
  | (with_reducible refine' w_un ?_)
  | (with_reducible refine' w_ch ?_)
  | (with_reducible refine' w_I0 ?_)
  | ((with_reducible refine' w_I ?hc ?_); (case hc => first | (exact ly_mulL (by decide) (by decide)) | (exact ly_mulR (by decide) (by decide)) | (show (_ : Int) ≠ 0; decide) | (show (_ : Int) ≠ 0; omega) | (exact ⟨by decide, by decide⟩) | (exact ⟨by omega, by omega⟩)))
  | (with_reducible refine' w_U ?_)
  | ((with_reducible refine' w_eq ?hs ?_); (case hs => exact rfl))
  | ((with_reducible refine' w_ne ?hs ?_); (case hs => exact rfl))
  | (with_reducible refine' w_isB ?_)
  | (with_reducible refine' w_notB ?_)
  | (with_reducible refine' w_nil ?_)
  | (with_reducible refine' w_cons ?_)
  | (with_reducible refine' w_tup ?_)
  | (with_reducible refine' w_lst ?_)
  | (with_reducible refine' w_cb ?_)
  | (with_reducible refine' w_call ?_)
  | (with_reducible refine' w_bm ?_)
  | (with_reducible refine' w_bm0 ?_)
  | ((with_reducible refine' w_app ?hh ?hz ?_); (case hh => walk_at "hp"); (case hz => first | exact sz_lt (by omega) | exact sz_lt (by simp only [List.length_append, List.length_map, List.length_cons, List.length_nil]; omega)))
  | ((with_reducible refine' w_popA ?hh ?_); (case hh => walk_at "hp"))
  | ((with_reducible refine' w_ext ?hh ?hh2 ?hz ?_); (case hh => walk_at "hp"); (case hh2 => walk_at "hp"))
  | ((with_reducible refine' w_ixL ?hh ?ha ?_); (case hh => walk_at "hp"); (case ha => first | exact rfl | exact at_map (by omega) | exact atI_last _ _))
  | ((with_reducible refine' w_ixT ?hh ?ha ?_); (case hh => walk_at "hp"); (case ha => first | exact rfl | exact at_map (by omega) | exact atI_last _ _))
  | ((with_reducible refine' w_cat ?hh ?hh2 ?hz ?_); (case hh => walk_at "hp"); (case hh2 => walk_at "hp"))
  | ((with_reducible refine' w_setL ?hh ?ha ?_); (case hh => walk_at "hp"); (case ha => exact rfl))
  | (with_reducible refine' w_test ?_)
  | (with_reducible refine' w_tB ?_)
  | (with_reducible refine' w_bl ?_)
  | (with_reducible refine' w_and ?_)
  | (with_reducible refine' w_or ?_)
  | (with_reducible refine' w_not ?_)
  | (with_reducible refine' w_andV ?_)
  | (with_reducible refine' w_orV ?_)
  | (with_reducible refine' w_notV ?_)
  | (with_reducible refine' w_ifE ?_)
  | (with_reducible refine' w_for ?_)
  | (with_reducible refine' w_js ?_)
  | (with_reducible refine' w_jsn ?_)
  | ((with_reducible refine' w_js1 ?hl ?_); (case hl => decide +kernel))
  | (with_reducible refine' w_fmt ?_)
  | ((with_reducible refine' w_fmt1 ?hl ?_); (case hl => decide +kernel))
  | (with_reducible refine' w_callS ?_)
  | ((with_reducible refine' w_truL ?hh ?_); (case hh => walk_at "hp"))
  | (with_reducible refine' w_lc ?_)
  | (with_reducible refine' w_yes ?_)
  | ((with_reducible refine' w_wipe ?he ?_); (case he => exact rfl))
  | (with_reducible refine' w_iL ?_)
  | (with_reducible refine' w_iT ?_)
  | (with_reducible refine' w_iR ?_)
  | ((with_reducible refine' w_iL1 ?hh ?_); (case hh => walk_at "hp"))
  | ((with_reducible refine' w_iT1 ?hh ?_); (case hh => walk_at "hp"))
  | ((with_reducible refine' w_iR1 ?h1 ?h2 ?_); (case h1 => omega); (case h2 => omega))
  | ((with_reducible refine' w_aug ?hv ?_); (case hv => exact rfl))
  | (with_reducible refine' w_ipI ?_)
  | ((with_reducible refine' w_isi ?hy ?hk ?_); (case hy => walk_at "ty"); (case hk => walk_at "kit"))
  | ((with_reducible refine' w_int ?_))
  | ((with_reducible refine' w_intB ?_))
  | ((with_reducible refine' w_abs ?_))
  | ((with_reducible refine' w_lenL ?hh ?_); (case hh => walk_at "hp"))
  | ((with_reducible refine' w_lenT ?hh ?_); (case hh => walk_at "hp"))
  | ((with_reducible refine' w_tupL ?hh ?_); (case hh => walk_at "hp"))
  | ((with_reducible refine' w_tupT ?hh ?_); (case hh => walk_at "hp"))
  | ((with_reducible refine' w_catA ?hh ?hh2 ?hz ?_); (case hh => walk_at "hp"); (case hh2 => walk_at "hp"); (case hz => walk_at "len"))
  | ((with_reducible refine' w_repB ?hh ?hne ?h2 ?h3 ?hz ?_); (case hh => walk_at "hp"); (case hne => simp); (case h2 => omega); (case h3 => omega); (case hz => exact Nat.le_of_ble_eq_true rfl))
  | ((with_reducible refine' w_eqN ?hh ?hh2 ?n1 ?n2 ?_); (case hh => walk_at "hp"); (case hh2 => walk_at "hp"); (case n1 => walk_at "nd"); (case n2 => walk_at "nd"))
  | ((with_reducible refine' w_neN ?hh ?hh2 ?n1 ?n2 ?_); (case hh => walk_at "hp"); (case hh2 => walk_at "hp"); (case n1 => walk_at "nd"); (case n2 => walk_at "nd"))
  | ((with_reducible refine' w_neNon ?hh2 ?n2 ?_); (case hh2 => walk_at "hp"); (case n2 => walk_at "nd"))
  | ((with_reducible refine' w_eqNon ?hh2 ?n2 ?_); (case hh2 => walk_at "hp"); (case n2 => walk_at "nd"))
  | ((with_reducible refine' w_slA ?hh ?_); (case hh => walk_at "hp"))
  | ((with_reducible refine' w_disp ?hz ?_); (case hz => exact sz_of (Nat.le_of_ble_eq_true rfl)))
  | ((with_reducible refine' w_tyL ?hh ?_); (case hh => walk_at "hp"))
  | (with_reducible refine' iteT ?_)
  | (with_reducible refine' iteF ?_)
  | (with_reducible refine' w_nT ?_)
  | (with_reducible refine' w_nn ?_)
  | (with_reducible refine' w_nnT ?_)
  | (with_reducible refine' w_nnR ?_)
  | (with_reducible refine' w_neG ?_)
  | (with_reducible refine' w_eqG ?_)
  | (with_reducible refine' w_neS ?_)
  | (with_reducible refine' w_eqS ?_)
  | (with_reducible refine' w_neSb ?_)
  | (with_reducible refine' w_eqSb ?_)
  | (with_reducible refine' w_deIS ?_)
  | (with_reducible refine' w_deSI ?_)
  | (with_reducible refine' w_deISn ?_)
  | ((with_reducible refine' w_deST ?he ?_); (case he => decide +kernel))
  | ((with_reducible refine' w_deSF ?he ?_); (case he => decide +kernel))
  | ((with_reducible refine' w_deSTn ?he ?_); (case he => decide +kernel))
  | ((with_reducible refine' w_deSFn ?he ?_); (case he => decide +kernel))
  | (with_reducible refine' w_nF ?_)
  | dsimp only [Bool.not_true, Bool.not_false])
local macro_rules | `(tactic| walk_at "ty") => `(tactic| first
  | exact .base (.int _) | exact .base (.str _) | exact .base (.bl _) | exact .base .non
  | ((refine' tyx_t ?hq); (case hq => walk_at "hp")) | ((refine' tyx_l ?hq); (case hq => walk_at "hp")) | ((refine' .base (.tup ?hq)); (case hq => walk_at "hp")) | assumption)
local macro_rules | `(tactic| walk_at "go") => `(tactic| repeat walk_at "go1")
local macro_rules | `(tactic| walk_at "st") => `(tactic| try dsimp only [cxOf, Cx.nox, Cx.wish])
local macro_rules | `(tactic| walk_at "kit") => `(tactic| with_reducible first | exact kit_int_int | exact kit_int_str | exact kit_int_bool | exact kit_int_tuple | exact kit_int_list | exact kit_str_int | exact kit_str_str | exact kit_str_bool | exact kit_str_tuple | exact kit_str_list | exact kit_bool_int | exact kit_bool_str | exact kit_bool_bool | exact kit_bool_tuple | exact kit_bool_list | exact kit_NoneType_int | exact kit_NoneType_str | exact kit_NoneType_bool | exact kit_NoneType_tuple | exact kit_NoneType_list | exact kit_list_int | exact kit_list_str | exact kit_list_bool | exact kit_list_tuple | exact kit_list_list | exact kit_tuple_int | exact kit_tuple_str | exact kit_tuple_bool | exact kit_tuple_tuple | exact kit_tuple_list)
local macro_rules | `(tactic| walk_at "nd") => `(tactic| first
  | assumption
  | exact Tm.nds _
  | exact Nds.nil
  | ((refine' Nds.cons ?na ?nb); (case na => first | exact Nds.I _ | exact Nds.L | exact Nds.A); (case nb => walk_at "nd"))
  | ((refine' Nds.app ?na ?nb); (case na => walk_at "nd"); (case nb => walk_at "nd"))
  | ((refine' Nds.rep ?na _); (case na => walk_at "nd")))
local macro_rules | `(tactic| walk_at "len") => `(tactic| first
  | exact ly_sz (by omega)
  | ((simp only [List.length_append, List.length_cons, List.length_nil, List.length_map, PyProof.Rows.lm_len_rep_flat]); exact ly_sz (by omega)))
section
variable {P : Program} {w : World} {K : PySem.W.Frag} {mg : Str → Option Value} {base : Heap} {tk : Nat → Tok} {cl : Nat → Addr}
def spAbs (K : PySem.W.Frag) (C : Addr) : Sp := fun vs H Q E => ∃ a xs, vs = [.ref a] ∧ SqT K H a xs ∧ Nds xs ∧ xs.length ≤ 100000 ∧
  (fitsV (V.str "lam" :: xs) = true → ∀ p H', Ex H H' → SqT K H' p (V.str "lam" :: xs) → Q (.ref p) H') ∧ (fitsV (V.str "lam" :: xs) = false → ∀ H', Ex H H' → E (.ref C) none H')
theorem ok_abstraction {f : Addr} {fd : FuncData} (F : Fun K "abstraction" "abstraction" s_abstraction f fd) (T : Txt K mg tk cl)
    (D1 : Def P w K mg base (L2.CX P w) 2 "checked" ["term"] (spChecked K (cl 1))) : FnOk P w K mg base (L2.CX P w) 3 f fd ["body"] (spAbs K (cl 1)) := by
  obtain ⟨f1, fd1, g_checked, kp_checked, b_checked, G_checked⟩ := D1
  refine F.okX sc_abstraction (fun vs H Q E h => ?_) (fun cdv A outer s H vs Q E hr h => ?_)
  · obtain ⟨a, xs, rfl, _⟩ := h
    rfl
  · obtain ⟨a, xs, rfl, hS, hf, hz, q, x⟩ := h
    refine ⟨_, (pss_one (ps_ret (pe_call G_checked (hr.mono (by decide)) (by rfl) g_checked kp_checked b_checked .nil (passes_call (takes_of rfl rfl rfl rfl) (fun _ _ _ _ h => h)) (pa_cons (pe_op op_catA (pe_tup (pa_cons pe_str pa_nil)) (pv 0)) pa_nil)))), ?_⟩
    refine sl_of (σ2 := [some _]) rfl ?_
    walk_at "st"
    walk_at "go"
    intro p hp
    walk_at "go"
    intro p2 H2 e2 hp2
    have ee : Ex H H2 := by walk_at "ex"
    walk_at "go"
    exact ⟨p2, _, rfl, hp2, (Nds.cons Nds.L hf).flat, fun h => q h p2 H2 ee hp2, fun h => x h H2 ee⟩
def spApp (K : PySem.W.Frag) (C : Addr) : Sp := fun vs H Q E => ∃ a b xs ys, vs = [.ref a, .ref b] ∧ SqT K H a xs ∧ SqT K H b ys ∧ Nds xs ∧ Nds ys ∧ xs.length ≤ 100000 ∧ ys.length ≤ 100000 ∧
  (fitsV (V.str "app" :: xs ++ ys) = true → ∀ p H', Ex H H' → SqT K H' p (V.str "app" :: xs ++ ys) → Q (.ref p) H') ∧ (fitsV (V.str "app" :: xs ++ ys) = false → ∀ H', Ex H H' → E (.ref C) none H')
theorem ok_application {f : Addr} {fd : FuncData} (F : Fun K "application" "application" s_application f fd) (T : Txt K mg tk cl)
    (D1 : Def P w K mg base (L2.CX P w) 2 "checked" ["term"] (spChecked K (cl 1))) : FnOk P w K mg base (L2.CX P w) 3 f fd ["function", "argument"] (spApp K (cl 1)) := by
  obtain ⟨f1, fd1, g_checked, kp_checked, b_checked, G_checked⟩ := D1
  refine F.okX sc_application (fun vs H Q E h => ?_) (fun cdv A outer s H vs Q E hr h => ?_)
  · obtain ⟨a, b, xs, ys, rfl, _⟩ := h
    rfl
  · obtain ⟨a, b, xs, ys, rfl, hS, hS2, hf, hf2, hz, hz2, q, x⟩ := h
    refine ⟨_, (pss_one (ps_ret (pe_call G_checked (hr.mono (by decide)) (by rfl) g_checked kp_checked b_checked .nil (passes_call (takes_of rfl rfl rfl rfl) (fun _ _ _ _ h => h)) (pa_cons (pe_op op_catA (pe_op op_catA (pe_tup (pa_cons pe_str pa_nil)) (pv 0)) (pv 1)) pa_nil)))), ?_⟩
    refine sl_of (σ2 := [some _, some _]) rfl ?_
    walk_at "st"
    walk_at "go"
    intro p hp
    walk_at "go"
    intro p2 H2 e2 hp2
    have ee : Ex H H2 := by walk_at "ex"
    have hb2 : SqT K H2 b ys := ex_t ee hS2
    walk_at "go"
    intro p3 H3 e3 hp3
    walk_at "go"
    exact ⟨p3, _, rfl, hp3, ((Nds.cons Nds.A hf).app hf2).flat, fun h => q h p3 H3 (ee.trans e3) hp3, fun h => x h H3 (ee.trans e3)⟩
def spSome (K : PySem.W.Frag) : Sp := fun vs H Q _ => ∃ (s : Addr) (m : Stm), vs = [.ref s] ∧ StAt H s m ∧ ∀ H' p (t : Tm) m', Fr s H H' → StAt H' s m' → Fol m m' → SqT K H' p t.enc → t.enc.length ≤ 1010 → t.vars 1000000 → Q (.ref p) H'
theorem ok_some {f : Addr} {fd : FuncData} (F : Fun K "_law_some" "_law_some" s_law_some f fd) (T : Txt K mg tk cl)
    (D1 : Def P w K mg base CX0 1 "_law_draw" ["stream", "many"] spDraw) (D2 : Def P w K mg base CX0 2 "_law_term" ["stream", "size", "loose"] spTerm) : FnOk P w K mg base CX0 3 f fd ["stream"] (spSome K) := by
  obtain ⟨f1, fd1, g_law_draw, kp_law_draw, b_law_draw, G_law_draw⟩ := D1
  obtain ⟨f2, fd2, g_law_term, kp_law_term, b_law_term, G_law_term⟩ := D2
  refine F.ok sc_law_some (fun vs H Q E h => ?_) (fun cdv A outer s H vs Q E hr h => ?_)
  · obtain ⟨a, m, rfl, _⟩ := h
    rfl
  · obtain ⟨a, m, rfl, hst, q⟩ := h
    refine ⟨_, (pss_cons (ps_set (i := 1) sc_law_some.nd rfl (.inl rfl) (pe_call G_law_draw (hr.mono (by decide)) (by rfl) g_law_draw kp_law_draw b_law_draw .nil pass0 (pa_cons (pv 0) (pa_cons pe_int pa_nil)))) (pss_cons (ps_if (pt_cmpR op_eq (pv 1) pe_int (nomark _)) (pss_one (ps_ret (pe_op op_catA (pe_op op_repB (pe_tup (pa_cons pe_str pa_nil)) (pe_op op_add pe_int (pe_call G_law_draw (hr.mono (by decide)) (by rfl) g_law_draw kp_law_draw b_law_draw .nil pass0 (pa_cons (pv 0) (pa_cons pe_int pa_nil))))) (pe_tup (pa_cons pe_int pa_nil))))) pss_nil) (pss_cons (ps_if (pt_cmpR op_eq (pv 1) pe_int (nomark _)) (pss_one (ps_ret (pe_op op_catA (pe_op op_catA (pe_op op_repB (pe_tup (pa_cons pe_str (pa_cons pe_int pa_nil))) (pe_op op_add pe_int (pe_call G_law_draw (hr.mono (by decide)) (by rfl) g_law_draw kp_law_draw b_law_draw .nil pass0 (pa_cons (pv 0) (pa_cons pe_int pa_nil))))) (pe_op op_repB (pe_tup (pa_cons pe_str pa_nil)) (pe_call G_law_draw (hr.mono (by decide)) (by rfl) g_law_draw kp_law_draw b_law_draw .nil pass0 (pa_cons (pv 0) (pa_cons pe_int pa_nil))))) (pe_tup (pa_cons pe_int pa_nil))))) pss_nil) (pss_one (ps_ret (pe_call G_law_term (hr.mono (by decide)) (by rfl) g_law_term kp_law_term b_law_term .nil pass0 (pa_cons (pv 0) (pa_cons (pe_op op_add pe_int (pe_call G_law_draw (hr.mono (by decide)) (by rfl) g_law_draw kp_law_draw b_law_draw .nil pass0 (pa_cons (pv 0) (pa_cons pe_int pa_nil)))) (pa_cons pe_int pa_nil))))))))), ?_⟩
    refine sl_of (σ2 := [some _, none]) rfl ?_
    walk_at "st"
    walk_at "go"
    refine ⟨a, m, 5, rfl, hst, by decide, by decide, fun H1 fr1 st1 => ?_⟩
    have fol1 := Fol.next m 5
    walk_at "go"
    refine w_brI (fun h1 => ?_) (fun h1 => ?_)
    · walk_at "go"
      intro p1 hp1
      walk_at "go"
      refine ⟨a, _, 7, rfl, st1.new hp1, by decide, by decide, fun H2 fr2 st2 => ?_⟩
      have hv := (m.next 5).val_lt (n := 7) (by decide)
      have p1a := (st1.ne hp1).1
      have hp12 : H2 p1 = some (.tup [V.str "lam"]) := by walk_at "hp"
      walk_at "go"
      intro p2 H3 e3 hp2
      walk_at "go"
      intro p3 hp3
      walk_at "go"
      intro p4 H4 e4 hp4
      have eq : (List.replicate (993 + (m.next 5).val 7).toNat [V.str "lam"]).flatten ++ [V.int 0] = (Tm.lamN (993 + (m.next 5).val 7).toNat (.var 0)).enc := by
        rw [Tm.enc_lamN]
        rfl
      rw [eq] at hp4
      have ee : Ex H2 H4 := by walk_at "ex"
      refine q H4 p4 _ _ ?_ (st2.ex ee) (fol1.step 7) hp4 ?_ (Tm.vars_lamN (Nat.zero_le _))
      · exact ((Fr.new fr1 hp1).trans fr2).trans (Fr.ex ee)
      · rw [← eq]
        simp only [List.length_append, List.length_cons, List.length_nil, PyProof.Rows.lm_len_rep_flat]
        omega
    · walk_at "go"
      refine w_brI (fun h2 => ?_) (fun h2 => ?_)
      · walk_at "go"
        intro p1 hp1
        walk_at "go"
        refine ⟨a, _, 5, rfl, st1.new hp1, by decide, by decide, fun H2 fr2 st2 => ?_⟩
        have hv := (m.next 5).val_lt (n := 5) (by decide)
        have p1a := (st1.ne hp1).1
        have hp12 : H2 p1 = some (.tup [V.str "app", V.int 3]) := by walk_at "hp"
        walk_at "go"
        intro p2 H3 e3 hp2
        walk_at "go"
        intro p3 hp3
        have st3 := (st2.ex e3).new (o := .tup [V.str "lam"]) hp3
        have p3a := ((st2.ex e3).ne hp3).1
        walk_at "go"
        refine ⟨a, _, 2, rfl, st3, by decide, by decide, fun H4 fr4 st4 => ?_⟩
        have hv4 := ((m.next 5).next 5).val_lt (n := 2) (by decide)
        have hp34 : H4 p3 = some (.tup [V.str "lam"]) := by walk_at "hp"
        have hp24 : SqT K H4 p2 (List.replicate (247 + (m.next 5).val 5).toNat [V.str "app", V.int 3]).flatten := fr_t fr4 st3.2.1 (by walk_at "hp")
        walk_at "go"
        intro p5 H5 e5 hp5
        walk_at "go"
        intro p6 H6 e6 hp6
        walk_at "go"
        intro p7 hp7
        walk_at "go"
        intro p8 H8 e8 hp8
        have ee : Ex H4 H8 := by walk_at "ex"
        have eq : (List.replicate (247 + (m.next 5).val 5).toNat [V.str "app", V.int 3]).flatten ++ (List.replicate (((m.next 5).next 5).val 2).toNat [V.str "lam"]).flatten ++ [V.int 0] = (Tm.rowN 3 (247 + (m.next 5).val 5).toNat (Tm.lamN (((m.next 5).next 5).val 2).toNat (.var 0))).enc := by
          rw [Tm.enc_rowN, Tm.enc_lamN, List.append_assoc]
          rfl
        rw [eq] at hp8
        refine q H8 p8 _ _ ?_ (st4.ex ee) ((fol1.step 5).step 2) hp8 ?_ (Tm.vars_rowN (by decide) (Tm.vars_lamN (Nat.zero_le _)))
        · exact ((((Fr.new fr1 hp1).trans fr2).trans (Fr.new (Fr.ex e3) hp3)).trans fr4).trans (Fr.ex ee)
        · rw [← eq]
          simp only [List.length_append, List.length_cons, List.length_nil, PyProof.Rows.lm_len_rep_flat]
          omega
      · walk_at "go"
        refine ⟨a, _, 12, rfl, st1, by decide, by decide, fun H2 fr2 st2 => ?_⟩
        have hv := (m.next 5).val_lt (n := 12) (by decide)
        walk_at "go"
        refine ⟨a, _, (1 + (m.next 5).val 12).toNat, 3, ?_, st2, by omega, by omega, by decide, fun H3 p m3 t fr3 st3 fol3 hpn hp hwf hlen => ?_⟩
        · rw [Int.toNat_of_nonneg (by omega)]
          rfl
        · refine q H3 p t m3 ((fr1.trans fr2).trans fr3) st3 ((fol1.step 12).trans fol3) (SqT.of hp) (by omega) (Tm.vars_mono (by omega) (Tm.vars_wf hwf))
/-- what both builders give: the term, or None if it is too large -/
def spBuilt (K : PySem.W.Frag) : Sp := fun vs H Q _ => ∃ l, vs = [.ref l] ∧ ((∃ a xs, H l = some (.lst [.ref a]) ∧ SqT K H a xs ∧ Nds xs ∧ xs.length ≤ 100000 ∧
    (fitsV (V.str "lam" :: xs) = true → ∀ p H', Ex H H' → SqT K H' p (V.str "lam" :: xs) → Q (.ref p) H') ∧ (fitsV (V.str "lam" :: xs) = false → ∀ H', Ex H H' → Q .non H')) ∨
  (∃ a b xs ys, H l = some (.lst [.ref a, .ref b]) ∧ SqT K H a xs ∧ SqT K H b ys ∧ Nds xs ∧ Nds ys ∧ xs.length ≤ 100000 ∧ ys.length ≤ 100000 ∧
    (fitsV (V.str "app" :: xs ++ ys) = true → ∀ p H', Ex H H' → SqT K H' p (V.str "app" :: xs ++ ys) → Q (.ref p) H') ∧ (fitsV (V.str "app" :: xs ++ ys) = false → ∀ H', Ex H H' → Q .non H')))
theorem ok_built {f : Addr} {fd : FuncData} (F : Fun K "_law_built" "_law_built" s_law_built f fd) (T : Txt K mg tk cl)
    (D1 : Def P w K mg base (L2.CX P w) 3 "abstraction" ["body"] (spAbs K (cl 1))) (D2 : Def P w K mg base (L2.CX P w) 3 "application" ["function", "argument"] (spApp K (cl 1))) : FnOk P w K mg base CX0 4 f fd ["parts"] (spBuilt K) := by
  obtain ⟨f1, fd1, g_abstraction, kp_abstraction, b_abstraction, G_abstraction⟩ := D1
  obtain ⟨f2, fd2, g_application, kp_application, b_application, G_application⟩ := D2
  refine F.ok sc_law_built (fun vs H Q E h => ?_) (fun cdv A outer s H vs Q E hr h => ?_)
  · obtain ⟨l, rfl, _⟩ := h
    rfl
  · obtain ⟨l, rfl, h⟩ := h
    refine ⟨_, (pss_cons (ps_try_as (i := 1) rfl rfl sc_law_built.nd rfl rfl ⟨rfl, by decide, .inl T.g_TooLarge⟩ takes0 (fun W pn xe tk po => (pss_cons (ps_if (pt_cmpR op_eq (pe_callB (call_len_seqK (K := K) (by rfl)) (by rfl) T.n_len (by decide +kernel) (pa_cons (pv 0) pa_nil)) pe_int (nomark _)) (pss_one (ps_ret (pe_callS G_abstraction (hr.mono (by decide)) (by rfl) g_abstraction kp_abstraction b_abstraction (fun σ => passAt tk σ) (pa_cons (pe_ix (ix_listK (K := K) (by rfl)) (pv 0) pe_int (fun _ _ => rfl)) pa_nil)))) pss_nil) (pss_one (ps_ret (pe_callS G_application (hr.mono (by decide)) (by rfl) g_application kp_application b_application (fun σ => passAt tk σ) (pa_cons (pe_ix (ix_listK (K := K) (by rfl)) (pv 0) pe_int (fun _ _ => rfl)) (pa_cons (pe_ix (ix_listK (K := K) (by rfl)) (pv 0) pe_int (fun _ _ => rfl)) pa_nil))))))) (fun a oe cls d pn hz hf => (pss_one (ps_if (PW.pt (pw_and (pt_val (pe_callB (call_isEa hz hf) (by rfl) T.n_isinstance (by decide +kernel) (pa_cons (pv 1) (pa_cons (pe_glob (v := .ref (cl 0)) (by rfl) T.g_LyditeError (by rfl)) pa_nil)))) (pw_and1 (pt_val (pe_callB (call_isEa hz hf) (by rfl) T.n_isinstance (by decide +kernel) (pa_cons (pv 1) (pa_cons (pe_bltn (v := .ty "ValueError") (by rfl) T.n_ValueError (by decide +kernel) rfl) pa_nil))))))) (pss_one (ps_ret pe_non)) pss_nil)))) (pss_one (ps_ret pe_int))), ?_⟩
    refine sl_of (σ2 := [some _, none]) rfl ?_
    walk_at "st"
    have suite : ∀ (a1 : Addr) (H1 : Hp) (σ : L2.St) (D2 : Ends), σ[1]? = some (some (.ref a1)) → D2.rt .non H1 → tIfS
        (tAnd (tB (tCB (fun xs H Q => ∃ D, Value.ref (cl 1) = Value.ref D ∧ (none : Option Addr) = none ∧ ExcC K D ∧ rIsE K D a1 xs H Q) (tCons (tVar 1) (tCons (tC (V.ref (cl 0))) tNil))))
          (tB (tCB (fun xs H Q => ∃ D, Value.ref (cl 1) = Value.ref D ∧ (none : Option Addr) = none ∧ ExcC K D ∧ rIsE K D a1 xs H Q) (tCons (tVar 1) (tCons (tC (V.ty "ValueError")) tNil)))))
        (tRet (tC V.non)) tNext D2 σ H1 := fun a1 H1 σ D2 hσ hrt => by
      refine w_if (w_and (w_tB (w_cb (w_cons (w_var hσ (w_cons (w_c (w_nil ?_))))))))
      refine ⟨cl 1, rfl, rfl, T.exc, .ref (cl 0), .ref (cl 0), true, rfl, fun u r => r, T.i_TooLarge_L, ?_⟩
      walk_at "go"
      refine w_var hσ (w_cons (w_c (w_nil ?_)))
      refine ⟨cl 1, rfl, rfl, T.exc, .ty "ValueError", .type "ValueError", true, rfl, fun u r => r, T.i_TooLarge_V, ?_⟩
      walk_at "go"
      exact hrt
    rcases h with ⟨a, xs, hl, hS, hn, hz, q, x⟩ | ⟨a, b, xs, ys, hl, hS, hS2, hn, hn2, hz, hz2, q, x⟩
    · walk_at "go"
      refine w_brI (fun h1 => ?_) (fun h1 => absurd rfl h1)
      walk_at "go"
      refine ⟨a, xs, rfl, hS, hn, hz, fun h p H' e hp => q h p H' e hp, fun h H' e => ?_⟩
      exact ⟨true, T.e_TooLarge, fun _ a1 ha1 => suite a1 H' _ _ rfl (x h H' e), fun z => nomatch z⟩
    · walk_at "go"
      refine w_brI (fun h1 => by simp at h1) (fun h1 => ?_)
      walk_at "go"
      refine ⟨a, b, xs, ys, rfl, hS, hS2, hn, hn2, hz, hz2, fun h p H' e hp => q h p H' e hp, fun h H' e => ?_⟩
      exact ⟨true, T.e_TooLarge, fun _ a1 ha1 => suite a1 H' _ _ rfl (x h H' e), fun z => nomatch z⟩
def spLaw (K : PySem.W.Frag) : Sp := fun vs H Q _ => ∃ (a : Addr) (ns : List Int), vs = [.ref a] ∧ SqL K H a (ns.map V.int) ∧ ns.length ≤ 63 ∧ ∀ H', Q (.bl true) H'
theorem ok_law {f : Addr} {fd : FuncData} (F : Fun K "law" "law" s_law f fd) (T : Txt K mg tk cl)
    (D1 : Def P w K mg base CX0 1 "_law_stream" ["script"] (spStream K)) (D2 : Def P w K mg base CX0 3 "_law_some" ["stream"] (spSome K)) (D3 : Def P w K mg base CX0 4 "_law_built" ["parts"] (spBuilt K))
    (D4 : Def P w K mg base CX0 2 "is_term" ["value"] (spIsTerm K)) : FnOk P w K mg base CX0 5 f fd ["script"] (spLaw K) := by
  obtain ⟨f1, fd1, g_law_stream, kp_law_stream, b_law_stream, G_law_stream⟩ := D1
  obtain ⟨f2, fd2, g_law_some, kp_law_some, b_law_some, G_law_some⟩ := D2
  obtain ⟨f3, fd3, g_law_built, kp_law_built, b_law_built, G_law_built⟩ := D3
  obtain ⟨f4, fd4, g_is_term, kp_is_term, b_is_term, G_is_term⟩ := D4
  refine F.ok sc_law (fun vs H Q E h => ?_) (fun cdv A outer s H vs Q E hr h => ?_)
  · obtain ⟨a, ns, rfl, _⟩ := h
    rfl
  · obtain ⟨a, ns, rfl, hS, hlen, q⟩ := h
    refine ⟨_, (pss_cons (ps_set (i := 1) sc_law.nd rfl (.inl rfl) (pe_call G_law_stream (hr.mono (by decide)) (by rfl) g_law_stream kp_law_stream b_law_stream .nil pass0 (pa_cons (pv 0) pa_nil))) (pss_cons (ps_set (i := 2) sc_law.nd rfl (.inl rfl) (pe_call G_law_some (hr.mono (by decide)) (by rfl) g_law_some kp_law_some b_law_some .nil pass0 (pa_cons (pv 1) pa_nil))) (pss_cons (ps_set (i := 3) sc_law.nd rfl (.inl rfl) (pe_call G_law_some (hr.mono (by decide)) (by rfl) g_law_some kp_law_some b_law_some .nil pass0 (pa_cons (pv 1) pa_nil))) (pss_cons (ps_for PassesOwn.never rfl (pi_tup (pe_tup (pa_cons (pe_tup (pa_cons (pe_lst (pa_cons (pv 2) pa_nil)) (pa_cons (pe_op op_catA (pe_tup (pa_cons pe_str pa_nil)) (pv 2)) pa_nil))) (pa_cons (pe_tup (pa_cons (pe_lst (pa_cons (pv 2) (pa_cons (pv 3) pa_nil))) (pa_cons (pe_op op_catA (pe_op op_catA (pe_tup (pa_cons pe_str pa_nil)) (pv 2)) (pv 3)) pa_nil))) (pa_cons (pe_tup (pa_cons (pe_lst (pa_cons (pv 3) (pa_cons (pv 2) pa_nil))) (pa_cons (pe_op op_catA (pe_op op_catA (pe_tup (pa_cons pe_str pa_nil)) (pv 3)) (pv 2)) pa_nil))) pa_nil))))) (pg_name (i := 4) sc_law.nd rfl (.inl rfl)) (pss_cons (ps_set (i := 5) sc_law.nd rfl (.inl rfl) (pe_call G_law_built (hr.mono (by decide)) (by rfl) g_law_built kp_law_built b_law_built .nil pass0 (pa_cons (pe_ix ix_tup (pv 4) pe_int (fun _ _ => rfl)) pa_nil))) (pss_one (ps_if (pt_cmpR op_gt (pe_callB call_len_seq (by rfl) T.n_len (by decide +kernel) (pa_cons (pe_ix ix_tup (pv 4) pe_int (fun _ _ => rfl)) pa_nil)) pe_int (nomark _)) (pss_one (ps_if (pt_cmpR op_notN (pv 5) pe_non (nomark _)) (pss_one (ps_ret pe_bl)) pss_nil)) (pss_one (ps_if (PW.pt (pw_or (pt_cmpR (op_neD hr.units) (pv 5) (pe_ix ix_tup (pv 4) pe_int (fun _ _ => rfl)) (nomark _)) (pw_or1 (pt_cmpR op_notBl (pe_call G_is_term (hr.mono (by decide)) (by rfl) g_is_term kp_is_term b_is_term .nil pass0 (pa_cons (pv 5) pa_nil)) pe_bl (nomark _))))) (pss_one (ps_ret pe_bl)) pss_nil)))))) (pss_one (ps_ret (pe_and (pe_cmpR op_eq (pe_glob (v := .int 1000) rfl T.g_MOST_NODES ⟨_, rfl⟩) pe_int (nomark _)) (pe_one (pe_cmpR op_eq (pe_glob (v := .int 1000000) rfl T.g_MOST_VARIABLE ⟨_, rfl⟩) pe_int (nomark _)))))))))), ?_⟩
    refine sl_of (σ2 := [some _, none, none, none, none, none]) rfl ?_
    walk_at "st"
    walk_at "go"
    refine ⟨a, ns, rfl, hS, hlen, fun H1 s1 l e1 hs1 st1 => ?_⟩
    walk_at "go"
    refine ⟨s1, _, rfl, st1, fun H2 pa t1 m2 fr2 st2 fol2 hpa hla hva => ?_⟩
    walk_at "go"
    refine ⟨s1, _, rfl, st2, fun H3 pb t2 m3 fr3 st3 fol3 hpb hlb hvb => ?_⟩
    have hpa3 := fr_t fr3 st2.2.1 hpa
    walk_at "go"
    intro l1 hl1
    walk_at "go"
    intro x1 hx1
    walk_at "go"
    intro u1 G1 g1 hu1
    walk_at "go"
    intro p1 hp1
    walk_at "go"
    intro l2 hl2
    walk_at "go"
    intro x2 hx2
    walk_at "go"
    intro u2 G2 g2 hu2
    walk_at "go"
    intro u3 G3 g3 hu3
    walk_at "go"
    intro p2 hp2
    walk_at "go"
    intro l3 hl3
    walk_at "go"
    intro x3 hx3
    walk_at "go"
    intro u4 G4 g4 hu4
    walk_at "go"
    intro u5 G5 g5 hu5
    walk_at "go"
    intro p3 hp3
    walk_at "go"
    intro p4 hp4
    walk_at "go"
    have big : ∃ HH, upd (upd G5 p3 (.tup [V.ref l3, V.ref u5])) p4 (.tup [V.ref p1, V.ref p2, V.ref p3]) = HH := ⟨_, rfl⟩
    obtain ⟨HH, eHH⟩ := big
    have hp4H : SqT K HH p4 [V.ref p1, V.ref p2, V.ref p3] := by rw [← eHH]; walk_at "hp"
    have pairs : ∀ x ∈ [V.ref p1, V.ref p2, V.ref p3], ∃ pi li ui r, x = .ref pi ∧ SqT K HH pi [V.ref li, V.ref ui] ∧ SqT K HH ui r ∧ Nds r ∧ scanV 1 r = true ∧ r.all okV = true ∧ r.length ≤ 3000 ∧
        ∀ (H' : Hp) (Q' : VK) (E' : XK), Ex HH H' → (fitsV r = true → ∀ p H2, Ex H' H2 → SqT K H2 p r → Q' (.ref p) H2) → (fitsV r = false → ∀ H2, Ex H' H2 → Q' .non H2) → spBuilt K ([.ref li] ++ []) H' Q' E' := by
      have paH : SqT K HH pa t1.enc := by rw [← eHH]; walk_at "hp"
      have pbH : SqT K HH pb t2.enc := by rw [← eHH]; walk_at "hp"
      have c1 : (Tm.lam t1).enc = V.str "lam" :: t1.enc := rfl
      have c2 : (Tm.app t1 t2).enc = V.str "app" :: t1.enc ++ t2.enc := rfl
      have c3 : (Tm.app t2 t1).enc = V.str "app" :: t2.enc ++ t1.enc := rfl
      have len1 : (V.str "lam" :: t1.enc).length ≤ 3000 := by simp; omega
      have len2 : (V.str "app" :: t1.enc ++ t2.enc).length ≤ 3000 := by simp; omega
      have len3 : (V.str "app" :: t2.enc ++ t1.enc).length ≤ 3000 := by simp; omega
      intro x hx
      simp only [List.mem_cons, List.not_mem_nil, or_false] at hx
      rcases hx with rfl | rfl | rfl
      · have hl : HH l1 = some (.lst [V.ref pa]) := by rw [← eHH]; walk_at "hp"
        refine ⟨p1, l1, u1, V.str "lam" :: t1.enc, rfl, by rw [← eHH]; walk_at "hp", by rw [← eHH]; walk_at "hp", by walk_at "nd", by rw [← c1]; exact scan_tm hva, by rw [← c1]; exact ok_vars (t := .lam t1) hva, len1, fun H' Q' E' e q x => ?_⟩
        exact ⟨l1, rfl, .inl ⟨pa, t1.enc, e _ _ hl, ex_t e paH, t1.nds, by omega, q, x⟩⟩
      · have hl : HH l2 = some (.lst [V.ref pa, V.ref pb]) := by rw [← eHH]; walk_at "hp"
        refine ⟨p2, l2, u3, V.str "app" :: t1.enc ++ t2.enc, rfl, by rw [← eHH]; walk_at "hp", by rw [← eHH]; walk_at "hp", by walk_at "nd", by rw [← c2]; exact scan_tm ⟨hva, hvb⟩, by rw [← c2]; exact ok_vars (t := .app t1 t2) ⟨hva, hvb⟩, len2, fun H' Q' E' e q x => ?_⟩
        exact ⟨l2, rfl, .inr ⟨pa, pb, t1.enc, t2.enc, e _ _ hl, ex_t e paH, ex_t e pbH, t1.nds, t2.nds, by omega, by omega, q, x⟩⟩
      · have hl : HH l3 = some (.lst [V.ref pb, V.ref pa]) := by rw [← eHH]; walk_at "hp"
        refine ⟨p3, l3, u5, V.str "app" :: t2.enc ++ t1.enc, rfl, by rw [← eHH]; walk_at "hp", by rw [← eHH]; walk_at "hp", by walk_at "nd", by rw [← c3]; exact scan_tm ⟨hvb, hva⟩, by rw [← c3]; exact ok_vars (t := .app t2 t1) ⟨hvb, hva⟩, len3, fun H' Q' E' e q x => ?_⟩
        exact ⟨l3, rfl, .inr ⟨pb, pa, t2.enc, t1.enc, e _ _ hl, ex_t e pbH, ex_t e paH, t2.nds, t1.nds, by omega, by omega, q, x⟩⟩
    rw [eHH]
    clear eHH
    refine for_tup (K := K) (a := p4) (xs := [V.ref p1, V.ref p2, V.ref p3]) (fun i σ H' => Ex HH H' ∧ ∃ y z, σ = [some (.ref a), some (.ref s1), some (.ref pa), some (.ref pb), y, z]) ⟨Ex.refl _, none, none, rfl⟩ (fun i σ H' _ e => ex_t e.1 hp4H) ?_ ?_
    · rintro i x σ H' hi ⟨ee, y, z, rfl⟩
      obtain ⟨pi, li, ui, r, rfl, hpi, hui, hnd, hsc, hok, hlr, hb⟩ := pairs x (List.mem_of_getElem? hi)
      have hpi' := ex_t ee hpi
      have hui' := ex_t ee hui
      walk_at "go"
      refine hb H' _ _ ee (fun hfit p H2 e2 hp => ?_) (fun hfit H2 e2 => ?_)
      · have hl1 : r.length ≤ 1000 := by
          simp [fitsV] at hfit
          exact hfit.1
        have hT : isTermV r = true := by simp [isTermV, hl1, hsc]
        walk_at "go"
        refine w_br (fun h => by omega) (fun h => ?_)
        walk_at "go"
        refine ⟨_, rfl, .inl ⟨p, r, rfl, hp, by omega, hnd.flat.kd _, ?_⟩⟩
        rw [hT]
        walk_at "go"
        exact ⟨ee.trans e2, _, _, rfl⟩
      · have hl1 : ¬ r.length ≤ 1000 := fun h => by
          rw [fitsV, hok, decide_eq_true h] at hfit
          cases hfit
        walk_at "go"
        refine w_br (fun h => ?_) (fun h => by omega)
        walk_at "go"
        exact ⟨ee.trans e2, _, _, rfl⟩
    · rintro σ H' ⟨ee, y, z, rfl⟩
      walk_at "go"
      exact q _
end
end Ly
set_option Elab.async false
set_option linter.all false
set_option maxRecDepth 100000
namespace Ly
open PySem PySem.Spec PyProof.Rows L2 Evl
/-! ### what the top has left; the head -/
theorem all_mk {l : PySem.W.OpenLaw} {w : World} {K : PySem.W.Frag} {h : Heap} {mg : Str → Option Value} {fa f1 f2 f3 f4 f5 f6 f7 f8 f9 f10 f11 f12 f13 cc0 cc1 : Addr} (X : K.In h) (G : h.Ns mainGlobals mg) (hfa : mg "law" = some (.ref fa))
    {od1 an1 od2 an2 od3 an3 od4 an4 od5 an5 od6 an6 od7 an7 od8 an8 od9 an9 od10 an10 od11 an11 od12 an12 od13 an13 : Option Addr} {sl1 sl2 sl3 sl4 sl5 sl6 sl7 sl8 sl9 sl10 sl11 sl12 sl13 : Array (Option Value)} {oc1 kV1 dc1 pm1 cd1 ct1 oc2 kV2 dc2 pm2 cd2 ct2 oc3 kV3 dc3 pm3 cd3 ct3 oc4 kV4 dc4 pm4 cd4 ct4 oc5 kV5 dc5 pm5 cd5 ct5 oc6 kV6 dc6 pm6 cd6 ct6 oc7 kV7 dc7 pm7 cd7 ct7 oc8 kV8 dc8 pm8 cd8 ct8 oc9 kV9 dc9 pm9 cd9 ct9 oc10 kV10 dc10 pm10 cd10 ct10 oc11 kV11 dc11 pm11 cd11 ct11 oc12 kV12 dc12 pm12 cd12 ct12 oc13 kV13 dc13 pm13 cd13 ct13 : Value} {t0 t1 : Tok}
    (a1 : PySem.W.nsIn K mainGlobals "_law_draw" = some (some (.ref f1))) (l1 : K.lookup f1 = some ⟨oc1, od1, .func (PySem.W.fnOf "_law_draw" "_law_draw" (defArgs s_law_draw) (defBody s_law_draw) (defScope s_law_draw) .none kV1 dc1 pm1 an1 cd1 ct1), sl1⟩) (c1 : PySem.W.codeIn K cd1 "_law_draw" = true) (k1 : PySem.W.keepIn K (.ref f1) = true)
    (a2 : PySem.W.nsIn K mainGlobals "_law_stream" = some (some (.ref f2))) (l2 : K.lookup f2 = some ⟨oc2, od2, .func (PySem.W.fnOf "_law_stream" "_law_stream" (defArgs s_law_stream) (defBody s_law_stream) (defScope s_law_stream) .none kV2 dc2 pm2 an2 cd2 ct2), sl2⟩) (c2 : PySem.W.codeIn K cd2 "_law_stream" = true) (k2 : PySem.W.keepIn K (.ref f2) = true)
    (a3 : PySem.W.nsIn K mainGlobals "_law_term" = some (some (.ref f3))) (l3 : K.lookup f3 = some ⟨oc3, od3, .func (PySem.W.fnOf "_law_term" "_law_term" (defArgs s_law_term) (defBody s_law_term) (defScope s_law_term) .none kV3 dc3 pm3 an3 cd3 ct3), sl3⟩) (c3 : PySem.W.codeIn K cd3 "_law_term" = true) (k3 : PySem.W.keepIn K (.ref f3) = true)
    (a4 : PySem.W.nsIn K mainGlobals "is_node" = some (some (.ref f4))) (l4 : K.lookup f4 = some ⟨oc4, od4, .func (PySem.W.fnOf "is_node" "is_node" (defArgs s_is_node) (defBody s_is_node) (defScope s_is_node) .none kV4 dc4 pm4 an4 cd4 ct4), sl4⟩) (c4 : PySem.W.codeIn K cd4 "is_node" = true) (k4 : PySem.W.keepIn K (.ref f4) = true)
    (a5 : PySem.W.nsIn K mainGlobals "part_count" = some (some (.ref f5))) (l5 : K.lookup f5 = some ⟨oc5, od5, .func (PySem.W.fnOf "part_count" "part_count" (defArgs s_part_count) (defBody s_part_count) (defScope s_part_count) .none kV5 dc5 pm5 an5 cd5 ct5), sl5⟩) (c5 : PySem.W.codeIn K cd5 "part_count" = true) (k5 : PySem.W.keepIn K (.ref f5) = true)
    (a6 : PySem.W.nsIn K mainGlobals "is_term" = some (some (.ref f6))) (l6 : K.lookup f6 = some ⟨oc6, od6, .func (PySem.W.fnOf "is_term" "is_term" (defArgs s_is_term) (defBody s_is_term) (defScope s_is_term) .none kV6 dc6 pm6 an6 cd6 ct6), sl6⟩) (c6 : PySem.W.codeIn K cd6 "is_term" = true) (k6 : PySem.W.keepIn K (.ref f6) = true)
    (a7 : PySem.W.nsIn K mainGlobals "check_size" = some (some (.ref f7))) (l7 : K.lookup f7 = some ⟨oc7, od7, .func (PySem.W.fnOf "check_size" "check_size" (defArgs s_check_size) (defBody s_check_size) (defScope s_check_size) .none kV7 dc7 pm7 an7 cd7 ct7), sl7⟩) (c7 : PySem.W.codeIn K cd7 "check_size" = true) (k7 : PySem.W.keepIn K (.ref f7) = true)
    (a8 : PySem.W.nsIn K mainGlobals "checked" = some (some (.ref f8))) (l8 : K.lookup f8 = some ⟨oc8, od8, .func (PySem.W.fnOf "checked" "checked" (defArgs s_checked) (defBody s_checked) (defScope s_checked) .none kV8 dc8 pm8 an8 cd8 ct8), sl8⟩) (c8 : PySem.W.codeIn K cd8 "checked" = true) (k8 : PySem.W.keepIn K (.ref f8) = true)
    (a9 : PySem.W.nsIn K mainGlobals "abstraction" = some (some (.ref f9))) (l9 : K.lookup f9 = some ⟨oc9, od9, .func (PySem.W.fnOf "abstraction" "abstraction" (defArgs s_abstraction) (defBody s_abstraction) (defScope s_abstraction) .none kV9 dc9 pm9 an9 cd9 ct9), sl9⟩) (c9 : PySem.W.codeIn K cd9 "abstraction" = true) (k9 : PySem.W.keepIn K (.ref f9) = true)
    (a10 : PySem.W.nsIn K mainGlobals "application" = some (some (.ref f10))) (l10 : K.lookup f10 = some ⟨oc10, od10, .func (PySem.W.fnOf "application" "application" (defArgs s_application) (defBody s_application) (defScope s_application) .none kV10 dc10 pm10 an10 cd10 ct10), sl10⟩) (c10 : PySem.W.codeIn K cd10 "application" = true) (k10 : PySem.W.keepIn K (.ref f10) = true)
    (a11 : PySem.W.nsIn K mainGlobals "_law_some" = some (some (.ref f11))) (l11 : K.lookup f11 = some ⟨oc11, od11, .func (PySem.W.fnOf "_law_some" "_law_some" (defArgs s_law_some) (defBody s_law_some) (defScope s_law_some) .none kV11 dc11 pm11 an11 cd11 ct11), sl11⟩) (c11 : PySem.W.codeIn K cd11 "_law_some" = true) (k11 : PySem.W.keepIn K (.ref f11) = true)
    (a12 : PySem.W.nsIn K mainGlobals "_law_built" = some (some (.ref f12))) (l12 : K.lookup f12 = some ⟨oc12, od12, .func (PySem.W.fnOf "_law_built" "_law_built" (defArgs s_law_built) (defBody s_law_built) (defScope s_law_built) .none kV12 dc12 pm12 an12 cd12 ct12), sl12⟩) (c12 : PySem.W.codeIn K cd12 "_law_built" = true) (k12 : PySem.W.keepIn K (.ref f12) = true)
    (a13 : PySem.W.nsIn K mainGlobals "law" = some (some (.ref f13))) (l13 : K.lookup f13 = some ⟨oc13, od13, .func (PySem.W.fnOf "law" "law" (defArgs s_law) (defBody s_law) (defScope s_law) .none kV13 dc13 pm13 an13 cd13 ct13), sl13⟩) (c13 : PySem.W.codeIn K cd13 "law" = true) (k13 : PySem.W.keepIn K (.ref f13) = true)
    (z_int : PySem.W.nsIn K mainGlobals "int" = some none)
    (z_list : PySem.W.nsIn K mainGlobals "list" = some none)
    (z_len : PySem.W.nsIn K mainGlobals "len" = some none)
    (z_abs : PySem.W.nsIn K mainGlobals "abs" = some none)
    (z_isinstance : PySem.W.nsIn K mainGlobals "isinstance" = some none)
    (z_str : PySem.W.nsIn K mainGlobals "str" = some none)
    (z_bool : PySem.W.nsIn K mainGlobals "bool" = some none)
    (z_tuple : PySem.W.nsIn K mainGlobals "tuple" = some none)
    (z_range : PySem.W.nsIn K mainGlobals "range" = some none)
    (z_ValueError : PySem.W.nsIn K mainGlobals "ValueError" = some none)
    (g_MOST_NODES : PySem.W.nsIn K mainGlobals "MOST_NODES" = some (some (.int 1000 t0)))
    (g_MOST_VARIABLE : PySem.W.nsIn K mainGlobals "MOST_VARIABLE" = some (some (.int 1000000 t1)))
    (e_LyditeError : PySem.W.nsIn K mainGlobals "LyditeError" = some (some (.ref cc0)))
    (e_TooLarge : PySem.W.nsIn K mainGlobals "TooLarge" = some (some (.ref cc1)))
    (y_x_TooLarge : PySem.W.excIn K cc1 [.type "ValueError", .type "Exception", .type "BaseException", .type "object"] "ValueError.__new__" = true)
    (y_k_TooLarge : PySem.W.keepIn K (.ref cc1) = true)
    (y_b_TooLarge : PySem.W.subIn K (.ref cc1) (.type "BaseException") = some true)
    (y_t_TooLarge : PySem.W.typeIn K (.ref cc1) = some (.type "type"))
    (y_s1_TooLarge : PySem.W.subIn K (.ref cc1) (.ref cc1) = some true)
    (y_s0_TooLarge : PySem.W.subIn K (.ref cc1) (.ref cc0) = some true)
    (y_sv_TooLarge : PySem.W.subIn K (.ref cc1) (.type "ValueError") = some true)
    (y_t_LyditeError : PySem.W.typeIn K (.ref cc0) = some (.type "type"))
    (y_h3_LyditeError : PySem.W.hasDictIn K cc0 = true)
    (y_h1_TooLarge : PySem.W.findIn K (.ref cc1) "__getattribute__" = some (some (.builtin "BaseException.__getattribute__")))
    (y_h2_TooLarge : PySem.W.findIn K (.ref cc1) "__getattr__" = some none)
    (y_h3_TooLarge : PySem.W.hasDictIn K cc1 = true)
    (y_h4_TooLarge : PySem.W.findIn K (.ref cc1) "__class__" = some (some (.builtin "object.__class__")))
    (y_h5_TooLarge : PySem.W.specialIn K (.builtin "object.__class__") "__get__" = some (some (.builtin "getset_descriptor.__get__")))
    (y_h6_TooLarge : PySem.W.takesIn K (.builtin "object.__class__") = some true)
    (y_h7_TooLarge : PySem.W.mroIn K cc1 (.type "object") = some true)
    : ∃ fd : FuncData, (∀ (s : Shared) (v : Value), BindsTo s fd ⟨[v], []⟩ [("script", v)]) ∧ ∀ base : Heap, K.In base → base.Ns mainGlobals mg → FnOk l.prog w K mg base CX0 5 fa fd ["script"] (spLaw K) := by
  have e := hfa.symm.trans (PySem.W.mg_of X G a13)
  cases e
  have T : Txt K mg (fun n => match n with | 0 => t0 | _ => t1) (fun n => match n with | 0 => cc0 | _ => cc1) := ⟨PySem.W.mg_none_of X G z_int, PySem.W.mg_none_of X G z_list, PySem.W.mg_none_of X G z_len, PySem.W.mg_none_of X G z_abs, PySem.W.mg_none_of X G z_isinstance, PySem.W.mg_none_of X G z_str, PySem.W.mg_none_of X G z_bool, PySem.W.mg_none_of X G z_tuple, PySem.W.mg_none_of X G z_range, PySem.W.mg_of X G g_MOST_NODES, PySem.W.mg_of X G g_MOST_VARIABLE, PySem.W.mg_none_of X G z_ValueError, PySem.W.mg_of X G e_LyditeError, PySem.W.mg_of X G e_TooLarge, y_x_TooLarge, y_k_TooLarge, y_b_TooLarge, y_t_TooLarge, y_s1_TooLarge, y_s0_TooLarge, y_sv_TooLarge, y_t_LyditeError, y_h3_LyditeError, y_h1_TooLarge, y_h2_TooLarge, y_h3_TooLarge, y_h4_TooLarge, y_h5_TooLarge, y_h6_TooLarge, y_h7_TooLarge⟩
  exact ⟨PySem.W.fnOf "law" "law" (defArgs s_law) (defBody s_law) (defScope s_law) .none kV13 dc13 pm13 an13 cd13 ct13, fun s v => .of_eq rfl, fun base _ _ => by
    have F1 := fun_mk (st := s_law_draw) l1 c1 k1
    have D1 := Def.of (P := l.prog) (w := w) (base := base) (k := 1) (PySem.W.mg_of X G a1) k1 (F1.binds (ps := ["stream", "many"]) fun _ _ _ _ _ _ us hl => match us, hl with | [_, _], _ => rfl) (ok_draw F1 T)
    have F2 := fun_mk (st := s_law_stream) l2 c2 k2
    have D2 := Def.of (P := l.prog) (w := w) (base := base) (k := 1) (PySem.W.mg_of X G a2) k2 (F2.binds (ps := ["script"]) fun _ _ _ _ _ _ us hl => match us, hl with | [_], _ => rfl) (ok_stream F2 T)
    have F3 := fun_mk (st := s_law_term) l3 c3 k3
    have D3 := Def.of (P := l.prog) (w := w) (base := base) (k := 2) (PySem.W.mg_of X G a3) k3 (F3.binds (ps := ["stream", "size", "loose"]) fun _ _ _ _ _ _ us hl => match us, hl with | [_, _, _], _ => rfl) (ok_term F3 T D1)
    have F4 := fun_mk (st := s_is_node) l4 c4 k4
    have D4 := Def.of (P := l.prog) (w := w) (base := base) (k := 1) (PySem.W.mg_of X G a4) k4 (F4.binds (ps := ["value"]) fun _ _ _ _ _ _ us hl => match us, hl with | [_], _ => rfl) (ok_is_node F4 T)
    have F5 := fun_mk (st := s_part_count) l5 c5 k5
    have D5 := Def.of (P := l.prog) (w := w) (base := base) (k := 1) (PySem.W.mg_of X G a5) k5 (F5.binds (ps := ["node"]) fun _ _ _ _ _ _ us hl => match us, hl with | [_], _ => rfl) (ok_part_count F5 T)
    have F6 := fun_mk (st := s_is_term) l6 c6 k6
    have D6 := Def.of (P := l.prog) (w := w) (base := base) (k := 2) (PySem.W.mg_of X G a6) k6 (F6.binds (ps := ["value"]) fun _ _ _ _ _ _ us hl => match us, hl with | [_], _ => rfl) (ok_is_term F6 T D4 D5)
    have F7 := fun_mk (st := s_check_size) l7 c7 k7
    have D7 := Def.of (P := l.prog) (w := w) (base := base) (k := 1) (PySem.W.mg_of X G a7) k7 (F7.binds (ps := ["size"]) fun _ _ _ _ _ _ us hl => match us, hl with | [_], _ => rfl) (ok_check_size F7 T)
    have F8 := fun_mk (st := s_checked) l8 c8 k8
    have D8 := Def.of (P := l.prog) (w := w) (base := base) (k := 2) (PySem.W.mg_of X G a8) k8 (F8.binds (ps := ["term"]) fun _ _ _ _ _ _ us hl => match us, hl with | [_], _ => rfl) (ok_checked F8 T D7)
    have F9 := fun_mk (st := s_abstraction) l9 c9 k9
    have D9 := Def.of (P := l.prog) (w := w) (base := base) (k := 3) (PySem.W.mg_of X G a9) k9 (F9.binds (ps := ["body"]) fun _ _ _ _ _ _ us hl => match us, hl with | [_], _ => rfl) (ok_abstraction F9 T D8)
    have F10 := fun_mk (st := s_application) l10 c10 k10
    have D10 := Def.of (P := l.prog) (w := w) (base := base) (k := 3) (PySem.W.mg_of X G a10) k10 (F10.binds (ps := ["function", "argument"]) fun _ _ _ _ _ _ us hl => match us, hl with | [_, _], _ => rfl) (ok_application F10 T D8)
    have F11 := fun_mk (st := s_law_some) l11 c11 k11
    have D11 := Def.of (P := l.prog) (w := w) (base := base) (k := 3) (PySem.W.mg_of X G a11) k11 (F11.binds (ps := ["stream"]) fun _ _ _ _ _ _ us hl => match us, hl with | [_], _ => rfl) (ok_some F11 T D1 D3)
    have F12 := fun_mk (st := s_law_built) l12 c12 k12
    have D12 := Def.of (P := l.prog) (w := w) (base := base) (k := 4) (PySem.W.mg_of X G a12) k12 (F12.binds (ps := ["parts"]) fun _ _ _ _ _ _ us hl => match us, hl with | [_], _ => rfl) (ok_built F12 T D9 D10)
    have F13 := fun_mk (st := s_law) l13 c13 k13
    exact ok_law F13 T D2 D11 D12 D6⟩
theorem walk {l : PySem.W.OpenLaw} {q : Program} {loose : List Str} {XP : (Str → Option Value) → Heap → Prop} {YP : World → Heap → Prop} {d : DefRec} {K : Params → PySem.W.Frag} (hn : l.most = some 63) (hdf : d.params.defaults = [])
    (hY : ∀ (w : World) (h : Heap), YP w h → (K w.params).In h)
    (F : ∀ (w : World) (mg : Str → Option Value) (fa : Addr) (h : Heap), (K w.params).In h → h.Ns mainGlobals mg → mg d.name = some (.ref fa) →
      ∃ fd : FuncData, (∀ (s : Shared) (u : Value), BindsTo s fd ⟨[u], []⟩ [("script", u)]) ∧ ∀ base : Heap, (K w.params).In base → base.Ns mainGlobals mg → FnOk l.prog w (K w.params) mg base CX0 5 fa fd ["script"] (spLaw (K w.params))) :
    PySem.W.WalkO q loose XP YP l.row.toRowW d [] (fun f vs => PySem.call f vs) :=
  L2.walk_of (n := 63) (k := 5) (x := "script") (CX := fun _ => CX0) (sp := fun w => spLaw (K w.params)) hn (by decide) hdf ⟨rfl, by decide, by decide⟩ hY F (fun _ _ a ns hl _ hS => ⟨a, ns, rfl, hS, hl, fun _ => rfl⟩) fun _ _ _ _ _ z => z
end Ly
open PySem PySem.W PyProof.Rows in
set_option maxRecDepth 100000 in
set_option maxHeartbeats 0 in
theorem PySem.Challenge.cw_lydite_k02_build_holds : PySem.Challenge.rw_lydite_k02_build.Holds := by
  w_on; o_law; k_head; (case hw => w_witness2)
  k_fill
  refine Ly.walk (l := PySem.Challenge.rw_lydite_k02_build) rfl rfl (fun w h Y => PySem.W.kIn_of Y) ?F
  case F =>
    intro w mg fa h KX G hmg
    refine' Ly.all_mk KX G hmg ?a1 ?l1 ?c1 ?k1 ?a2 ?l2 ?c2 ?k2 ?a3 ?l3 ?c3 ?k3 ?a4 ?l4 ?c4 ?k4 ?a5 ?l5 ?c5 ?k5 ?a6 ?l6 ?c6 ?k6 ?a7 ?l7 ?c7 ?k7 ?a8 ?l8 ?c8 ?k8 ?a9 ?l9 ?c9 ?k9 ?a10 ?l10 ?c10 ?k10 ?a11 ?l11 ?c11 ?k11 ?a12 ?l12 ?c12 ?k12 ?a13 ?l13 ?c13 ?k13 ?z_int ?z_list ?z_len ?z_abs ?z_isinstance ?z_str ?z_bool ?z_tuple ?z_range ?z_ValueError ?g_MOST_NODES ?g_MOST_VARIABLE ?e_LyditeError ?e_TooLarge ?y_x_TooLarge ?y_k_TooLarge ?y_b_TooLarge ?y_t_TooLarge ?y_s1_TooLarge ?y_s0_TooLarge ?y_sv_TooLarge ?y_t_LyditeError ?y_h3_LyditeError ?y_h1_TooLarge ?y_h2_TooLarge ?y_h3_TooLarge ?y_h4_TooLarge ?y_h5_TooLarge ?y_h6_TooLarge ?y_h7_TooLarge
    (case a1 => k_is)
    (case l1 => k_is)
    (case c1 => k_is)
    (case k1 => k_is)
    (case a2 => k_is)
    (case l2 => k_is)
    (case c2 => k_is)
    (case k2 => k_is)
    (case a3 => k_is)
    (case l3 => k_is)
    (case c3 => k_is)
    (case k3 => k_is)
    (case a4 => k_is)
    (case l4 => k_is)
    (case c4 => k_is)
    (case k4 => k_is)
    (case a5 => k_is)
    (case l5 => k_is)
    (case c5 => k_is)
    (case k5 => k_is)
    (case a6 => k_is)
    (case l6 => k_is)
    (case c6 => k_is)
    (case k6 => k_is)
    (case a7 => k_is)
    (case l7 => k_is)
    (case c7 => k_is)
    (case k7 => k_is)
    (case a8 => k_is)
    (case l8 => k_is)
    (case c8 => k_is)
    (case k8 => k_is)
    (case a9 => k_is)
    (case l9 => k_is)
    (case c9 => k_is)
    (case k9 => k_is)
    (case a10 => k_is)
    (case l10 => k_is)
    (case c10 => k_is)
    (case k10 => k_is)
    (case a11 => k_is)
    (case l11 => k_is)
    (case c11 => k_is)
    (case k11 => k_is)
    (case a12 => k_is)
    (case l12 => k_is)
    (case c12 => k_is)
    (case k12 => k_is)
    (case a13 => k_is)
    (case l13 => k_is)
    (case c13 => k_is)
    (case k13 => k_is)
    (case z_int => k_is)
    (case z_list => k_is)
    (case z_len => k_is)
    (case z_abs => k_is)
    (case z_isinstance => k_is)
    (case z_str => k_is)
    (case z_bool => k_is)
    (case z_tuple => k_is)
    (case z_range => k_is)
    (case z_ValueError => k_is)
    (case g_MOST_NODES => k_is)
    (case g_MOST_VARIABLE => k_is)
    (case e_LyditeError => k_is)
    (case e_TooLarge => k_is)
    (case y_x_TooLarge => k_exc)
    (case y_k_TooLarge => k_is)
    (case y_b_TooLarge => k_is)
    (case y_t_TooLarge => k_is)
    (case y_s1_TooLarge => k_is)
    (case y_s0_TooLarge => k_is)
    (case y_sv_TooLarge => k_is)
    (case y_t_LyditeError => k_is)
    (case y_h3_LyditeError => k_is)
    (case y_h1_TooLarge => k_is)
    (case y_h2_TooLarge => k_is)
    (case y_h3_TooLarge => k_is)
    (case y_h4_TooLarge => k_is)
    (case y_h5_TooLarge => k_is)
    (case y_h6_TooLarge => k_is)
    (case y_h7_TooLarge => k_is)
