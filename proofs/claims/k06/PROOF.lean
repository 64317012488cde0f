import PyProof.Rows.All
import Wide.All
import OpenK.AllK
import Wide.FinOn
import HandS.ForMost
import HandS.IsInst
import HandS.Style
import HandS.Walk
import HandS.TupMul
import HandS.TupAny
import HandS.Evl
import HandS.Strs
import HandS.SortInts
import PyProof.P3Eq
import HandS.ForExc
import HandS.ExcIs
import HandS.FStr
import HandS.RaiseMore
import KE.GoesMore
import KE.GoesEnum
import PySem.Challenge.RW_lydite_k06_whole_putting
set_option Elab.async false
set_option linter.all false
set_option maxRecDepth 100000
/-! Ly: one rule a reading, and three small searchers (heap, apartness, frame). -/
namespace Ly
open PySem PySem.Spec PyProof.Rows L2 Evl

section
variable {K : PySem.W.Frag} {σ : L2.St} {H H' H0 : Hp} {Q : VK} {D : Ends} {ta tb tc te to : TE} {tA : TA} {t u : TT} {s1 s2 : TS} {g : TG}
theorem w_var {i : Nat} {v : V} (h : σ[i]? = some (some v)) (q : Q v H) : tVar i σ H Q := ⟨v, h, q⟩
theorem w_c {v : V} (q : Q v H) : tC v σ H Q := q
theorem w_op {r : R2} (h : ta σ H fun x H1 => tb σ H1 fun y H2 => r x y H2 Q) : tOp r ta tb σ H Q := h
theorem w_un {r : V → Hp → VK → Prop} (h : ta σ H fun x H1 => r x H1 Q) : tUn r ta σ H Q := h
theorem w_I0 {f : Int → Int → V} {i j : Int} (q : Q (f i j) H) : rI0 f (.int i) (.int j) H Q := ⟨i, j, rfl, rfl, q⟩
theorem w_I {C : Int → Int → Prop} {f : Int → Int → V} {i j : Int} (c : C i j) (q : Q (f i j) H) : rI C f (.int i) (.int j) H Q := ⟨i, j, rfl, rfl, c, q⟩
theorem w_U {f : Int → V} {i : Int} (q : Q (f i) H) : rU f (.int i) H Q := ⟨i, rfl, q⟩
theorem w_eq {x y : V} (s : scal x y = true) (q : Q (.bl (decide (x = y))) H) : rEq x y H Q := ⟨s, q⟩
theorem w_ne {x y : V} (s : scal x y = true) (q : Q (.bl (!decide (x = y))) H) : rNe x y H Q := ⟨s, q⟩
theorem w_isB {a b : Bool} (q : Q (.bl (decide (a = b))) H) : rIsB (.bl a) (.bl b) H Q := ⟨a, b, rfl, rfl, q⟩
theorem w_notB {a b : Bool} (q : Q (.bl (!decide (a = b))) H) : rNotB (.bl a) (.bl b) H Q := ⟨a, b, rfl, rfl, q⟩
theorem w_nil {R : List V → Hp → Prop} (q : R [] H) : tNil σ H R := q
theorem w_cons {R : List V → Hp → Prop} {tr : TA} (h : ta σ H fun x H1 => tr σ H1 fun xs H2 => R (x :: xs) H2) : tCons ta tr σ H R := h
theorem w_tup (h : tA σ H fun xs H1 => xs.length ≤ sizeLine ∧ ∀ p, H1 p = none → Q (.ref p) (upd H1 p (.tup xs))) : tTup tA σ H Q := h
theorem w_lst (h : tA σ H fun xs H1 => xs.length ≤ sizeLine ∧ ∀ p, H1 p = none → Q (.ref p) (upd H1 p (.lst xs))) : tLst tA σ H Q := h
theorem w_cb {r : List V → Hp → VK → Prop} (h : tA σ H fun vs H1 => r vs H1 Q) : tCB r tA σ H Q := h
theorem w_call {sp : Sp} {dvs : List V} {E : XK} (h : tA σ H fun vs H1 => sp (vs ++ dvs) H1 Q E) : tCall sp dvs E tA σ H Q := h
theorem w_isi {x : V} {n : String} {t : Value} {b : Bool} (h : TyX K H x t) (k : PySem.W.kitOne K t (.type n) = some b) (q : Q (.bl b) H) : rIsi K [x, .ty n] H Q :=
  ⟨x, .ty n, t, .type n, b, rfl, .ty n, h, k, q⟩
theorem w_bm {T : String} {r : V → List V → Hp → VK → Prop} (h : to σ H fun x H1 => tyV K T x H1 ∧ tA σ H1 fun xs H2 => r x xs H2 Q) : tBM K T r to tA σ H Q := h
theorem w_bm0 {T : String} {r : V → List V → Hp → VK → Prop} (h : to σ H fun x H1 => tyV K T x H1 ∧ r x [] H1 Q) : tBM0 K T r to σ H Q := h
theorem w_app {l : Addr} {xs : List V} {y : V} (h : H l = some (.lst xs)) (z : xs.length < sizeLine) (q : Q .non (upd H l (.lst (xs ++ [y])))) : rAppend (.ref l) [y] H Q := ⟨l, xs, y, rfl, rfl, h, z, q⟩
theorem w_pop {l : Addr} {xs : List V} {y : V} (h : H l = some (.lst xs)) (z : xs[xs.length - 1]? = some y) (q : Q y (upd H l (.lst xs.dropLast))) : rPop (.ref l) [] H Q := ⟨l, xs, y, rfl, rfl, h, z, q⟩
theorem w_popA {l : Addr} {xs : List V} {y : V} (h : H l = some (.lst (xs ++ [y]))) (q : Q y (upd H l (.lst xs))) : rPop (.ref l) [] H Q :=
  ⟨l, xs ++ [y], y, rfl, rfl, h, by simp, by rw [List.dropLast_concat]; exact q⟩
theorem w_sadd {w : World} {a : Addr} {k : Int} {S : Int → Bool} {n : Nat} (h : H a = some (SetO w a S n)) (r : n + 1 < 4096) (q : Q .non (upd H a (SetO w a (fun j => S j || decide (j = k)) (if S k = true then n else n + 1)))) : rSAdd w (.ref a) [.int k] H Q := ⟨a, k, S, n, rfl, rfl, h, r, q⟩
theorem w_tsadd {w : World} (h : ta σ H fun x H1 => (∃ a S n, x = V.ref a ∧ H1 a = some (SetO w a S n)) ∧ tA σ H1 fun xs H2 => rSAdd w x xs H2 Q) : tSAdd w ta tA σ H Q := h
theorem w_tsadd1 {w : World} {a : Addr} {S : Int → Bool} {n : Nat} {B : Prop} (h : H a = some (SetO w a S n)) (q : B) : (∃ b S' n', V.ref a = V.ref b ∧ H b = some (SetO w b S' n')) ∧ B := ⟨⟨a, S, n, rfl, h⟩, q⟩
theorem w_ext {l b : Addr} {xs zs : List V} (h : H l = some (.lst xs)) (h2 : H b = some (.lst zs)) (z : xs.length + zs.length ≤ sizeLine) (q : Q .non (upd H l (.lst (xs ++ zs)))) : rExtend (.ref l) [.ref b] H Q := ⟨l, b, xs, zs, rfl, rfl, h, h2, z, q⟩
theorem w_ixL {p : Addr} {xs : List V} {i : Int} {v : V} (h : SqL K H p xs) (a : atI xs i = some v) (q : Q v H) : rIxL K (.ref p) (.int i) H Q := ⟨p, xs, i, v, rfl, rfl, h, a, q⟩
theorem w_ixT {p : Addr} {xs : List V} {i : Int} {v : V} (h : SqT K H p xs) (a : atI xs i = some v) (q : Q v H) : rIxT K (.ref p) (.int i) H Q := ⟨p, xs, i, v, rfl, rfl, h, a, q⟩
theorem w_cat {a b : Addr} {xs ys : List V} (h : H a = some (.lst xs)) (h2 : H b = some (.lst ys)) (z : xs.length + ys.length ≤ sizeLine) (q : ∀ p, H p = none → Q (.ref p) (upd H p (.lst (xs ++ ys)))) : rCat (.ref a) (.ref b) H Q := ⟨a, b, xs, ys, rfl, rfl, h, h2, z, q⟩
theorem w_test {R : Bool → Hp → Prop} (h : te σ H fun x H1 => ∃ k, x = .bl k ∧ R k H1) : tTest te σ H R := h
theorem w_tB {R : Bool → Hp → Prop} (h : te σ H fun x H1 => ∃ k, x = .bl k ∧ R k H1) : tB te σ H R := h
theorem w_bl {A : Bool → Prop} {k : Bool} (h : A k) : ∃ c, V.bl k = .bl c ∧ A c := ⟨k, rfl, h⟩
theorem w_and {R : Bool → Hp → Prop} (h : t σ H fun c H1 => if c = true then u σ H1 R else R false H1) : tAnd t u σ H R := h
theorem w_or {R : Bool → Hp → Prop} (h : t σ H fun c H1 => if c = true then R true H1 else u σ H1 R) : tOr t u σ H R := h
theorem w_not {R : Bool → Hp → Prop} (h : t σ H fun c H1 => R (!c) H1) : tNot t σ H R := h
theorem w_andV (h : ta σ H fun x H1 => ∃ c, x = .bl c ∧ if c = true then tb σ H1 Q else Q (.bl false) H1) : tAndV ta tb σ H Q := h
theorem w_orV (h : ta σ H fun x H1 => ∃ c, x = .bl c ∧ if c = true then Q (.bl true) H1 else tb σ H1 Q) : tOrV ta tb σ H Q := h
theorem w_notV (h : ta σ H fun x H1 => ∃ c, x = .bl c ∧ Q (.bl (!c)) H1) : tNotV ta σ H Q := h
theorem w_ifE (h : t σ H fun c H1 => if c = true then ta σ H1 Q else tb σ H1 Q) : tIf t ta tb σ H Q := h
theorem w_ch {r r' : R2} (h : ta σ H fun x H1 => tb σ H1 fun y H2 => r x y H2 fun z H3 => ∃ k, z = .bl k ∧ (if k = true then tc σ H3 fun w' H4 => r' y w' H4 Q else Q (.bl false) H3)) : tChain r r' ta tb tc σ H Q := h
-- statements
theorem sl_of {t : TS} {D : Ends} {σ σ2 : L2.St} {H : Hp} (e : σ = σ2) (h : t D σ2 H) : t D σ H := by
  rw [e]
  exact h
theorem w_seq (h : s1 { D with nx := s2 D } σ H) : tSeq s1 s2 D σ H := h
theorem w_cut {M : L2.St → Hp → Prop} (h : s1 { D with nx := M } σ H) (q : ∀ σ' H', M σ' H' → s2 D σ' H') : tCut s1 s2 D σ H := ⟨M, h, q⟩
theorem w_while (W : Nat → L2.St → Hp → Prop) (m0 : Nat) (h0 : W m0 σ H) (hs : ∀ m σ H, W m σ H → t σ H fun b H1 => if b = true then ∃ N : L2.St → Hp → Prop, (∀ σ' H', N σ' H' → ∃ m', m' < m ∧ W m' σ' H') ∧ s1 { D with nx := N, ct := N, bk := D.nx } σ H1 else D.nx σ H1) : tWhile t s1 D σ H := ⟨W, ⟨m0, h0⟩, hs⟩
theorem w_truL {l : Addr} {xs : List V} {A : Bool → Prop} (h : SqL K H l xs) (q : A (!xs.isEmpty)) : ∃ k, TruV K (.ref l) H k ∧ A k := ⟨_, .inl ⟨xs, h, rfl⟩, q⟩
theorem w_next (h : D.nx σ H) : tNext D σ H := h
theorem w_drop (h : te σ H fun _ H1 => D.nx σ H1) : tDrop te D σ H := h
theorem w_ret (h : te σ H D.rt) : tRet te D σ H := h
theorem w_asg (h : te σ H fun x H1 => g x σ H1 D.nx) : tAsg te g D σ H := h
theorem w_if (h : t σ H fun b H1 => if b = true then s1 D σ H1 else s2 D σ H1) : tIfS t s1 s2 D σ H := h
theorem w_name {v : V} {i : Nat} {R : L2.St → Hp → Prop} (h : R (σ.set i (some v)) H) : gName i v σ H R := h
theorem w_sub {v : V} {st : TSet} {R : L2.St → Hp → Prop} (h : ta σ H fun o H1 => tb σ H1 fun i H2 => st o i v H2 fun H3 => R σ H3) : gSub ta tb st v σ H R := h
theorem w_setL {R : Hp → Prop} {p : Addr} {xs : List V} {k : Int} {j : Nat} {v : V} (h : H p = some (.lst xs)) (a : ixN xs.length k = some j) (q : R (upd H p (.lst (xs.set j v)))) : rSetL (.ref p) (.int k) v H R := ⟨p, xs, k, j, rfl, rfl, h, a, q⟩
theorem w_aug {i : Nat} {x : V} {ti : TIp} (h : σ[i]? = some (some x)) (q : te σ H fun y H1 => ti x y H1 fun z H2 => D.nx (σ.set i (some z)) H2) : tAug i te ti D σ H := ⟨x, h, q⟩
theorem w_ipI {f : Int → Int → Int} {i j : Int} (q : Q (.int (f i j)) H) : ipI f (.int i) (.int j) H Q := ⟨i, j, rfl, rfl, q⟩
end

/-! ### what a for walks -/
def ForB (J : It) (g : TG) (tb : TS) (D : Ends) (σ : L2.St) (H1 : Hp) : Prop := ∃ W : Nat → Nat → L2.St → Hp → Prop, (∃ m, W 0 m σ H1) ∧ ∀ i m σ H, W i m σ H →
  (J.stop i H ∧ D.nx σ H) ∨ (J.go i H ∧ ∃ N : L2.St → Hp → Prop, (∀ σ' H', N σ' H' → ∃ m', m' < m ∧ W (i + 1) m' σ' H') ∧ ∀ x H', J.yld i H x H' → g x σ H' fun σ2 H2 => tb { D with nx := N, ct := N, bk := D.nx } σ2 H2)
def LcB (J : It) (g : TG) (tt : TT) (te : TE) (vs : List Nat) (Q : VK) (σ : L2.St) (H1 : Hp) (Dl : Addr) : Prop := ∃ W : Nat → Nat → Hp → Prop, (∃ m, W 0 m (upd H1 Dl (.lst []))) ∧ ∀ i m H, W i m H →
  (J.stop i H ∧ Q (.ref Dl) H) ∨ (J.go i H ∧ ∃ Nx : Hp → Prop, (∀ H', Nx H' → ∃ m', m' < m ∧ W (i + 1) m' H') ∧ ∀ x H', J.yld i H x H' → g x (wipe σ vs) H' fun σ2 H2 => wipe σ2 vs = wipe σ vs ∧ tt σ2 H2 fun b H3 =>
    if b = true then te σ2 H3 fun y H4 => ∃ acc, H4 Dl = some (.lst acc) ∧ acc.length < sizeLine ∧ Nx (upd H4 Dl (.lst (acc ++ [y]))) else Nx H3)
section
variable {K : PySem.W.Frag} {σ : L2.St} {H : Hp} {D : Ends} {ta tb : TE} {tA : TA} {g : TG} {s1 : TS} {wi : TI} {R : It → Hp → Prop}
theorem w_for (h : wi σ H fun J H1 => ForB J g s1 D σ H1) : tFor wi g s1 D σ H := h
theorem w_iL (h : ta σ H fun x H1 => ∃ a, x = .ref a ∧ (∃ xs, SqL K H1 a xs) ∧ R (Itl K a) H1) : iList K ta σ H R := h
theorem w_iL1 {a : Addr} {xs : List V} {B : Addr → Prop} (h : SqL K H a xs) (q : B a) : ∃ b, V.ref a = .ref b ∧ (∃ ys, SqL K H b ys) ∧ B b := ⟨a, rfl, ⟨xs, h⟩, q⟩
theorem w_iT (h : ta σ H fun x H1 => ∃ a, x = .ref a ∧ (∃ xs, SqT K H1 a xs) ∧ R (Itt K a) H1) : iTup K ta σ H R := h
theorem w_iT1 {a : Addr} {xs : List V} {B : Addr → Prop} (h : SqT K H a xs) (q : B a) : ∃ b, V.ref a = .ref b ∧ (∃ ys, SqT K H b ys) ∧ B b := ⟨a, rfl, ⟨xs, h⟩, q⟩
theorem w_iR (h : tA σ H fun vs H1 => ∃ j : Int, vs = [.int j] ∧ -(2 ^ 62) ≤ j ∧ j < 2 ^ 62 ∧ R (Itr 0 j.toNat) H1) : iRng1 tA σ H R := h
theorem w_iR1 {j : Int} {B : Int → Prop} (h1 : -(2 ^ 62) ≤ j) (h2 : j < 2 ^ 62) (q : B j) : ∃ k, [V.int j] = [V.int k] ∧ -(2 ^ 62) ≤ k ∧ k < 2 ^ 62 ∧ B k := ⟨j, rfl, h1, h2, q⟩
theorem w_yes {R : Bool → Hp → Prop} (h : R true H) : tYes σ H R := h
theorem w_wipe {σ2 : L2.St} {vs : List Nat} {B : Prop} (e : wipe σ2 vs = wipe σ vs) (q : B) : wipe σ2 vs = wipe σ vs ∧ B := ⟨e, q⟩
theorem w_lc {tt : TT} {te : TE} {vs : List Nat} {Q : VK} (h : wi σ H fun J H1 => ∀ Dl, H1 Dl = none → LcB J g tt te vs Q σ H1 Dl) : tLc wi g tt te vs σ H Q := h
end

/-! ### frames: all that H knows, but the object at s -/
def Fr (s : Addr) (H H' : Hp) : Prop := ∀ a o, a ≠ s → H a = some o → H' a = some o
section
variable {K : PySem.W.Frag} {H H' H0 H1 H2 : Hp} {a p s : Addr} {o : HO} {xs ys : List V}
theorem Fr.refl (s : Addr) (H : Hp) : Fr s H H := fun _ _ _ h => h
theorem Fr.ex (e : Ex H H') : Fr s H H' := fun a o _ h => e a o h
theorem Fr.trans (a : Fr s H H1) (b : Fr s H1 H2) : Fr s H H2 := fun x o n h => b x o n (a x o n h)
theorem Fr.new (e : Fr s H H') (h : H' p = none) : Fr s H (upd H' p o) := fun x u n ha => by
  have q := e x u n ha
  rw [upd_ne (ne_of_none q h)]
  exact q
theorem Fr.mut (e : Fr s H H') (h : H p = none) : Fr s H (upd H' p o) := fun x u n ha => by
  rw [upd_ne (ne_of_none ha h)]
  exact e x u n ha
theorem Fr.own (e : Fr s H H') : Fr s H (upd H' s o) := fun x u n ha => by
  rw [upd_ne n]
  exact e x u n ha
theorem Fr.free (e : Fr s H H') (hs : H s = some o) (h : H' p = none) (h2 : p ≠ s) : H p = none := by
  cases q : H p with
  | none => rfl
  | some u =>
    rw [e p u h2 q] at h
    cases h
theorem fr_t (e : Fr s H H') (hs : H s = some (.lst ys)) (h : SqT K H a xs) : SqT K H' a xs := by
  rcases h with (h | ⟨ob, h⟩) | h
  · exact .inl (.inl (e a _ (fun z => by rw [z, hs] at h; cases h) h))
  · exact .inl (.inr ⟨ob, e a _ (fun z => by rw [z, hs] at h; cases h) h⟩)
  · exact .inr h
theorem ex_upd (e : Ex H H') (h : H p = none) : Ex H (upd H' p o) := e.mut h
theorem ex_new (e : Ex H H') (h : H' p = none) : Ex H (upd H' p o) := e.trans (Ex.new h)
theorem ly_at (e : Ex H H') (h : H a = some o) : H' a = some o := e a o h
theorem ly_atF (e : Fr s H H') (n : a ≠ s) (h : H a = some o) : H' a = some o := e a o n h
theorem ly_mulL {i j : Int} (h1 : -(2 ^ 64) < i) (h2 : i < 2 ^ 64) : CMul i j := .inl ⟨h1, h2⟩
theorem ly_mulR {i j : Int} (h1 : -(2 ^ 64) < j) (h2 : j < 2 ^ 64) : CMul i j := .inr ⟨h1, h2⟩
end
/-! ### built-in calls -/
section
variable {K : PySem.W.Frag} {H : Hp} {Q : VK} {p : Addr} {xs : List V}
theorem w_int {i : Int} {A : Int → Prop} {B : Prop} (q : A i) : (∃ j, [V.int i] = [V.int j] ∧ A j) ∨ B := .inl ⟨i, rfl, q⟩
theorem w_intB {k : Bool} {A : Prop} {B : Bool → Prop} (q : B k) : A ∨ ∃ c, [V.bl k] = [V.bl c] ∧ B c := .inr ⟨k, rfl, q⟩
theorem w_abs {i : Int} {A : Int → Prop} (q : A i) : ∃ j, [V.int i] = [V.int j] ∧ A j := ⟨i, rfl, q⟩
theorem w_lenL {A : Addr → List V → Prop} (h : SqL K H p xs) (q : A p xs) : ∃ a ys, [V.ref p] = [V.ref a] ∧ (SqL K H a ys ∨ SqT K H a ys) ∧ A a ys := ⟨p, xs, rfl, .inl h, q⟩
theorem w_lenT {A : Addr → List V → Prop} (h : SqT K H p xs) (q : A p xs) : ∃ a ys, [V.ref p] = [V.ref a] ∧ (SqL K H a ys ∨ SqT K H a ys) ∧ A a ys := ⟨p, xs, rfl, .inr h, q⟩
theorem w_tupL {A B : Addr → List V → Prop} (h : SqL K H p xs) (q : A p xs) : ∃ a ys, [V.ref p] = [V.ref a] ∧ ((SqL K H a ys ∧ A a ys) ∨ (SqT K H a ys ∧ B a ys)) := ⟨p, xs, rfl, .inl ⟨h, q⟩⟩
theorem w_tupT {A B : Addr → List V → Prop} (h : SqT K H p xs) (q : B p xs) : ∃ a ys, [V.ref p] = [V.ref a] ∧ ((SqL K H a ys ∧ A a ys) ∨ (SqT K H a ys ∧ B a ys)) := ⟨p, xs, rfl, .inr ⟨h, q⟩⟩
theorem w_nT {A B : Prop} (h : B) : if (!true) = true then A else B := iteF h
theorem w_nF {A B : Prop} (h : A) : if (!false) = true then A else B := iteT h
theorem w_br {c A B : Prop} [Decidable c] (h1 : c → A) (h2 : ¬ c → B) : if decide c = true then A else B := ite2 (fun h => h1 (of_decide_eq_true h)) (fun h => h2 (fun z => h (decide_eq_true z)))
theorem w_deIS {i : Int} {x : Str} {A B : Prop} (h : B) : if decide (V.int i = V.str x) = true then A else B := iteF h
theorem w_deSI {i : Int} {x : Str} {A B : Prop} (h : B) : if decide (V.str x = V.int i) = true then A else B := iteF h
theorem w_deST {x y : Str} {A B : Prop} (e : x = y) (h : A) : if decide (V.str x = V.str y) = true then A else B := by
  rw [decide_eq_true (by rw [e])]
  exact iteT h
theorem w_deSF {x y : Str} {A B : Prop} (e : x ≠ y) (h : B) : if decide (V.str x = V.str y) = true then A else B := by
  rw [decide_eq_false (fun z => e (V.str.inj z))]
  exact iteF h
theorem w_deISn {i : Int} {x : Str} {A B : Prop} (h : A) : if (!decide (V.int i = V.str x)) = true then A else B := iteT h
theorem w_deSTn {x y : Str} {A B : Prop} (e : x = y) (h : B) : if (!decide (V.str x = V.str y)) = true then A else B := by
  rw [decide_eq_true (by rw [e])]
  exact iteF h
theorem w_deSFn {x y : Str} {A B : Prop} (e : x ≠ y) (h : A) : if (!decide (V.str x = V.str y)) = true then A else B := by
  rw [decide_eq_false (fun z => e (V.str.inj z))]
  exact iteT h
theorem w_neS {x : V} {A B : Prop} (h : B) : if (!decide (x = x)) = true then A else B := by
  rw [decide_eq_true rfl]
  exact iteF h
theorem w_eqS {x : V} {A B : Prop} (h : A) : if decide (x = x) = true then A else B := by
  rw [decide_eq_true rfl]
  exact iteT h
theorem w_neSb {x : Bool} {A B : Prop} (h : B) : if (!decide (x = x)) = true then A else B := by
  rw [decide_eq_true rfl]
  exact iteF h
theorem w_eqSb {x : Bool} {A B : Prop} (h : A) : if decide (x = x) = true then A else B := by
  rw [decide_eq_true rfl]
  exact iteT h
theorem w_neG {α : Type} {x : α} [Decidable (x = x)] {A B : Prop} (h : B) : if (!decide (x = x)) = true then A else B := by
  rw [decide_eq_true rfl]
  exact iteF h
theorem w_eqG {α : Type} {x : α} [Decidable (x = x)] {A B : Prop} (h : A) : if decide (x = x) = true then A else B := by
  rw [decide_eq_true rfl]
  exact iteT h
theorem w_nn {B : Prop} (q : B) : V.non = V.non ∧ B := ⟨rfl, q⟩
theorem w_nnT {A B : Prop} (h : B) : if (!decide (V.non = V.non)) = true then A else B := iteF h
theorem w_nnR {a : Addr} {A B : Prop} (h : A) : if (!decide (V.ref a = V.non)) = true then A else B := iteT h
theorem w_brI {i j : Int} {A B : Prop} (h1 : i = j → A) (h2 : i ≠ j → B) : if decide (V.int i = V.int j) = true then A else B := w_br (fun h => h1 (V.int.inj h)) (fun h => h2 (fun z => h (by rw [z])))
theorem w_brS {i j : Str} {A B : Prop} (h1 : i = j → A) (h2 : i ≠ j → B) : if decide (V.str i = V.str j) = true then A else B := w_br (fun h => h1 (V.str.inj h)) (fun h => h2 (fun z => h (by rw [z])))
theorem w_brIn {i j : Int} {A B : Prop} (h1 : i ≠ j → A) (h2 : i = j → B) : if (!decide (V.int i = V.int j)) = true then A else B := by
  by_cases e : i = j
  · rw [e, decide_eq_true rfl]
    exact iteF (h2 e)
  · rw [decide_eq_false (fun z => e (V.int.inj z))]
    exact iteT (h1 e)
theorem w_brSn {i j : Str} {A B : Prop} (h1 : i ≠ j → A) (h2 : i = j → B) : if (!decide (V.str i = V.str j)) = true then A else B := by
  by_cases e : i = j
  · rw [e, decide_eq_true rfl]
    exact iteF (h2 e)
  · rw [decide_eq_false (fun z => e (V.str.inj z))]
    exact iteT (h1 e)
theorem w_disp {R : Addr → Prop} (z : xs.length ≤ sizeLine) (q : ∀ p, H p = none → R p) : xs.length ≤ sizeLine ∧ ∀ p, H p = none → R p := ⟨z, q⟩
theorem w_tyL {R : Prop} (h : SqL K H p xs) (q : R) : tyV K "list" (.ref p) H ∧ R := ⟨.inl ⟨rfl, xs, h⟩, q⟩
end
/-! ### errors -/
theorem kcls_mk {K : PySem.W.Frag} {t : Value} {C : Addr} {r : Bool} (d : PySem.W.hasDictIn K C = true) (ty : PySem.W.typeIn K (.ref C) = some (.type "type")) (s : PySem.W.subIn K t (.ref C) = some r) : PySem.W.kitCls K t (.ref C) = some r := by
  have h : ((PySem.W.clsIn K C).isSome && PySem.W.typeIn K (.ref C) == some (.type "type")) = true := by
    obtain ⟨cd, hc, _⟩ := PySem.W.any_some d
    rw [hc, ty]
    simp
  show (if ((PySem.W.clsIn K C).isSome && PySem.W.typeIn K (.ref C) == some (.type "type")) = true then PySem.W.subIn K t (.ref C) else none) = some r
  rw [if_pos h, s]
theorem kitOne_mk {K : PySem.W.Frag} {t : Value} {C : Addr} (d : PySem.W.hasDictIn K C = true) (ty : PySem.W.typeIn K (.ref C) = some (.type "type")) (s : PySem.W.subIn K t (.ref C) = some true) : PySem.W.kitOne K t (.ref C) = some true := by
  unfold PySem.W.kitOne
  split
  · rfl
  · exact kcls_mk d ty s
theorem kitVE {K : PySem.W.Frag} {C : Addr} (s : PySem.W.subIn K (.ref C) (.type "ValueError") = some true) : PySem.W.kitOne K (.ref C) (.type "ValueError") = some true := by
  have m : PySem.W.kitMeta "ValueError" = true := by decide +kernel
  show (if (Value.ref C == Value.type "ValueError") = true then some true else if PySem.W.kitMeta "ValueError" = true then PySem.W.subIn K (.ref C) (.type "ValueError") else none) = some true
  rw [if_pos m, s]
  split <;> rfl
theorem exm_mk {K : PySem.W.Frag} {t : Value} {C : Addr} {r : Bool} (b : PySem.W.subIn K (.ref C) (.type "BaseException") = some true) (d : PySem.W.hasDictIn K C = true) (ty : PySem.W.typeIn K (.ref C) = some (.type "type")) (s : PySem.W.subIn K t (.ref C) = some r) : PySem.W.exmOne K t (.ref C) = some r := by
  unfold PySem.W.exmOne
  rw [b]
  simp [kcls_mk d ty s]
theorem call_isEa {X : Cx} {a : Addr} {oe : Obj} {cls : Value} {d : Option Addr} {pn : List (Addr × Obj)} (hz : Zc cls d oe) (hf : ∃ vs, oe.data = .fields vs) :
    CallR (X.suite a ((a, oe) :: pn)) (.builtin "isinstance") (fun xs H Q => ∃ D, cls = .ref D ∧ d = none ∧ ExcC X.K D ∧ rIsE X.K D a xs H Q) := by
  intro pins s σ H xs us Q I r ⟨D, e1, e2, C, h⟩
  subst e1 e2
  exact call_isE C hz hf pins s σ H xs us Q I r h
section
variable {K : PySem.W.Frag} {σ : L2.St} {H : Hp} {Q : VK} {te : TE} {tA : TA}
theorem w_js {ts : List TE} {acc : Str} {R : Str → Hp → Prop} (h : te σ H fun x H1 => ∃ y : Str, x = .str y ∧ (acc ++ y).length ≤ sizeLine ∧ tJs ts (acc ++ y) σ H1 R) : tJs (te :: ts) acc σ H R := h
theorem w_jsn {acc : Str} {R : Str → Hp → Prop} (h : R acc H) : tJs [] acc σ H R := h
theorem w_js1 {z acc : Str} {A : Str → Prop} (hl : (acc ++ z).length ≤ sizeLine) (q : A z) : ∃ y : Str, V.str z = .str y ∧ (acc ++ y).length ≤ sizeLine ∧ A y := ⟨z, rfl, hl, q⟩
theorem w_fmt (h : te σ H fun x H1 => (∃ y : Str, x = .str y ∧ y.length ≤ sizeLine ∧ Q (.str y) H1) ∨ ∃ i : Int, x = .int i ∧ i.natAbs.log2 < 1920 ∧ Q (.str (toString i)) H1) : tFmt te σ H Q := h
theorem w_fmt1 {i : Int} {A : Prop} {B : Int → Prop} (hl : i.natAbs.log2 < 1920) (q : B i) : A ∨ ∃ j : Int, V.int i = .int j ∧ j.natAbs.log2 < 1920 ∧ B j := .inr ⟨i, rfl, hl, q⟩
theorem w_callS {sp : Sp} {E : L2.St → XK} (h : tA σ H fun vs H1 => sp vs H1 Q (E σ)) : tCallS sp E tA σ H Q := h
end
/-! ### tuples that come: some tuple of these items -/
section
variable {K : PySem.W.Frag} {H H' : Hp} {Q : VK} {a b p : Addr} {xs ys : List V}
theorem w_catA (h : SqT K H a xs) (h2 : SqT K H b ys) (z : xs.length + ys.length ≤ sizeLine) (q : ∀ p H', Ex H H' → SqT K H' p (xs ++ ys) → Q (.ref p) H') : rCatA K (.ref a) (.ref b) H Q :=
  ⟨a, b, xs, ys, rfl, rfl, h, h2, z, fun e => q b H (Ex.refl H) (by rw [e]; exact h2), fun _ e => q a H (Ex.refl H) (by rw [e, List.append_nil]; exact h), fun _ _ p hp => q p _ (Ex.new hp) (SqT.of upd_same)⟩
theorem w_slA {lo hi : Option Int} (h : SqT K H a xs) (q : ∀ p H', Ex H H' → SqT K H' p (cutV xs lo hi) → Q (.ref p) H') : rSlA K (.ref a) lo hi H Q := by
  refine ⟨a, xs, rfl, h, fun e => q a H (Ex.refl H) ?_, fun _ p hp => q p _ (Ex.new hp) (SqT.of upd_same)⟩
  unfold cutV
  rw [e.1, e.2]
  simpa using h
theorem tyx_t (h : SqT K H a xs) : TyX K H (.ref a) (.type "tuple") := by
  rcases h with (h | ⟨o, h⟩) | ⟨o, _, _, h, c, _⟩
  · exact .base (.tup h)
  · exact .fTuple h
  · exact .kTuple h c
theorem tyx_l (h : SqL K H a xs) : TyX K H (.ref a) (.type "list") := by
  rcases h with (h | ⟨o, h⟩) | ⟨o, _, _, h, c, _⟩
  · exact .base (.lst h)
  · exact .base (.frz h)
  · exact .kList h c
end
/-! ### tuple * int -/
set_option maxHeartbeats 4000000 in
theorem mul_one_meets (l : Addr) (items : Array Value) (n : Nat) (di : Option Addr) (ss : Array (Option Value)) (u : Tok) :
    Meets (Builtin.«tuple.__mul__» ⟨[.ref l, .int 1 u], []⟩) (fun _ R s => s.heap.get? l = some { cls := .type "tuple", dict := di, data := .seq items n, slots := ss } ∧ R (.ok (.ret (Value.ref l))) s) :=
  .of_wp fun prog w A R s ⟨hl, h⟩ => by
    obtain ⟨hp, g, d, tk, os⟩ := s
    have idx := AutoSeq1.idx_int
    have c1 : (items.isEmpty || (1 : Int) == 1) = true := by simp
    have c0 : (decide ((1 : Int) < -(2 ^ 63)) || decide ((1 : Int) ≥ 2 ^ 63)) = false := by decide
    wp_walk using wpAny_loadPart' hl
    repeat (first
      | (refine wpAny_ite_false (decide_eq_false (fun z => by rw [c0] at z; cases z)) ?_; wp_walk using wpAny_loadPart' hl)
      | (refine wpAny_ite_true (decide_eq_true (by simp)) ?_; wp_walk using wpAny_loadPart' hl))
    exact ⟨_, rfl, h⟩
set_option maxHeartbeats 4000000 in
theorem mul_zero_meets (l : Addr) (items : Array Value) (n : Nat) (di : Option Addr) (ss : Array (Option Value)) (u : Tok) (em : items.isEmpty = false) :
    Meets (Builtin.«tuple.__mul__» ⟨[.ref l, .int 0 u], []⟩) (fun _ R s => s.heap.get? l = some { cls := .type "tuple", dict := di, data := .seq items n, slots := ss } ∧
      R (.ok (.ret (Value.ref s.heap.objs.size))) { s with heap := s.heap.push { cls := Value.type "tuple", data := Data.seq #[] }, toks := s.toks }) :=
  .of_wp fun prog w A R s ⟨hl, h⟩ => by
    obtain ⟨hp, g, d, tk, os⟩ := s
    have idx := AutoSeq1.idx_int
    have c1 : (items.isEmpty || (0 : Int) == 1) = false := by rw [em]; rfl
    have c2 : (decide ((0 : Int) ≤ 0) || items.isEmpty) = true := by simp
    have c0 : (decide ((0 : Int) < -(2 ^ 63)) || decide ((0 : Int) ≥ 2 ^ 63)) = false := by decide
    wp_walk using wpAny_loadPart' hl
    repeat (first
      | (refine wpAny_ite_false (decide_eq_false (fun z => by rw [c0] at z; cases z)) ?_; wp_walk using wpAny_loadPart' hl)
      | (refine wpAny_ite_false (decide_eq_false (fun z => by rw [c1] at z; cases z)) ?_; wp_walk using wpAny_loadPart' hl)
      | (refine wpAny_ite_true (decide_eq_true c2) ?_; wp_walk using wpAny_loadPart' hl))
    exact ⟨_, rfl, h⟩
def rRepB (K : PySem.W.Frag) : R2 := fun x y H Q => ∃ (l : Addr) (k : Int) (xs : List V), x = .ref l ∧ y = .int k ∧ SqT K H l xs ∧ xs ≠ [] ∧ 0 ≤ k ∧ k ≤ 3000 ∧ xs.length ≤ 1000 ∧ (k = 1 → Q (.ref l) H) ∧ (k ≠ 1 → ∀ p, H p = none → Q (.ref p) (upd H p (.tup (List.replicate k.toNat xs).flatten)))
theorem op_repB {X : Cx} : OpR X (binaryOp .Mult) (rRepB X.K) := by
  intro pins s σ H x y v u Q I rx ry ⟨l, k, xs, ex, ey, hT, hne, k0, k3, hz, q1, q⟩
  subst ex ey
  cases rx
  obtain ⟨tt, eu⟩ := ry
  subst eu
  obtain ⟨its, r, ⟨⟨cl, di, da, ss⟩, hob, hcl, n, hda⟩, _⟩ := I.tuple hT
  simp only at hcl hda
  subst hcl hda
  have el : its.length = xs.length := r.length.symm
  have es : its.toArray.size = xs.length := by rw [List.size_toArray, el]
  have pos : 0 < xs.length := List.length_pos_iff.mpr hne
  have em : its.toArray.isEmpty = false := by
    rw [Array.isEmpty_eq_false_iff_exists_mem]
    obtain ⟨a0, ha0⟩ := List.exists_mem_of_length_pos (l := its) (by omega)
    exact ⟨a0, by simpa using ha0⟩
  have big : k.toNat * xs.length ≤ 3000 * 1000 := Nat.mul_le_mul (by omega) hz
  have prod : ((its.toArray.size : Nat) : Int) * k = ((k.toNat * xs.length : Nat) : Int) := by
    rw [es, Int.natCast_mul, Int.toNat_of_nonneg (by omega), Int.mul_comm]
  have fl : (List.replicate k.toNat its).flatten.length = k.toNat * xs.length := by rw [PyProof.Rows.lm_len_rep_flat, el]
  have sl := sizeLine_eq
  have d0 : (decide (k < -(2 ^ 63)) || decide (k ≥ 2 ^ 63)) = false := by simp; omega
  refine wpAny_binaryOp_repeat_ref (T := "tuple") (U := "int") (by decide) ⟨_, hob, rfl⟩ (fun z => typeIs_int z k tt) noFill_tuple_mul F.fills_int_mul F.slot_int_rmul repeat_tuple F.slot_int_index.lookup (call_meets F.slot_int_rmul (typeIs_int s k tt) F.entry_int_rmul (F.args_int_rmul_2 _ _)
    (int_rmul_tuple k tt l its.toArray n di ss) ⟨hob, rfl, ⟨_, hob, rfl⟩, ?_⟩)
  have made : ∀ (xs2 : List V) (us : List Value), Vals xs2 us → xs2.length ≤ 3000000 → (∀ p, H p = none → Q (.ref p) (upd H p (.tup xs2))) → EP X pins σ Q (.ref s.heap.objs.size) { s with heap := s.heap.push { cls := Value.type "tuple", data := Data.seq us.toArray }, toks := s.toks } := fun xs2 us rv hlen q2 =>
    ⟨.ref s.heap.objs.size, _, I.laid (t' := s.toks) (o := .tup xs2) (fun _ _ z => Heap.get?_push_of_some _ z) (Nat.le_refl _) ⟨by omega, _, rv, IsTup.new _ _⟩, rfl, q2 _ (I.hok.fresh (Nat.le_refl _))⟩
  by_cases h1 : k = 1
  · subst h1
    exact call_meets F.slot_tuple_mul ⟨_, hob, rfl⟩ F.entry_tuple_mul (F.args_tuple_mul_2 _ _) (mul_one_meets l its.toArray n di ss tt) ⟨hob, .ref l, H, I, rfl, q1 rfl⟩
  · by_cases h2 : k = 0
    · subst h2
      exact call_meets F.slot_tuple_mul ⟨_, hob, rfl⟩ F.entry_tuple_mul (F.args_tuple_mul_2 _ _) (mul_zero_meets l its.toArray n di ss tt em) ⟨hob, made [] [] .nil (by simp) (q h1)⟩
    · have d1 : (its.toArray.isEmpty || k == 1) = false := by rw [em]; simp; omega
      have d2 : (decide (k ≤ 0) || its.toArray.isEmpty) = false := by rw [em]; simp; omega
      have d4 : Builtin.Tuple.tupleTooMany (((its.toArray.size : Nat) : Int) * k) = false := by
        rw [prod]
        unfold Builtin.Tuple.tupleTooMany
        exact decide_eq_false (by omega)
      have tm : Meets _ _ := tuple_mulW l its.toArray n di ss k tt d0 d1 d2 (by rw [prod]; omega) d4 (by rw [size_rep, List.size_toArray, fl]; omega)
      refine call_meets F.slot_tuple_mul ⟨_, hob, rfl⟩ F.entry_tuple_mul (F.args_tuple_mul_2 _ _) tm ⟨hob, ?_⟩
      rw [size_rep]
      exact made _ _ (r.rep k.toNat) (by rw [PyProof.Rows.lm_len_rep_flat]; omega) (q h1)
theorem w_repB {K : PySem.W.Frag} {H : Hp} {Q : VK} {l : Addr} {k : Int} {xs : List V} (h : SqT K H l xs) (hne : xs ≠ []) (h2 : 0 ≤ k) (h3 : k ≤ 3000) (hz : xs.length ≤ 1000) (q : ∀ p H', Ex H H' → SqT K H' p (List.replicate k.toNat xs).flatten → Q (.ref p) H') : rRepB K (.ref l) (.int k) H Q := by
  refine ⟨l, k, xs, rfl, rfl, h, hne, h2, h3, hz, fun e => q l H (Ex.refl H) ?_, fun _ p hp => q p _ (Ex.new hp) (SqT.of upd_same)⟩
  subst e
  simpa using h
/-! ### the rules with the written part given -/
section
variable {X : Cx} {K : PySem.W.Frag}
theorem ix_listK (e : X.K = K) : IxR X (rIxL K) := by
  rw [← e]
  exact ix_list
theorem ix_tupK (e : X.K = K) : IxR X (rIxT K) := by
  rw [← e]
  exact ix_tup
theorem call_len_seqK (e : X.K = K) : CallR X (.builtin "len") (fun xs H Q => ∃ p ys, xs = [.ref p] ∧ (SqL K H p ys ∨ SqT K H p ys) ∧ Q (.int ys.length) H) := by
  rw [← e]
  exact call_len_seq
theorem op_catAK (e : X.K = K) : OpR X (binaryOp .Add) (rCatA K) := by
  rw [← e]
  exact op_catA
theorem op_repBK (e : X.K = K) : OpR X (binaryOp .Mult) (rRepB K) := by
  rw [← e]
  exact op_repB
theorem sl_tupAK (e : X.K = K) : SlR X (rSlA K) := by
  rw [← e]
  exact sl_tupA
end
/-! ### kinds that stay: lists stay lists, tuples stay what they are -/
def Kp (H H' : Hp) : Prop := (∀ a xs, H a = some (.lst xs) → ∃ ys, H' a = some (.lst ys)) ∧ ∀ a xs, H a = some (.tup xs) → H' a = some (.tup xs)
section
variable {K : PySem.W.Frag} {H H' H1 : Hp} {a s l : Addr} {xs ys : List V}
theorem Kp.refl (H : Hp) : Kp H H := ⟨fun _ xs h => ⟨xs, h⟩, fun _ _ h => h⟩
theorem Kp.trans (e : Kp H H1) (f : Kp H1 H') : Kp H H' := ⟨fun a xs h => by
  obtain ⟨ys, h1⟩ := e.1 a xs h
  exact f.1 a ys h1, fun a xs h => f.2 a xs (e.2 a xs h)⟩
theorem Kp.ex (e : Ex H H') : Kp H H' := ⟨fun a xs h => ⟨xs, e a _ h⟩, fun a xs h => e a _ h⟩
theorem Kp.fr (e : Fr s H H') (h : H s = some (.lst xs)) (h2 : H' s = some (.lst ys)) : Kp H H' := ⟨fun a zs q => by
  by_cases z : a = s
  · rw [z]
    exact ⟨_, h2⟩
  · exact ⟨_, e a _ z q⟩, fun a zs q => e a _ (fun z => by rw [z, h] at q; cases q) q⟩
theorem Kp.put (h : H l = some (.lst xs)) : Kp H (upd H l (.lst ys)) := ⟨fun a zs q => by
  by_cases z : a = l
  · rw [z]
    exact ⟨_, upd_same⟩
  · exact ⟨zs, by rw [upd_ne z]; exact q⟩, fun a zs q => by
  rw [upd_ne (fun z => by rw [z, h] at q; cases q)]
  exact q⟩
/-- the values of the law that asks is_term -/
inductive Kd (H : Hp) : V → Prop
  | int (i : Int) : Kd H (.int i)
  | str (x : Str) : Kd H (.str x)
  | bl (b : Bool) : Kd H (.bl b)
  | non : Kd H .non
  | lst {a : Addr} {xs : List V} (h : H a = some (.lst xs)) : Kd H (.ref a)
  | tup {a : Addr} {xs : List V} (h : H a = some (.tup xs)) : Kd H (.ref a)
theorem Kd.mono {v : V} (h : Kd H v) (e : Kp H H') : Kd H' v := by
  cases h with
  | int i => exact .int i
  | str x => exact .str x
  | bl b => exact .bl b
  | non => exact .non
  | lst h =>
    obtain ⟨ys, h⟩ := e.1 _ _ h
    exact .lst h
  | tup h => exact .tup (e.2 _ _ h)
end
theorem Kd.ty {H : Hp} {v : V} (h : Kd H v) (K : PySem.W.Frag) : ∃ n, TyX K H v (.type n) ∧ n = (match v with | .int _ => "int" | .str _ => "str" | .bl _ => "bool" | .non => "NoneType" | _ => n) := by
  cases h with
  | int i => exact ⟨_, .base (.int i), rfl⟩
  | str i => exact ⟨_, .base (.str i), rfl⟩
  | bl i => exact ⟨_, .base (.bl i), rfl⟩
  | non => exact ⟨_, .base .non, rfl⟩
  | lst h => exact ⟨_, .base (.lst h), rfl⟩
  | tup h => exact ⟨_, .base (.tup h), rfl⟩
theorem qeq {Q : VK} {H : Hp} {b c : Bool} (q : Q (.bl b) H) (e : b = c) : Q (.bl c) H := by
  rw [← e]
  exact q
theorem all_nil {H : Hp} : ∀ x ∈ ([] : List V), Kd H x := fun x h => absurd h (by simp)
theorem all_cons {H : Hp} {v : V} {xs : List V} (h : Kd H v) (t : ∀ x ∈ xs, Kd H x) : ∀ x ∈ v :: xs, Kd H x := fun x hx => by
  rcases List.mem_cons.mp hx with e | e
  · rw [e]
    exact h
  · exact t x e
theorem all_app {H : Hp} {xs ys : List V} (h : ∀ x ∈ xs, Kd H x) (t : ∀ x ∈ ys, Kd H x) : ∀ x ∈ xs ++ ys, Kd H x := fun x hx => by
  rcases List.mem_append.mp hx with e | e
  · exact h x e
  · exact t x e
theorem all_kp {H H' : Hp} {xs : List V} (h : ∀ x ∈ xs, Kd H x) (e : Kp H H') : ∀ x ∈ xs, Kd H' x := fun x hx => (h x hx).mono e
theorem at_in {xs : List V} {i : Int} (h0 : 0 ≤ i) (h1 : i < xs.length) : ∃ v, atI xs i = some v ∧ v ∈ xs := by
  have h2 : i.toNat < xs.length := by omega
  refine ⟨xs[i.toNat], at_of (j := i.toNat) (by omega) (List.getElem?_eq_getElem h2), List.getElem_mem h2⟩
/-! ### isinstance of built-in values -/
section
variable {K : PySem.W.Frag}
theorem kit_int_int : PySem.W.kitOne K (.type "int") (.type "int") = some true := kit_ty (by decide +kernel)
theorem kit_int_str : PySem.W.kitOne K (.type "int") (.type "str") = some false := kit_ty (by decide +kernel)
theorem kit_int_bool : PySem.W.kitOne K (.type "int") (.type "bool") = some false := kit_ty (by decide +kernel)
theorem kit_int_tuple : PySem.W.kitOne K (.type "int") (.type "tuple") = some false := kit_ty (by decide +kernel)
theorem kit_int_list : PySem.W.kitOne K (.type "int") (.type "list") = some false := kit_ty (by decide +kernel)
theorem kit_str_int : PySem.W.kitOne K (.type "str") (.type "int") = some false := kit_ty (by decide +kernel)
theorem kit_str_str : PySem.W.kitOne K (.type "str") (.type "str") = some true := kit_ty (by decide +kernel)
theorem kit_str_bool : PySem.W.kitOne K (.type "str") (.type "bool") = some false := kit_ty (by decide +kernel)
theorem kit_str_tuple : PySem.W.kitOne K (.type "str") (.type "tuple") = some false := kit_ty (by decide +kernel)
theorem kit_str_list : PySem.W.kitOne K (.type "str") (.type "list") = some false := kit_ty (by decide +kernel)
theorem kit_bool_int : PySem.W.kitOne K (.type "bool") (.type "int") = some true := kit_ty (by decide +kernel)
theorem kit_bool_str : PySem.W.kitOne K (.type "bool") (.type "str") = some false := kit_ty (by decide +kernel)
theorem kit_bool_bool : PySem.W.kitOne K (.type "bool") (.type "bool") = some true := kit_ty (by decide +kernel)
theorem kit_bool_tuple : PySem.W.kitOne K (.type "bool") (.type "tuple") = some false := kit_ty (by decide +kernel)
theorem kit_bool_list : PySem.W.kitOne K (.type "bool") (.type "list") = some false := kit_ty (by decide +kernel)
theorem kit_NoneType_int : PySem.W.kitOne K (.type "NoneType") (.type "int") = some false := kit_ty (by decide +kernel)
theorem kit_NoneType_str : PySem.W.kitOne K (.type "NoneType") (.type "str") = some false := kit_ty (by decide +kernel)
theorem kit_NoneType_bool : PySem.W.kitOne K (.type "NoneType") (.type "bool") = some false := kit_ty (by decide +kernel)
theorem kit_NoneType_tuple : PySem.W.kitOne K (.type "NoneType") (.type "tuple") = some false := kit_ty (by decide +kernel)
theorem kit_NoneType_list : PySem.W.kitOne K (.type "NoneType") (.type "list") = some false := kit_ty (by decide +kernel)
theorem kit_list_int : PySem.W.kitOne K (.type "list") (.type "int") = some false := kit_ty (by decide +kernel)
theorem kit_list_str : PySem.W.kitOne K (.type "list") (.type "str") = some false := kit_ty (by decide +kernel)
theorem kit_list_bool : PySem.W.kitOne K (.type "list") (.type "bool") = some false := kit_ty (by decide +kernel)
theorem kit_list_tuple : PySem.W.kitOne K (.type "list") (.type "tuple") = some false := kit_ty (by decide +kernel)
theorem kit_list_list : PySem.W.kitOne K (.type "list") (.type "list") = some true := kit_ty (by decide +kernel)
theorem kit_tuple_int : PySem.W.kitOne K (.type "tuple") (.type "int") = some false := kit_ty (by decide +kernel)
theorem kit_tuple_str : PySem.W.kitOne K (.type "tuple") (.type "str") = some false := kit_ty (by decide +kernel)
theorem kit_tuple_bool : PySem.W.kitOne K (.type "tuple") (.type "bool") = some false := kit_ty (by decide +kernel)
theorem kit_tuple_tuple : PySem.W.kitOne K (.type "tuple") (.type "tuple") = some true := kit_ty (by decide +kernel)
theorem kit_tuple_list : PySem.W.kitOne K (.type "tuple") (.type "list") = some false := kit_ty (by decide +kernel)
end
/-- a def that may be called by its name -/
def Def (P : Program) (w : World) (K : PySem.W.Frag) (mg : Str → Option Value) (base : Heap) (CX : CXT) (k : Nat) (x : Str) (ps : List Str) (sp : Sp) : Prop :=
  ∃ (f : Addr) (fd : FuncData), mg x = some (.ref f) ∧ PySem.W.keepIn K (.ref f) = true ∧ Binds K fd ps [] ∧ FnOk P w K mg base CX k f fd ps sp
theorem Def.of {P : Program} {w : World} {K : PySem.W.Frag} {mg : Str → Option Value} {base : Heap} {CX : CXT} {k : Nat} {x : Str} {ps : List Str} {sp : Sp} {f : Addr} {fd : FuncData} (g : mg x = some (.ref f)) (kp : PySem.W.keepIn K (.ref f) = true) (b : Binds K fd ps []) (G : FnOk P w K mg base CX k f fd ps sp) : Def P w K mg base CX k x ps sp := ⟨f, fd, g, kp, b, G⟩
theorem drop_at {α : Type} {xs : List α} {i : Nat} {x : α} (h : xs[i]? = some x) : xs.drop i = x :: xs.drop (i + 1) := by
  obtain ⟨h1, rfl⟩ := List.getElem?_eq_some_iff.mp h
  exact List.drop_eq_getElem_cons h1
/-! ### nodes and terms, as values -/
def isVarV : V → Bool
  | .int i => decide (0 ≤ i) && decide (i ≤ 1000000)
  | _ => false
def isNodeV : V → Bool
  | .str x => decide (x = "lam") || decide (x = "app")
  | v => isVarV v
def pcV (v : V) : Int := if v = .str "app" then 2 else if v = .str "lam" then 1 else 0
def scanV : Int → List V → Bool
  | m, [] => decide (m = 0)
  | m, v :: r => if m = 0 ∨ isNodeV v = false then false else scanV (m + (pcV v - 1)) r
def isTermV (xs : List V) : Bool := decide (xs.length ≤ 1000) && scanV 1 xs
/-! ### terms -/
inductive Tm where
  | var (n : Nat)
  | lam (b : Tm)
  | app (f a : Tm)
def Tm.enc : Tm → List V
  | .var n => [.int n]
  | .lam b => .str "lam" :: b.enc
  | .app f a => .str "app" :: (f.enc ++ a.enc)
/-- its free variables are below d -/
def Tm.wf : Nat → Tm → Prop
  | d, .var n => n < d
  | d, .lam b => b.wf (d + 1)
  | d, .app f a => f.wf d ∧ a.wf d
def encs (ts : List Tm) : List V := (ts.map Tm.enc).flatten
/-- whatever terms stand for what waits (the last one first), the whole is a term -/
def Comp (loose : Nat) (nodes : List V) (wait : List Nat) : Prop := ∀ ts : List Tm, ts.length = wait.length → (∀ p ∈ ts.zip wait.reverse, p.1.wf (p.2 + loose)) → ∃ t : Tm, t.wf loose ∧ t.enc = nodes ++ encs ts
theorem Comp.start (loose : Nat) : Comp loose [] [0] := fun ts hl hw => by
  match ts, hl with
  | [t], _ =>
    refine ⟨t, ?_, by simp [encs]⟩
    have := hw (t, 0) (by simp)
    simpa using this
theorem Comp.done {loose : Nat} {nodes : List V} (h : Comp loose nodes []) : ∃ t : Tm, t.wf loose ∧ t.enc = nodes := by
  obtain ⟨t, h1, h2⟩ := h [] rfl (by simp)
  exact ⟨t, h1, by rw [h2]; simp [encs]⟩
theorem Comp.var {loose : Nat} {nodes : List V} {wait : List Nat} {d n : Nat} (h : Comp loose nodes (wait ++ [d])) (hn : n < d + loose) : Comp loose (nodes ++ [.int n]) wait := fun ts hl hw => by
  obtain ⟨t, h1, h2⟩ := h (.var n :: ts) (by simp [hl]) (fun p hp => by
    rw [List.reverse_append] at hp
    rcases List.mem_cons.mp hp with e | e
    · subst e
      exact hn
    · exact hw p e)
  exact ⟨t, h1, by rw [h2]; simp [encs, Tm.enc]⟩
theorem Comp.lam {loose : Nat} {nodes : List V} {wait : List Nat} {d : Nat} (h : Comp loose nodes (wait ++ [d])) : Comp loose (nodes ++ [.str "lam"]) (wait ++ [d + 1]) := fun ts hl hw => by
  match ts, hl with
  | [], hl => simp at hl
  | b :: r, hl =>
    rw [List.reverse_append] at hw
    obtain ⟨t, h1, h2⟩ := h (.lam b :: r) (by simpa using hl) (fun p hp => by
      rw [List.reverse_append] at hp
      rcases List.mem_cons.mp hp with e | e
      · subst e
        have := hw (b, d + 1) (by simp)
        show b.wf (d + loose + 1)
        have e2 : d + loose + 1 = d + 1 + loose := by omega
        rw [e2]
        exact this
      · exact hw p (List.mem_cons_of_mem _ e))
    exact ⟨t, h1, by rw [h2]; simp [encs, Tm.enc]⟩
theorem Comp.app {loose : Nat} {nodes : List V} {wait : List Nat} {d : Nat} (h : Comp loose nodes (wait ++ [d])) : Comp loose (nodes ++ [.str "app"]) (wait ++ [d] ++ [d]) := fun ts hl hw => by
  match ts, hl with
  | [], hl => simp at hl
  | [_], hl => simp at hl
  | f :: a :: r, hl =>
    rw [List.reverse_append, List.reverse_append] at hw
    obtain ⟨t, h1, h2⟩ := h (.app f a :: r) (by simpa using hl) (fun p hp => by
      rw [List.reverse_append] at hp
      rcases List.mem_cons.mp hp with e | e
      · subst e
        exact ⟨hw (f, d) (by simp), hw (a, d) (by simp)⟩
      · exact hw p (List.mem_cons_of_mem _ (List.mem_cons_of_mem _ e)))
    exact ⟨t, h1, by rw [h2]; simp [encs, Tm.enc]⟩
def Flat (xs : List V) : Prop := ∀ x ∈ xs, (∃ i, x = .int i) ∨ ∃ s, x = .str s
theorem Flat.kd {xs : List V} (h : Flat xs) (H : Hp) : ∀ x ∈ xs, Kd H x := fun x hx => by
  rcases h x hx with ⟨i, rfl⟩ | ⟨s, rfl⟩
  · exact .int i
  · exact .str s
theorem Flat.app {xs ys : List V} (h : Flat xs) (t : Flat ys) : Flat (xs ++ ys) := fun x hx => by
  rcases List.mem_append.mp hx with e | e
  · exact h x e
  · exact t x e
theorem Flat.rep {xs : List V} (h : Flat xs) (n : Nat) : Flat (List.replicate n xs).flatten := fun x hx => by
  obtain ⟨l, h1, h2⟩ := List.mem_flatten.mp hx
  rw [(List.mem_replicate.mp h1).2] at h2
  exact h x h2
theorem Flat.one (x : V) (h : (∃ i, x = .int i) ∨ ∃ s, x = .str s) : Flat [x] := fun y hy => by
  rw [List.mem_singleton.mp hy]
  exact h
theorem Flat.two (x z : V) (h : (∃ i, x = .int i) ∨ ∃ s, x = .str s) (h2 : (∃ i, z = .int i) ∨ ∃ s, z = .str s) : Flat [x, z] := fun y hy => by
  rcases List.mem_cons.mp hy with e | e
  · rw [e]
    exact h
  · rw [List.mem_singleton.mp e]
    exact h2
theorem Flat.cons {x : V} {xs : List V} (h : (∃ i, x = .int i) ∨ ∃ s, x = .str s) (t : Flat xs) : Flat (x :: xs) := fun y hy => by
  rcases List.mem_cons.mp hy with e | e
  · rw [e]
    exact h
  · exact t y e
theorem Flat.nil : Flat [] := fun x h => absurd h (by simp)
theorem Tm.flat : ∀ t : Tm, Flat t.enc
  | .var n => Flat.one _ (.inl ⟨_, rfl⟩)
  | .lam b => Flat.cons (.inr ⟨_, rfl⟩) b.flat
  | .app f a => Flat.cons (.inr ⟨_, rfl⟩) (f.flat.app a.flat)
/-- no variable too great -/
def okV : V → Bool
  | .int i => decide (i ≤ 1000000)
  | _ => true
def fitsV (xs : List V) : Bool := decide (xs.length ≤ 1000) && xs.all okV
/-! ### nodes compared -/
def Nds (xs : List V) : Prop := ∀ x ∈ xs, (∃ i, x = .int i) ∨ x = .str "lam" ∨ x = .str "app"
theorem Nds.flat {xs : List V} (h : Nds xs) : Flat xs := fun x hx => by
  rcases h x hx with e | e | e
  · exact .inl e
  · exact .inr ⟨_, e⟩
  · exact .inr ⟨_, e⟩
theorem Nds.nil : Nds [] := fun x h => absurd h (by simp)
theorem Nds.app {xs ys : List V} (h : Nds xs) (t : Nds ys) : Nds (xs ++ ys) := fun x hx => by
  rcases List.mem_append.mp hx with e | e
  · exact h x e
  · exact t x e
theorem Nds.cons {x : V} {xs : List V} (h : (∃ i, x = .int i) ∨ x = .str "lam" ∨ x = .str "app") (t : Nds xs) : Nds (x :: xs) := fun y hy => by
  rcases List.mem_cons.mp hy with e | e
  · rw [e]
    exact h
  · exact t y e
theorem Nds.rep {xs : List V} (h : Nds xs) (n : Nat) : Nds (List.replicate n xs).flatten := fun x hx => by
  obtain ⟨l, h1, h2⟩ := List.mem_flatten.mp hx
  rw [(List.mem_replicate.mp h1).2] at h2
  exact h x h2
theorem Nds.tail {x : V} {xs : List V} (h : Nds (x :: xs)) : Nds xs := fun y hy => h y (List.mem_cons_of_mem _ hy)
theorem Nds.take {xs : List V} (h : Nds xs) (n : Nat) : Nds (xs.take n) := fun x hx => h x (List.mem_of_mem_take hx)
theorem Nds.drop {xs : List V} (h : Nds xs) (n : Nat) : Nds (xs.drop n) := fun x hx => h x (List.mem_of_mem_drop hx)
theorem Nds.I (i : Int) : (∃ j, V.int i = .int j) ∨ V.int i = .str "lam" ∨ V.int i = .str "app" := .inl ⟨i, rfl⟩
theorem Nds.L : (∃ j, V.str "lam" = .int j) ∨ V.str "lam" = .str "lam" ∨ V.str "lam" = .str "app" := .inr (.inl rfl)
theorem Nds.A : (∃ j, V.str "app" = .int j) ∨ V.str "app" = .str "lam" ∨ V.str "app" = .str "app" := .inr (.inr rfl)
theorem Tm.nds : ∀ t : Tm, Nds t.enc
  | .var n => Nds.cons (Nds.I _) Nds.nil
  | .lam b => Nds.cons Nds.L b.nds
  | .app f a => Nds.cons Nds.A (f.nds.app a.nds)
def dv : V → PyData
  | .int i => .int i
  | .str x => .str x
  | _ => .none
theorem eqv_nodes : ∀ {xs ys : List V}, Nds xs → Nds ys → PyData.eqvAll (xs.map dv) (ys.map dv) = decide (xs = ys)
  | [], [], _, _ => by simp [PyData.eqvAll]
  | [], _ :: _, _, _ => by simp [PyData.eqvAll]
  | _ :: _, [], _, _ => by simp [PyData.eqvAll]
  | x :: xs, y :: ys, h, k => by
    have ih := eqv_nodes h.tail k.tail
    have hxy : PyData.eqv (dv x) (dv y) = decide (x = y) := by
      rcases h x List.mem_cons_self with ⟨i, rfl⟩ | rfl | rfl <;> rcases k y List.mem_cons_self with ⟨j, rfl⟩ | rfl | rfl <;> simp [dv, PyData.eqv] <;> first | (rw [Bool.eq_iff_iff]; simp) | decide +kernel
    rw [List.map_cons, List.map_cons, PyData.eqvAll, ih, hxy]
    simp
theorem lay_nodes : ∀ {xs : List V}, Nds xs → PyData.canLayAll0 (xs.map dv) = true
  | [], _ => rfl
  | x :: xs, h => by
    have ih := lay_nodes h.tail
    have hx : (dv x).canLay0 = true := by
      rcases h x List.mem_cons_self with ⟨i, rfl⟩ | rfl | rfl
      · rfl
      · decide +kernel
      · decide +kernel
    rw [List.map_cons, PyData.canLayAll0, hx, ih]
    rfl
theorem dp_nodes {K : PySem.W.Frag} {H : Hp} : ∀ {xs : List V}, Nds xs → DpAll K H xs (xs.map dv)
  | [], _ => .nil
  | x :: xs, h => by
    refine .cons ?_ (dp_nodes h.tail)
    rcases h x List.mem_cons_self with ⟨i, rfl⟩ | rfl | rfl
    · exact .int i
    · exact .str _
    · exact .str _
theorem depth_atom (x : V) : (dv x).depth ≤ 1 := by
  cases x <;> simp [dv, PyData.depth]
theorem depth_all : ∀ xs : List V, PyData.depthAll (xs.map dv) ≤ 1
  | [] => by simp [PyData.depthAll]
  | x :: xs => by
    have h1 := depth_atom x
    have h2 := depth_all xs
    simp only [List.map_cons, PyData.depthAll]
    omega
theorem depth_nodes {xs : List V} : (PyData.tuple (xs.map dv)).depth ≤ 2 := by
  have h := depth_all xs
  simp only [PyData.depth]
  omega
theorem shaped_nodes {xs : List V} (h : Nds xs) : SeqAt.shaped (.tuple (xs.map dv)) = true := by
  have h1 : (PyData.tuple (xs.map dv)).canLay0 = true := lay_nodes h
  have h2 := depth_nodes (xs := xs)
  unfold SeqAt.shaped
  rw [h1, Bool.true_and]
  exact decide_eq_true (by omega)
section
variable {K : PySem.W.Frag} {H : Hp} {Q : VK} {a b : Addr} {xs ys : List V}
theorem w_eqN (h : SqT K H a xs) (k : SqT K H b ys) (n : Nds xs) (m : Nds ys) (q : Q (.bl (decide (xs = ys))) H) : rEqD K (.ref a) (.ref b) H Q :=
  ⟨_, _, .tup h (dp_nodes n), .tup k (dp_nodes m), shaped_nodes n, shaped_nodes m, by rw [PyData.eqv, eqv_nodes n m]; exact q⟩
theorem w_neN (h : SqT K H a xs) (k : SqT K H b ys) (n : Nds xs) (m : Nds ys) (q : Q (.bl (!decide (xs = ys))) H) : rNeD K (.ref a) (.ref b) H Q :=
  ⟨_, _, .tup h (dp_nodes n), .tup k (dp_nodes m), shaped_nodes n, shaped_nodes m, by rw [PyData.eqv, eqv_nodes n m]; exact q⟩
theorem w_neNon (k : SqT K H b ys) (m : Nds ys) (q : Q (.bl true) H) : rNeD K .non (.ref b) H Q :=
  ⟨_, _, .non, .tup k (dp_nodes m), by decide, shaped_nodes m, q⟩
theorem w_eqNon (k : SqT K H b ys) (m : Nds ys) (q : Q (.bl false) H) : rEqD K .non (.ref b) H Q :=
  ⟨_, _, .non, .tup k (dp_nodes m), by decide, shaped_nodes m, q⟩
end
theorem ly_sz {n : Nat} (h : n ≤ 16000000) : n ≤ sizeLine := by
  rw [sizeLine_eq]
  omega
def Tm.lamN : Nat → Tm → Tm
  | 0, t => t
  | n + 1, t => .lam (Tm.lamN n t)
def Tm.rowN (c : Nat) : Nat → Tm → Tm
  | 0, t => t
  | n + 1, t => .app (.var c) (Tm.rowN c n t)
theorem Tm.enc_lamN (n : Nat) (t : Tm) : (Tm.lamN n t).enc = (List.replicate n [V.str "lam"]).flatten ++ t.enc := by
  induction n with
  | zero => rfl
  | succ n ih =>
    show V.str "lam" :: (Tm.lamN n t).enc = _
    rw [ih, List.replicate_succ]
    rfl
theorem Tm.enc_rowN (c n : Nat) (t : Tm) : (Tm.rowN c n t).enc = (List.replicate n [V.str "app", V.int c]).flatten ++ t.enc := by
  induction n with
  | zero => rfl
  | succ n ih =>
    show V.str "app" :: ([V.int c] ++ (Tm.rowN c n t).enc) = _
    rw [ih, List.replicate_succ]
    rfl
/-- the greatest variable is at most M -/
def Tm.vars (M : Nat) : Tm → Prop
  | .var n => n ≤ M
  | .lam b => b.vars M
  | .app f a => f.vars M ∧ a.vars M
theorem Tm.vars_lamN {M n : Nat} {t : Tm} (h : t.vars M) : (Tm.lamN n t).vars M := by
  induction n with
  | zero => exact h
  | succ n ih => exact ih
theorem Tm.vars_rowN {M c n : Nat} {t : Tm} (hc : c ≤ M) (h : t.vars M) : (Tm.rowN c n t).vars M := by
  induction n with
  | zero => exact h
  | succ n ih => exact ⟨hc, ih⟩
theorem Tm.vars_mono {M N : Nat} (hm : M ≤ N) : ∀ {t : Tm}, t.vars M → t.vars N
  | .var n, h => Nat.le_trans h hm
  | .lam b, h => Tm.vars_mono hm (t := b) h
  | .app f a, h => ⟨Tm.vars_mono hm (t := f) h.1, Tm.vars_mono hm (t := a) h.2⟩
theorem Tm.vars_wf : ∀ {t : Tm} {d : Nat}, t.wf d → t.vars (d + t.enc.length)
  | .var n, d, h => by
    show n ≤ d + 1
    have : n < d := h
    omega
  | .lam b, d, h => by
    have := Tm.vars_wf (t := b) (d := d + 1) h
    exact Tm.vars_mono (by simp [Tm.enc]; omega) this
  | .app f a, d, h => by
    have h1 := Tm.vars_wf (t := f) h.1
    have h2 := Tm.vars_wf (t := a) h.2
    exact ⟨Tm.vars_mono (by simp [Tm.enc]; omega) h1, Tm.vars_mono (by simp [Tm.enc]; omega) h2⟩
theorem pcV_lam : pcV (.str "lam") = 1 := by decide +kernel
theorem pcV_app : pcV (.str "app") = 2 := by decide +kernel
theorem pcV_int (i : Int) : pcV (.int i) = 0 := rfl
theorem node_lam : isNodeV (.str "lam") = true := by decide +kernel
theorem node_app : isNodeV (.str "app") = true := by decide +kernel
theorem node_int {i : Int} (h : 0 ≤ i) (h2 : i ≤ 1000000) : isNodeV (.int i) = true := by simp [isNodeV, isVarV, h, h2]
theorem scan_enc : ∀ (t : Tm), t.vars 1000000 → ∀ (k : Int) (r : List V), 0 ≤ k → scanV (k + 1) (t.enc ++ r) = scanV k r
  | .var n, h, k, r, hk => by
    have h : n ≤ 1000000 := h
    show scanV (k + 1) (V.int n :: r) = _
    have e : k + 1 + (0 - 1) = k := by omega
    rw [scanV, if_neg (by rw [node_int (by omega) (by omega)]; simp; omega), pcV_int, e]
  | .lam b, h, k, r, hk => by
    show scanV (k + 1) (V.str "lam" :: (b.enc ++ r)) = _
    have e : k + 1 + (1 - 1) = k + 1 := by omega
    rw [scanV, if_neg (by rw [node_lam]; simp; omega), pcV_lam, e]
    exact scan_enc b h k r hk
  | .app f a, h, k, r, hk => by
    show scanV (k + 1) (V.str "app" :: (f.enc ++ a.enc ++ r)) = _
    have e : k + 1 + (2 - 1) = k + 1 + 1 := by omega
    rw [scanV, if_neg (by rw [node_app]; simp; omega), pcV_app, e, List.append_assoc, scan_enc f h.1 (k + 1) _ (by omega)]
    exact scan_enc a h.2 k r hk
theorem scan_tm {t : Tm} (h : t.vars 1000000) : scanV 1 t.enc = true := by
  have := scan_enc t h 0 [] (by omega)
  rw [List.append_nil] at this
  rw [show (1 : Int) = 0 + 1 from rfl, this]
  rfl
theorem ok_vars : ∀ {t : Tm}, t.vars 1000000 → t.enc.all okV = true
  | .var n, h => by
    have h : n ≤ 1000000 := h
    simp [Tm.enc, okV]
    omega
  | .lam b, h => by
    have := ok_vars (t := b) h
    simp only [Tm.enc, List.all_cons, this]
    rfl
  | .app f a, h => by
    have h1 := ok_vars (t := f) h.1
    have h2 := ok_vars (t := a) h.2
    simp only [Tm.enc, List.all_cons, List.all_append, h1, h2]
    rfl
/-! ### the depths of a term's places -/
def Tm.deps : Nat → Tm → List Nat
  | d, .var _ => [d]
  | d, .lam b => d :: b.deps (d + 1)
  | d, .app f a => d :: (f.deps d ++ a.deps d)
theorem Tm.deps_len : ∀ (t : Tm) (d : Nat), (t.deps d).length = t.enc.length
  | .var _, _ => rfl
  | .lam b, d => by simp [Tm.deps, Tm.enc, Tm.deps_len b]
  | .app f a, d => by simp [Tm.deps, Tm.enc, Tm.deps_len f, Tm.deps_len a]
theorem Tm.enc_ne : ∀ t : Tm, t.enc ≠ []
  | .var _ => by simp [Tm.enc]
  | .lam _ => by simp [Tm.enc]
  | .app _ _ => by simp [Tm.enc]
def depss : List Tm → List Nat → List Nat
  | t :: ts, d :: ds => t.deps d ++ depss ts ds
  | _, _ => []
theorem encs_cons (t : Tm) (ts : List Tm) : encs (t :: ts) = t.enc ++ encs ts := by simp [encs]
theorem encs_nil {ts : List Tm} (h : encs ts = []) : ts = [] := by
  cases ts with
  | nil => rfl
  | cons t r =>
    rw [encs_cons] at h
    exact absurd (List.append_eq_nil_iff.mp h).1 t.enc_ne
/-- in the midst of a walk over a term's nodes: what is left are the terms ts, whose depths wait (the last one first) -/
def DInv (t : Tm) (i : Nat) (found ds : List Nat) : Prop := ∃ ts : List Tm, t.enc.drop i = encs ts ∧ ts.length = ds.length ∧ t.deps 0 = found ++ depss ts ds.reverse
theorem DInv.start (t : Tm) : DInv t 0 [] [0] := ⟨[t], by simp [encs], rfl, by simp [depss]⟩
theorem DInv.done {t : Tm} {found ds : List Nat} (h : DInv t t.enc.length found ds) : found = t.deps 0 := by
  obtain ⟨ts, h1, h2, h3⟩ := h
  rw [List.drop_length] at h1
  have e := encs_nil h1.symm
  subst e
  rw [h3]
  simp [depss]
theorem DInv.step {t : Tm} {i : Nat} {found ds : List Nat} {v : V} (h : DInv t i found ds) (hv : t.enc[i]? = some v) : ∃ r d, ds = r ++ [d] ∧
    ((∃ n : Nat, v = .int n ∧ DInv t (i + 1) (found ++ [d]) r) ∨ (v = .str "lam" ∧ DInv t (i + 1) (found ++ [d]) (r ++ [d + 1])) ∨ (v = .str "app" ∧ DInv t (i + 1) (found ++ [d]) (r ++ [d] ++ [d]))) := by
  obtain ⟨ts, h1, h2, h3⟩ := h
  rw [drop_at hv] at h1
  match ts, h1, h2, h3 with
  | [], h1, _, _ => cases h1
  | t1 :: r1, h1, h2, h3 =>
    have hne : ds ≠ [] := fun e => by
      rw [e] at h2
      cases h2
    refine ⟨ds.dropLast, ds.getLast hne, (List.dropLast_concat_getLast hne).symm, ?_⟩
    generalize hr : ds.dropLast = r at *
    generalize hd : ds.getLast hne = d at *
    have hds : ds = r ++ [d] := by rw [← hr, ← hd]; exact (List.dropLast_concat_getLast hne).symm
    subst hds
    rw [List.reverse_append] at h3
    have h3 : t.deps 0 = found ++ (t1.deps d ++ depss r1 r.reverse) := h3
    have hl : r1.length = r.length := by simpa using h2
    rw [encs_cons] at h1
    cases t1 with
    | var n =>
      have h1 : v :: t.enc.drop (i + 1) = V.int n :: encs r1 := h1
      injection h1 with e1 e2
      exact .inl ⟨n, e1, r1, e2, hl, by rw [h3]; simp [Tm.deps]⟩
    | lam b =>
      have h1 : v :: t.enc.drop (i + 1) = V.str "lam" :: (b.enc ++ encs r1) := h1
      injection h1 with e1 e2
      exact .inr (.inl ⟨e1, b :: r1, by rw [e2, encs_cons], by simp [hl], by rw [h3, List.reverse_append]; simp [Tm.deps, depss]⟩)
    | app f a =>
      have h1 : v :: t.enc.drop (i + 1) = V.str "app" :: (f.enc ++ a.enc ++ encs r1) := h1
      injection h1 with e1 e2
      exact .inr (.inr ⟨e1, f :: a :: r1, by rw [e2, encs_cons, encs_cons, List.append_assoc], by simp [hl], by rw [h3, List.reverse_append, List.reverse_append]; simp [Tm.deps, depss]⟩)
/-! ### a term's variables changed place by place -/
def Tm.vmap (g : Nat → Nat → Nat) : Nat → Tm → Tm
  | d, .var n => .var (g d n)
  | d, .lam b => .lam (b.vmap g (d + 1))
  | d, .app f a => .app (f.vmap g d) (a.vmap g d)
def vm (g : Nat → Nat → Nat) (v : V) (d : Nat) : V := match v with
  | .int n => .int (g d n.toNat)
  | v => v
theorem Tm.deps_vmap (g : Nat → Nat → Nat) : ∀ (t : Tm) (d : Nat), (t.vmap g d).deps d = t.deps d
  | .var _, _ => rfl
  | .lam b, d => by simp [Tm.vmap, Tm.deps, Tm.deps_vmap g b]
  | .app f a, d => by simp [Tm.vmap, Tm.deps, Tm.deps_vmap g f, Tm.deps_vmap g a]
theorem Tm.enc_vmap (g : Nat → Nat → Nat) : ∀ (t : Tm) (d : Nat), (t.vmap g d).enc = List.zipWith (vm g) t.enc (t.deps d)
  | .var _, _ => rfl
  | .lam b, d => by simp [Tm.vmap, Tm.deps, Tm.enc, Tm.enc_vmap g b, vm]
  | .app f a, d => by
    have hl : f.enc.length = (f.deps d).length := (Tm.deps_len f d).symm
    simp only [Tm.vmap, Tm.deps, Tm.enc, List.zipWith_cons_cons, Tm.enc_vmap g f, Tm.enc_vmap g a, List.zipWith_append hl]
    rfl
theorem zip_take {α β γ : Type} {f : α → β → γ} {xs : List α} {ys : List β} {i : Nat} {x : α} {y : β} (hx : xs[i]? = some x) (hy : ys[i]? = some y) : (List.zipWith f xs ys).take (i + 1) = (List.zipWith f xs ys).take i ++ [f x y] := by
  rw [List.take_add_one, List.getElem?_zipWith, hx, hy]
  rfl
/-- the free variables, place by place -/
def frv (v : V) (d : Nat) : List Int := match v with
  | .int n => if (d : Int) ≤ n then [n - d] else []
  | _ => []
def frs (xs : List V) (ds : List Nat) : List Int := (List.zipWith frv xs ds).flatten
theorem Tm.int_nat : ∀ {t : Tm} {v : V}, v ∈ t.enc → (∃ n : Nat, v = .int n) ∨ v = .str "lam" ∨ v = .str "app"
  | .var n, v, h => .inl ⟨n, by simpa [Tm.enc] using h⟩
  | .lam b, v, h => by
    rcases List.mem_cons.mp h with e | e
    · exact .inr (.inl e)
    · exact Tm.int_nat (t := b) e
  | .app f a, v, h => by
    rcases List.mem_cons.mp h with e | e
    · exact .inr (.inr e)
    · rcases List.mem_append.mp e with e | e
      · exact Tm.int_nat (t := f) e
      · exact Tm.int_nat (t := a) e
theorem sorted_one : ∀ {ns ms : List Int}, ns.Pairwise (· < ·) → ms.Pairwise (· < ·) → (∀ j, j ∈ ns ↔ j ∈ ms) → ns = ms
  | [], [], _, _, _ => rfl
  | [], m :: ms, _, _, h => absurd ((h m).mpr List.mem_cons_self) (by simp)
  | n :: ns, [], _, _, h => absurd ((h n).mp List.mem_cons_self) (by simp)
  | n :: ns, m :: ms, h1, h2, h => by
    obtain ⟨a1, b1⟩ := List.pairwise_cons.mp h1
    obtain ⟨a2, b2⟩ := List.pairwise_cons.mp h2
    have e : n = m := by
      rcases List.mem_cons.mp ((h n).mp List.mem_cons_self) with q | q
      · exact q
      · rcases List.mem_cons.mp ((h m).mpr List.mem_cons_self) with p | p
        · exact p.symm
        · have l1 := a1 m p
          have l2 := a2 n q
          omega
    subst e
    rw [sorted_one b1 b2 fun j => ?_]
    constructor
    · intro hj
      rcases List.mem_cons.mp ((h j).mp (List.mem_cons_of_mem _ hj)) with q | q
      · have := a1 j hj
        omega
      · exact q
    · intro hj
      rcases List.mem_cons.mp ((h j).mpr (List.mem_cons_of_mem _ hj)) with q | q
      · have := a2 j hj
        omega
      · exact q
theorem le_lt {ns : List Int} (h : ns.Pairwise (· ≤ ·)) (n : ns.Nodup) : ns.Pairwise (· < ·) := by
  induction ns with
  | nil => exact .nil
  | cons a r ih =>
    obtain ⟨h1, h2⟩ := List.pairwise_cons.mp h
    obtain ⟨n1, n2⟩ := List.nodup_cons.mp n
    refine List.pairwise_cons.mpr ⟨fun b hb => ?_, ih h2 n2⟩
    have l := h1 b hb
    have ne : a ≠ b := fun e => n1 (by rw [e]; exact hb)
    omega
section
variable {K : PySem.W.Frag} {H : Hp} {Q : VK} {a b : Addr} {xs ys : List V}
theorem shapedL_nodes {xs : List V} (h : Nds xs) : SeqAt.shaped (.list (xs.map dv)) = true := by
  have h1 : (PyData.list (xs.map dv)).canLay0 = true := lay_nodes h
  have h2 : (PyData.list (xs.map dv)).depth ≤ 2 := by
    have h := depth_all xs
    simp only [PyData.depth]
    omega
  unfold SeqAt.shaped
  rw [h1, Bool.true_and]
  exact decide_eq_true (by omega)
theorem w_eqL (h : SqL K H a xs) (k : SqL K H b ys) (n : Nds xs) (m : Nds ys) (q : Q (.bl (decide (xs = ys))) H) : rEqD K (.ref a) (.ref b) H Q :=
  ⟨_, _, .lst h (dp_nodes n), .lst k (dp_nodes m), shapedL_nodes n, shapedL_nodes m, by rw [PyData.eqv, eqv_nodes n m]; exact q⟩
theorem w_neL (h : SqL K H a xs) (k : SqL K H b ys) (n : Nds xs) (m : Nds ys) (q : Q (.bl (!decide (xs = ys))) H) : rNeD K (.ref a) (.ref b) H Q :=
  ⟨_, _, .lst h (dp_nodes n), .lst k (dp_nodes m), shapedL_nodes n, shapedL_nodes m, by rw [PyData.eqv, eqv_nodes n m]; exact q⟩
theorem Nds.ofInts (ns : List Int) : Nds (ns.map V.int) := fun x hx => by
  obtain ⟨i, _, e⟩ := List.mem_map.mp hx
  exact .inl ⟨i, e.symm⟩
theorem inV_ints (z : Int) : ∀ ms : List Int, inV (.int z) (ms.map V.int) = decide (z ∈ ms)
  | [] => by simp [inV]
  | m :: ms => by
    have ih := inV_ints z ms
    unfold inV at ih ⊢
    rw [List.map_cons, List.any_cons, ih]
    have e : eqV (.int m) (.int z) = (m == z) := rfl
    rw [e]
    by_cases h : m = z
    · subst h
      simp
    · have h2 : z ≠ m := fun e => h e.symm
      simp [h, h2]
theorem flat_ints : ∀ ms : List Int, (ms.map V.int).all flatV = true
  | [] => rfl
  | m :: ms => by
    rw [List.map_cons, List.all_cons, flat_ints ms]
    rfl
theorem w_nin {p : Addr} {ms : List Int} {z : Int} (h : SqL K H p (ms.map V.int)) (q : Q (.bl (!decide (z ∈ ms))) H) : rIn K true (.int z) (.ref p) H Q :=
  ⟨p, _, rfl, .inl h, rfl, flat_ints ms, by rw [inV_ints]; exact q⟩
theorem w_sorted {p : Addr} {ms : List Int} (h : SqL K H p (ms.map V.int)) (q : ∀ (ns : List Int) (l : Addr), ns.Perm ms → ns.Pairwise (· ≤ ·) → H l = none → Q (.ref l) (upd H l (.lst (ns.map V.int)))) : rSortedI K [.ref p] H Q := ⟨p, ms, rfl, h, q⟩
theorem map_int_inj {ns ms : List Int} (h : ns.map V.int = ms.map V.int) : ns = ms := by
  have := congrArg (List.map fun v => match v with | V.int i => i | _ => 0) h
  simpa [List.map_map, Function.comp_def] using this
end
/-! ### the law's stream of numbers -/
structure Stm where
  home : Addr
  cells : List Int
  cur : Int
  pos : Nat
  mix : Int
def Stm.take (m : Stm) : Stm := if m.cur = 0 ∧ m.pos < m.cells.length then { m with cur := (if m.cells.getD m.pos 0 < 0 then -(m.cells.getD m.pos 0) else m.cells.getD m.pos 0), pos := m.pos + 1 } else m
def Stm.turn (m : Stm) : Stm := { m with mix := (m.mix * 48271 + 11).fmod 2147483647 }
def Stm.next (m : Stm) (n : Int) : Stm := if m.take.cur = 0 then m.take.turn else { m.take with cur := m.take.cur.fdiv n }
def Stm.val (m : Stm) (n : Int) : Int := if m.take.cur = 0 then (m.take.turn.mix.fdiv 97).fmod n else m.take.cur.fmod n
theorem fmod_lt {a n : Int} (h : 0 < n) : 0 ≤ a.fmod n ∧ a.fmod n < n := ⟨Int.fmod_nonneg_of_pos a h, Int.fmod_lt_of_pos a h⟩
theorem Stm.val_lt (m : Stm) {n : Int} (h : 0 < n) : 0 ≤ m.val n ∧ m.val n < n := by
  unfold Stm.val
  split
  · exact fmod_lt h
  · exact fmod_lt h
def mixOf (ns : List Int) : Int := ns.foldl (fun m c => (m * 48271 + c.fmod 65521 + 1).fmod 2147483647) 17
theorem mixOf_take {ns : List Int} {i : Nat} {z : Int} (h : ns[i]? = some z) : mixOf (ns.take (i + 1)) = (mixOf (ns.take i) * 48271 + z.fmod 65521 + 1).fmod 2147483647 := by
  rw [List.take_add_one, h]
  unfold mixOf
  rw [List.foldl_append]
  rfl
theorem get_int {ns : List Int} {i : Nat} {x : V} (h : (ns.map V.int)[i]? = some x) : ∃ z, ns[i]? = some z ∧ x = .int z := by
  rw [List.getElem?_map] at h
  cases e : ns[i]? with
  | none => rw [e] at h; cases h
  | some z => rw [e] at h; exact ⟨z, rfl, (Option.some.inj h).symm⟩
theorem at_map {ns : List Int} {j : Nat} (h : j < ns.length) : atI (ns.map V.int) (j : Int) = some (.int (ns.getD j 0)) := by
  refine atI_nat ?_
  rw [List.getElem?_map, List.getElem?_eq_getElem h, List.getD_eq_getElem?_getD, List.getElem?_eq_getElem h]
  rfl
theorem Stm.take_cells (m : Stm) : m.take.cells = m.cells := by
  unfold Stm.take
  split <;> rfl
theorem Stm.take_home (m : Stm) : m.take.home = m.home := by
  unfold Stm.take
  split <;> rfl
/-- the stream goes on: the same list of numbers at the same place -/
def Fol (m m' : Stm) : Prop := m'.home = m.home ∧ m'.cells = m.cells
theorem Fol.refl (m : Stm) : Fol m m := ⟨rfl, rfl⟩
theorem Fol.trans {m m1 m2 : Stm} (h : Fol m m1) (k : Fol m1 m2) : Fol m m2 := ⟨k.1.trans h.1, k.2.trans h.2⟩
theorem Fol.next (m : Stm) (n : Int) : Fol m (m.next n) := by
  unfold Stm.next
  split
  · exact ⟨m.take_home, m.take_cells⟩
  · exact ⟨m.take_home, m.take_cells⟩
theorem Fol.step {m m1 : Stm} (h : Fol m m1) (n : Int) : Fol m (m1.next n) := h.trans (Fol.next m1 n)
def StAt (H : Hp) (s : Addr) (m : Stm) : Prop := m.home ≠ s ∧ H s = some (.lst [.ref m.home, .int m.cur, .int m.pos, .int m.mix]) ∧ H m.home = some (.lst (m.cells.map V.int))
theorem StAt.ex {H H' : Hp} {s : Addr} {m : Stm} (h : StAt H s m) (e : Ex H H') : StAt H' s m := ⟨h.1, e _ _ h.2.1, e _ _ h.2.2⟩
theorem StAt.is {H : Hp} {s : Addr} {m : Stm} (h : StAt H s m) : ∃ ys, H s = some (.lst ys) := ⟨_, h.2.1⟩
theorem StAt.put {H : Hp} {s r : Addr} {m : Stm} {o : HO} (h : StAt H s m) (hs : r ≠ s) (hl : r ≠ m.home) : StAt (upd H r o) s m :=
  ⟨h.1, by rw [upd_ne hs.symm]; exact h.2.1, by rw [upd_ne hl.symm]; exact h.2.2⟩
theorem StAt.new {H : Hp} {s r : Addr} {m : Stm} {o : HO} (h : StAt H s m) (hr : H r = none) : StAt (upd H r o) s m := h.ex (Ex.new hr)
theorem StAt.ne {H : Hp} {s r : Addr} {m : Stm} (h : StAt H s m) (hr : H r = none) : r ≠ s ∧ r ≠ m.home := ⟨(ne_of_none h.2.1 hr).symm, (ne_of_none h.2.2 hr).symm⟩
theorem Kp.st {H H' : Hp} {s : Addr} {m m' : Stm} (e : Fr s H H') (h : StAt H s m) (h' : StAt H' s m') : Kp H H' := by
  obtain ⟨ys, h⟩ := h.is
  obtain ⟨zs, h'⟩ := h'.is
  exact Kp.fr e h h'
end Ly
set_option Elab.async false
set_option linter.all false
set_option maxRecDepth 100000
set_option maxHeartbeats 4000000
/-! zip of two sources of any kind, in a for -/
namespace Ly
open PySem PySem.Spec PyProof.Rows L2 Evl
/-- what one source of a zip gives: C tells its items by the abstract heap -/
structure ZSrc (P : Program) (w : World) (K : PySem.W.Frag) (C : Hp → List V → Prop) (it : Addr) (fp : List Addr) (st : Nat → Heap → Prop) : Prop where
  obj : ∀ i h, st i h → ∃ o, h.get? it = some o ∧ ∀ v, o.data ≠ .cell v
  keep : ∀ i h h', st i h → (∀ o, h.get? it = some o → h'.get? it = some o) → st i h'
  inj : ∀ (X : Cx), X.prog = P → X.w = w → X.K = K → ∀ (pins : List (Addr × Obj)) (σ : L2.St) (H : Hp) (s : Shared) (xs ys : List V), Inv X pins σ H s → C H xs → C H ys → xs = ys
  draws : ∀ (X : Cx), X.prog = P → X.w = w → X.K = K → X.A.handled = none → ∀ (pins : List (Addr × Obj)) (σ : L2.St) (H : Hp) (s : Shared) (xs : List V), Inv X pins σ H s → C H xs →
    ∃ (Pr : Nat → Value → Prop) (CT : Heap → Prop), Draws P w X.A.in1 it fp xs.length Pr (fun i h => st i h ∧ CT h) ∧ CT s.heap ∧ ∀ i u, Pr i u → ∃ v, xs[i]? = some v ∧ RelV v u
def ItzC (C1 C2 : Hp → List V → Prop) : It :=
  ⟨fun i H => ∃ (xs ys : List V) (x y : V), C1 H xs ∧ C2 H ys ∧ xs[i]? = some x ∧ ys[i]? = some y,
    fun i H v H' => ∃ (T : Addr) (x y : V), v = .ref T ∧ H T = none ∧ H' = upd H T (.tup [x, y]) ∧ (∀ xs, C1 H xs → xs[i]? = some x) ∧ ∀ ys, C2 H ys → ys[i]? = some y,
    fun i H => ∃ xs ys : List V, C1 H xs ∧ C2 H ys ∧ i ≤ xs.length ∧ i ≤ ys.length ∧ (i = xs.length ∨ i = ys.length)⟩
theorem five {α : Type} {c a1 a2 a3 a4 a5 : α} (h : c ∈ [a1, a2, a3, a4, a5]) : c = a1 ∨ c = a2 ∨ c = a3 ∨ c = a4 ∨ c = a5 := by simpa using h
theorem turn_zipC {P : Program} {w : World} {K : PySem.W.Frag} {elts : List Expr} {kk : Nat} {tpos : Pos} {C1 C2 : Hp → List V → Prop} {z TI TO i1 i2 : Addr} {fp1 fp2 : List Addr} {st1 st2 : Nat → Heap → Prop}
    (S : ZipSep2 z TI TO i1 i2 fp1 fp2) (Z1 : ZSrc P w K C1 i1 fp1 st1) (Z2 : ZSrc P w K C2 i2 fp2 st2) :
    Turn P w K (.Tuple elts kk tpos) (ItzC C1 C2) [z, TI, TO, i1, i2] z (fun i h => IsZip h z TI TO .none ∧ IsTupOf2 h TI (.ref i1) (.ref i2) ∧ (∃ x y, IsTupOf2 h TO x y) ∧ st1 i h ∧ st2 i h) where
  mem := List.mem_cons_self
  obj := fun i h ⟨hz, hI, ⟨_, _, hO⟩, q1, q2⟩ c hc => by
    rcases five hc with rfl | rfl | rfl | rfl | rfl
    · exact ⟨_, hz, fun _ q => nomatch q⟩
    · exact ⟨_, hI, fun _ q => nomatch q⟩
    · exact ⟨_, hO, fun _ q => nomatch q⟩
    · exact Z1.obj i h q1
    · exact Z2.obj i h q2
  keep := fun i h h' ⟨hz, hI, ⟨x, y, hO⟩, q1, q2⟩ k =>
    ⟨k z (by simp) _ hz, k TI (by simp) _ hI, ⟨x, y, k TO (by simp) _ hO⟩, Z1.keep i h h' q1 (fun o e => k i1 (by simp) o e), Z2.keep i h h' q2 (fun o e => k i2 (by simp) o e)⟩
  item := fun X hP hw hK hc i pins s σ H E I hf st hg => by
    obtain ⟨hz, hI, ⟨x0, y0, hO⟩, q1, q2⟩ := st
    obtain ⟨xs, ys, x, y, c1, c2, hx, hy⟩ := hg
    obtain ⟨Pr1, CT1, D1, t1, r1⟩ := Z1.draws X hP hw hK (I.ok.hd hc) pins σ H s xs I c1
    obtain ⟨Pr2, CT2, D2, t2, r2⟩ := Z2.draws X hP hw hK (I.ok.hd hc) pins σ H s ys I c2
    have l1 : i < xs.length := (List.getElem?_eq_some_iff.mp hx).1
    have l2 : i < ys.length := (List.getElem?_eq_some_iff.mp hy).1
    have zl : z < s.heap.objs.size := Heap.lt_size hz
    refine wpAny_pyNext_zipD2_item S D1 D2 hz hI hO ⟨q1, t1⟩ ⟨q2, t2⟩ l1 l2 fun u1 u2 h' tk p1 p2 z' O' n1 n2 hT hsz hk => ?_
    obtain ⟨v1, e1, rv1⟩ := r1 i u1 p1
    obtain ⟨v2, e2, rv2⟩ := r2 i u2 p2
    have ev1 : v1 = x := Option.some.inj (e1.symm.trans hx)
    have ev2 : v2 = y := Option.some.inj (e2.symm.trans hy)
    subst ev1 ev2
    refine ⟨_, rfl, wpAny_letOwnedTupleGo_zip (s := { s with heap := h', toks := tk }) z' fun h2 z2 sb => ?_⟩
    have stay : ∀ c o, c ≠ z → c ≠ TO → c ≠ i1 → c ≠ i2 → s.heap.get? c = some o → h2.get? c = some o := fun c o k1 k2 k3 k4 e => (sb.2 c k1).trans (hk c o k1 k2 k3 k4 e)
    have made : ObjOk X.prog X.w (upd H s.heap.objs.size (.tup [v1, v2])) h2 s.heap.objs.size (.tup [v1, v2]) :=
      ⟨sz_of (Nat.le_of_ble_eq_true rfl), [u1, u2], .cons rv1 (.cons rv2 .nil), ⟨_, (sb.2 _ (Nat.ne_of_gt zl)).trans hT, rfl, _, rfl⟩⟩
    have J := I.turnedNew (t' := tk) (ch := [z, TI, TO, i1, i2]) (h' := h2) (fun c o hb e => stay c o (fun q => hb (by simp [q])) (fun q => hb (by simp [q])) (fun q => hb (by simp [q])) (fun q => hb (by simp [q])) e) hf (Nat.le_refl _) made
    refine ⟨.ref s.heap.objs.size, _, J, rfl, ⟨_, v1, v2, rfl, I.hok.fresh (Nat.le_refl _), rfl, fun l hl => ?_, fun l hl => ?_⟩, ⟨z2, ?_, ⟨u1, u2, ?_⟩, ?_, ?_⟩, fun c hcm => ?_⟩
    · rw [Z1.inj X hP hw hK pins σ H s l xs I hl c1]
      exact hx
    · rw [Z2.inj X hP hw hK pins σ H s l ys I hl c2]
      exact hy
    · exact stay _ _ S.TIz S.TITO S.TIi1 S.TIi2 hI
    · exact (sb.2 _ S.TOz).trans O'
    · exact Z1.keep _ _ _ n1.1 fun o e => (sb.2 _ (Ne.symm S.zi1)).trans e
    · exact Z2.keep _ _ _ n2.1 fun o e => (sb.2 _ (Ne.symm S.zi2)).trans e
    · have lt : c < s.heap.objs.size := by
        rcases five hcm with q | q | q | q | q
        · rw [q]; exact zl
        · rw [q]; exact Heap.lt_size hI
        · rw [q]; exact Heap.lt_size hO
        · rw [q]; obtain ⟨_, e, _⟩ := Z1.obj _ _ q1; exact Heap.lt_size e
        · rw [q]; obtain ⟨_, e, _⟩ := Z2.obj _ _ q2; exact Heap.lt_size e
      rw [upd_ne (Nat.ne_of_lt lt)]
      exact (hf c hcm).1
  done := fun X hP hw hK hc i pins s σ H E I hf st hg => by
    obtain ⟨hz, hI, ⟨x0, y0, hO⟩, q1, q2⟩ := st
    obtain ⟨xs, ys, c1, c2, l1, l2, hend⟩ := hg
    obtain ⟨Pr1, CT1, D1, t1, r1⟩ := Z1.draws X hP hw hK (I.ok.hd hc) pins σ H s xs I c1
    obtain ⟨Pr2, CT2, D2, t2, r2⟩ := Z2.draws X hP hw hK (I.ok.hd hc) pins σ H s ys I c2
    exact wpAny_pyNext_zipD2_end S D1 D2 hz hI hO ⟨q1, t1⟩ ⟨q2, t2⟩ l1 l2 hend fun h' tk hk => ⟨rfl, I.turnedL (t' := tk) (ch := [z, TI, TO, i1, i2]) (fun c o hb e =>
      hk c o (fun q => hb (by simp [q])) (fun q => hb (by simp [q])) (fun q => hb (by simp [q])) (fun q => hb (by simp [q])) e) hf⟩
  self := fun A i s Q E ⟨hz, _⟩ h => wpAny_pyIter_zip hz h
/-- the sources -/
theorem src_tup {P : Program} {w : World} {K : PySem.W.Frag} {a it : Addr} (hne : a ≠ it) : ZSrc P w K (fun H xs => SqT K H a xs) it [it, a] (fun i h => h.IsTupleIter it a i) where
  obj := fun i h st => by
    obtain ⟨o, e, _, d⟩ := st
    exact ⟨o, e, fun v z => by rw [d] at z; cases z⟩
  keep := fun i h h' st k => st.at fun o e => k o e
  inj := fun X hP hw hK pins σ H s xs ys I h1 h2 => by
    subst hP hw hK
    exact I.tuple_inj h1 h2
  draws := fun X hP hw hK hh pins σ H s xs I h => by
    subst hP hw hK
    obtain ⟨its, rv, p, _⟩ := I.tuple h
    have el : xs.length = its.toArray.size := by rw [List.size_toArray]; exact rv.length
    rw [el]
    refine ⟨fun i v => its.toArray[i]? = some v, fun h => h.IsTuple a its.toArray, Draws.tuple (A := X.A.in1) (show X.A.in1.handled = none from hh) it a hne its.toArray, p, fun i u hu => ?_⟩
    have hu2 : its[i]? = some u := by simpa using hu
    obtain ⟨hl, hg⟩ := List.getElem?_eq_some_iff.mp hu2
    have hl2 : i < xs.length := by rw [rv.length]; exact hl
    obtain ⟨u2, g2, rr⟩ := rv.get (List.getElem?_eq_getElem hl2)
    rw [hu2] at g2
    cases g2
    exact ⟨_, List.getElem?_eq_getElem hl2, rr⟩
theorem src_lst {P : Program} {w : World} {K : PySem.W.Frag} {a it : Addr} (hne : a ≠ it) : ZSrc P w K (fun H xs => SqL K H a xs) it [it, a] (fun i h => h.IsListIter it a i) where
  obj := fun i h st => by
    obtain ⟨o, e, _, d⟩ := st
    exact ⟨o, e, fun v z => by rw [d] at z; cases z⟩
  keep := fun i h h' st k => st.at fun o e => k o e
  inj := fun X hP hw hK pins σ H s xs ys I h1 h2 => by
    subst hP hw hK
    exact I.list_inj h1 h2
  draws := fun X hP hw hK hh pins σ H s xs I h => by
    subst hP hw hK
    obtain ⟨its, rv, p, _⟩ := I.list h
    have el : xs.length = its.toArray.size := by rw [List.size_toArray]; exact rv.length
    rw [el]
    refine ⟨fun i v => its.toArray[i]? = some v, fun h => h.IsList a its.toArray, Draws.list (A := X.A.in1) (show X.A.in1.handled = none from hh) it a hne its.toArray, p.isList, fun i u hu => ?_⟩
    have hu2 : its[i]? = some u := by simpa using hu
    obtain ⟨hl, hg⟩ := List.getElem?_eq_some_iff.mp hu2
    have hl2 : i < xs.length := by rw [rv.length]; exact hl
    obtain ⟨u2, g2, rr⟩ := rv.get (List.getElem?_eq_getElem hl2)
    rw [hu2] at g2
    cases g2
    exact ⟨_, List.getElem?_eq_getElem hl2, rr⟩
def signs (z : Str) : List V := z.cps.toList.map fun c => V.str ⟨#[c]⟩
theorem src_str {P : Program} {w : World} {K : PySem.W.Frag} {z : Str} {t : Tok} {it : Addr} : ZSrc P w K (fun _ xs => xs = signs z) it [it] (fun i h => h.IsStrIter it (strIterType z) z t i) where
  obj := fun i h st => by
    obtain ⟨o, e, _, d⟩ := st
    exact ⟨o, e, fun v z => by rw [d] at z; cases z⟩
  keep := fun i h h' st k => by
    obtain ⟨o, e, d⟩ := st
    exact ⟨o, k o e, d⟩
  inj := fun X hP hw hK pins σ H s xs ys I h1 h2 => h1.trans h2.symm
  draws := fun X hP hw hK hh pins σ H s xs I h => by
    subst h hP hw hK
    have D := Draws.text (prog := X.prog) (w := X.w) (A := X.A.in1) (show X.A.in1.handled = none from hh) it z t
    have el : (signs z).length = z.cps.size := by simp [signs]
    rw [el]
    refine ⟨fun i v => ∃ c u, z.cps[i]? = some c ∧ v = .str ⟨#[c]⟩ u, fun _ => True, ⟨fun i h st => D.live i h st.1, fun i h h' st k => ⟨D.frame i h h' st.1 k, trivial⟩, fun i s Q E hi st hQ => D.item i s Q E hi st.1 fun x h' tk p q r => hQ x h' tk p ⟨q, trivial⟩ r, fun s Q E st hE => D.done s Q E st.1 hE⟩, trivial, fun i u hu => ?_⟩
    obtain ⟨c, tk, hc, rfl⟩ := hu
    refine ⟨.str ⟨#[c]⟩, ?_, tk, rfl⟩
    unfold signs
    rw [List.getElem?_map, Array.getElem?_toList, hc]
    rfl
def iZipTL (K : PySem.W.Frag) (ta : TA) : TI := fun σ H R => ta σ H fun vs H1 => ∃ a b xs ys, vs = [.ref a, .ref b] ∧ SqT K H1 a xs ∧ SqL K H1 b ys ∧ R (ItzC (fun H xs => SqT K H a xs) (fun H ys => SqL K H b ys)) H1
def iZipSS (ta : TA) : TI := fun σ H R => ta σ H fun vs H1 => ∃ z u, vs = [.str z, .str u] ∧ R (ItzC (fun _ xs => xs = signs z) (fun _ ys => ys = signs u)) H1
theorem fresh_cells {X : Cx} {pins : List (Addr × Obj)} {σ : L2.St} {H : Hp} {s : Shared} (I : Inv X pins σ H s) : ∀ c ∈ [s.heap.objs.size + 4, s.heap.objs.size + 2, s.heap.objs.size + 3, s.heap.objs.size, s.heap.objs.size + 1], FpOk X pins H c := fun c hc => by
  have le : s.heap.objs.size ≤ c := by
    rcases five hc with q | q | q | q | q <;> omega
  exact I.fpOk le (I.hok.fresh le)
theorem pi_zipM {X : Cx} {e e2 : Expr} {ta : TA} {p pos tpos : Pos} {elts : List Expr} {kk : Nat} (hg : Gl X "zip") (hm : X.mg "zip" = none) (ha : PA X [e, e2] ta)
    (hs : starEach [e, e2] X.env = (false, eval e X.env) :: starEach [e2] X.env := by rfl) (hpl : (backTo pos (starEach [e2] X.env)).any (·.1) = false := by rfl) :
    PI X (.Tuple elts kk tpos) (.Call (.Name "zip" p) [e, e2] [] pos) (iZipTL X.K ta) := ⟨fun pins s σ H R I h =>
  Call_ (ld_blt I hg hm PyProof.Rows.boot_zip (PyProof.Rows.callWith_type1 (thn (ha.run pos pins s σ H _ I h) fun us s1 ⟨vs, H1, J, rv, q⟩ => by
    obtain ⟨a, b, xs, ys, ev, hx, hy, q⟩ := q
    subst ev
    obtain ⟨u1, us1, e1, r1, rv1⟩ : ∃ u1 us1, us = u1 :: us1 ∧ RelV (.ref a) u1 ∧ Vals [.ref b] us1 := by
      cases rv with
      | cons r rr => exact ⟨_, _, rfl, r, rr⟩
    obtain ⟨u2, e2', r2⟩ := vals1 rv1
    subst e1 e2'
    cases r1
    cases r2
    obtain ⟨its, _, p1, _⟩ := J.tuple hx
    obtain ⟨its2, _, p2, _⟩ := J.list hy
    refine zip_begins2 (begins_tuple a its.toArray) (begins_list b its2.toArray) p1 p2.isList fun h' hz hI hO g1 g2 hsz hk => wpAny_pyIter_zip hz ?_
    have la : a < s1.heap.objs.size := by
      obtain ⟨_, z, _⟩ := id p1
      exact Heap.lt_size z
    have lb := p2.lt
    refine ⟨s1.heap.objs.size + 4, _, _, _, H1, rfl, J.kept (t' := s1.toks) hk, turn_zipC (zip_sep2 (N := s1.heap.objs.size) (fp1 := [a]) (fp2 := [b]) ?_ ?_) (src_tup (Nat.ne_of_lt la)) (src_lst (Nat.ne_of_lt (Nat.lt_succ_of_lt lb))), ⟨hz, hI, ⟨_, _, hO⟩, ⟨_, g1, rfl, rfl⟩, ⟨_, g2, rfl, rfl⟩⟩, fresh_cells J, q⟩
    · intro c hc
      rw [List.mem_singleton.mp hc]
      exact la
    · intro c hc
      rw [List.mem_singleton.mp hc]
      exact lb) hs hpl))⟩
theorem pi_zipS {X : Cx} {e e2 : Expr} {ta : TA} {p pos tpos : Pos} {elts : List Expr} {kk : Nat} (hg : Gl X "zip") (hm : X.mg "zip" = none) (ha : PA X [e, e2] ta)
    (hs : starEach [e, e2] X.env = (false, eval e X.env) :: starEach [e2] X.env := by rfl) (hpl : (backTo pos (starEach [e2] X.env)).any (·.1) = false := by rfl) :
    PI X (.Tuple elts kk tpos) (.Call (.Name "zip" p) [e, e2] [] pos) (iZipSS ta) := ⟨fun pins s σ H R I h =>
  Call_ (ld_blt I hg hm PyProof.Rows.boot_zip (PyProof.Rows.callWith_type1 (thn (ha.run pos pins s σ H _ I h) fun us s1 ⟨vs, H1, J, rv, q⟩ => by
    obtain ⟨z, y, ev, q⟩ := q
    subst ev
    obtain ⟨u1, us1, e1, r1, rv1⟩ : ∃ u1 us1, us = u1 :: us1 ∧ RelV (.str z) u1 ∧ Vals [.str y] us1 := by
      cases rv with
      | cons r rr => exact ⟨_, _, rfl, r, rr⟩
    obtain ⟨u2, e2', r2⟩ := vals1 rv1
    subst e1 e2'
    obtain ⟨t1, r1⟩ := r1
    obtain ⟨t2, r2⟩ := r2
    subst r1 r2
    refine zip_begins2 (begins_text z t1) (begins_text y t2) trivial trivial fun h' hz hI hO g1 g2 hsz hk => wpAny_pyIter_zip hz ?_
    refine ⟨s1.heap.objs.size + 4, _, _, _, H1, rfl, J.kept (t' := s1.toks) hk, turn_zipC (zip_sep2 (N := s1.heap.objs.size) (fp1 := []) (fp2 := []) (by simp) (by simp)) (src_str (z := z) (t := t1)) (src_str (z := y) (t := t2)), ⟨hz, hI, ⟨_, _, hO⟩, ⟨_, g1, rfl, rfl⟩, ⟨_, g2, rfl, rfl⟩⟩, fresh_cells J, q⟩) hs hpl))⟩
/-- a for over such a zip: n turns -/
theorem for_zipC {C1 C2 : Hp → List V → Prop} {xs ys : List V} {n : Nat} (hn : n = min xs.length ys.length) {g : TG} {tb : TS} {D : Ends} {σ : L2.St} {H : Hp} (Pv : Nat → L2.St → Hp → Prop) (h0 : Pv 0 σ H) (hC : ∀ i σ H, Pv i σ H → C1 H xs ∧ C2 H ys)
    (hs : ∀ (i : Nat) (x y : V) (T : Addr) (σ : L2.St) (H : Hp), xs[i]? = some x → ys[i]? = some y → Pv i σ H → H T = none → g (.ref T) σ (upd H T (.tup [x, y])) fun σ2 H2 => tb { D with nx := Pv (i + 1), ct := Pv (i + 1), bk := D.nx } σ2 H2)
    (hd : ∀ σ H, Pv n σ H → D.nx σ H) : ForB (ItzC C1 C2) g tb D σ H := by
  refine ⟨fun i m σ H => m = n - i ∧ i ≤ n ∧ Pv i σ H, ⟨n, rfl, Nat.zero_le _, h0⟩, fun i m σ H hW => ?_⟩
  obtain ⟨hm, hi, pv⟩ := hW
  obtain ⟨k1, k2⟩ := hC i σ H pv
  by_cases lt : i < n
  · have l1 : i < xs.length := by omega
    have l2 : i < ys.length := by omega
    refine .inr ⟨⟨xs, ys, xs[i], ys[i], k1, k2, List.getElem?_eq_getElem l1, List.getElem?_eq_getElem l2⟩, Pv (i + 1), fun σ' H' p' => ⟨n - (i + 1), by omega, rfl, lt, p'⟩, fun v H' hy => ?_⟩
    obtain ⟨T, x, y, e1, e2, e3, g1, g2⟩ := hy
    subst e1 e3
    exact hs i x y T σ H (g1 xs k1) (g2 ys k2) pv e2
  · have e : i = n := by omega
    subst e
    exact .inl ⟨⟨xs, ys, k1, k2, by omega, by omega, by omega⟩, hd σ H pv⟩
section
variable {K : PySem.W.Frag} {σ : L2.St} {H : Hp} {tA : TA} {R : It → Hp → Prop}
theorem w_iZ (h : tA σ H fun vs H1 => ∃ a b xs ys, vs = [.ref a, .ref b] ∧ SqT K H1 a xs ∧ SqL K H1 b ys ∧ R (ItzC (fun H xs => SqT K H a xs) (fun H ys => SqL K H b ys)) H1) : iZipTL K tA σ H R := h
theorem w_iZ1 {a b : Addr} {xs ys : List V} {B : Addr → Addr → Prop} (h : SqT K H a xs) (h2 : SqL K H b ys) (q : B a b) : ∃ a' b' us vs, [V.ref a, V.ref b] = [.ref a', .ref b'] ∧ SqT K H a' us ∧ SqL K H b' vs ∧ B a' b' := ⟨a, b, xs, ys, rfl, h, h2, q⟩
theorem w_iS (h : tA σ H fun vs H1 => ∃ z u, vs = [.str z, .str u] ∧ R (ItzC (fun _ xs => xs = signs z) (fun _ ys => ys = signs u)) H1) : iZipSS tA σ H R := h
theorem w_iS1 {z u : Str} {B : Str → Str → Prop} (q : B z u) : ∃ a b, [V.str z, V.str u] = [.str a, .str b] ∧ B a b := ⟨z, u, rfl, q⟩
theorem w_gtup {t : TGs} {a : Addr} {xs : List V} {n : Nat} {Rs : L2.St → Hp → Prop} (h : SqT K H a xs) (hn : xs.length = n) (q : t xs σ H Rs) : gTup K n t (.ref a) σ H Rs := ⟨a, xs, rfl, h, hn, q⟩
theorem w_gcons {t : TG} {u : TGs} {v : V} {r : List V} {Rs : L2.St → Hp → Prop} (q : t v σ H fun σ' H' => u r σ' H' Rs) : gCons t u (v :: r) σ H Rs := ⟨v, r, rfl, q⟩
theorem w_gnil {Rs : L2.St → Hp → Prop} (q : Rs σ H) : gNil [] σ H Rs := ⟨rfl, q⟩
end
end Ly
set_option Elab.async false
set_option linter.all false
set_option maxRecDepth 100000
set_option maxHeartbeats 4000000
namespace Ly
open PySem PySem.Spec PyProof.Rows L2 Evl
local macro_rules | `(tactic| walk_at "ne") => `(tactic| first
  | assumption
  | ((refine' Ne.symm ?hq); (case hq => assumption))
  | ((refine' ne_of_none ?nh1 ?nh2); (case nh2 => assumption); (case nh1 => walk_at "hp"))
  | ((refine' Ne.symm (ne_of_none ?nh1 ?nh2)); (case nh2 => assumption); (case nh1 => walk_at "hp")))
local macro_rules | `(tactic| walk_at "hp") => `(tactic| first
  | assumption
  | exact upd_same
  | ((refine' SqL.of ?hq); (case hq => walk_at "hp"))
  | ((refine' SqT.of ?hq); (case hq => walk_at "hp"))
  | ((refine' (upd_ne ?hne).trans ?hrest); (case hne => walk_at "ne"); (case hrest => walk_at "hp"))
  | ((refine' ly_at ?hex ?hh); (case hex => assumption); (case hh => walk_at "hp"))
  | ((refine' ly_atF ?hex ?hnn ?hh); (case hex => assumption); (case hh => walk_at "hp"); (case hnn => walk_at "ne"))
  | ((refine' ex_t ?hex ?hh); (case hh => assumption); (case hex => walk_at "ex"))
  | ((refine' ex_l ?hex ?hh); (case hh => assumption); (case hex => walk_at "ex")))
local macro_rules | `(tactic| walk_at "ex") => `(tactic| first
  | assumption
  | exact Ex.refl _
  | ((refine' ex_new ?xa ?xb); (case xb => assumption); (case xa => walk_at "ex"))
  | ((refine' ex_upd ?xa ?xb); (case xb => walk_at "free"); (case xa => walk_at "ex"))
  | ((refine' Ex.trans ?xa ?xb); (case xb => assumption); (case xa => walk_at "ex")))
local macro_rules | `(tactic| walk_at "free") => `(tactic| first
  | assumption
  | ((refine' fresh_back ?xa ?xb); (case xb => assumption); (case xa => walk_at "ex")))
local macro_rules | `(tactic| walk_at "fr") => `(tactic| first
  | assumption
  | exact Fr.refl _ _
  | ((refine' Fr.own ?hq); (case hq => walk_at "fr"))
  | ((refine' Fr.new ?xa ?xb); (case xb => assumption); (case xa => walk_at "fr"))
  | ((refine' Fr.mut ?xa ?xb); (case xb => assumption); (case xa => walk_at "fr"))
  | ((refine' Fr.trans ?xa ?xb); (case xb => assumption); (case xa => walk_at "fr"))
  | ((refine' Fr.trans ?xa (Fr.ex ?xb)); (case xb => assumption); (case xa => walk_at "fr")))
local macro_rules | `(tactic| walk_at "go1") => `(tactic| first
  | (with_reducible refine' w_seq ?_)
  | (with_reducible refine' w_asg ?_)
  | (with_reducible refine' w_ret ?_)
  | (with_reducible refine' w_drop ?_)
  | (with_reducible refine' w_if ?_)
  | (with_reducible refine' w_next ?_)
  | (with_reducible refine' w_name ?_)
  | (with_reducible refine' w_sub ?_)
  | ((with_reducible refine' w_var ?hv ?_); (case hv => exact rfl))
  | (with_reducible refine' w_c ?_)
  | (with_reducible refine' w_op ?_)
  | (with_reducible refine' w_un ?_)
  | (with_reducible refine' w_ch ?_)
  | (with_reducible refine' w_I0 ?_)
  | ((with_reducible refine' w_I ?hc ?_); (case hc => first | (exact ly_mulL (by decide) (by decide)) | (exact ly_mulR (by decide) (by decide)) | (exact ly_mulL (by omega) (by omega)) | (show (_ : Int) ≠ 0; decide) | (show (_ : Int) ≠ 0; omega) | (exact ⟨by decide, by decide⟩) | (exact ⟨by omega, by omega⟩)))
  | (with_reducible refine' w_U ?_)
  | ((with_reducible refine' w_eq ?hs ?_); (case hs => exact rfl))
  | ((with_reducible refine' w_ne ?hs ?_); (case hs => exact rfl))
  | (with_reducible refine' w_isB ?_)
  | (with_reducible refine' w_notB ?_)
  | (with_reducible refine' w_nil ?_)
  | (with_reducible refine' w_cons ?_)
  | (with_reducible refine' w_tup ?_)
  | (with_reducible refine' w_lst ?_)
  | (with_reducible refine' w_cb ?_)
  | (with_reducible refine' w_call ?_)
  | (with_reducible refine' w_bm ?_)
  | (with_reducible refine' w_bm0 ?_)
  | ((with_reducible refine' w_app ?hh ?hz ?_); (case hh => walk_at "hp"); (case hz => first | exact sz_lt (by omega) | exact sz_lt (by simp only [List.length_append, List.length_map, List.length_cons, List.length_nil]; omega)))
  | ((with_reducible refine' w_popA ?hh ?_); (case hh => walk_at "hp"))
  | ((with_reducible refine' w_ext ?hh ?hh2 ?hz ?_); (case hh => walk_at "hp"); (case hh2 => walk_at "hp"))
  | ((with_reducible refine' w_ixL ?hh ?ha ?_); (case hh => walk_at "hp"); (case ha => first | exact rfl | exact at_map (by omega) | exact atI_last _ _ | ((refine' at_of ?ae ?ah); (case ah => assumption); (case ae => omega))))
  | ((with_reducible refine' w_ixT ?hh ?ha ?_); (case hh => walk_at "hp"); (case ha => first | exact rfl | exact at_map (by omega) | exact atI_last _ _ | ((refine' at_of ?ae ?ah); (case ah => assumption); (case ae => omega))))
  | ((with_reducible refine' w_cat ?hh ?hh2 ?hz ?_); (case hh => walk_at "hp"); (case hh2 => walk_at "hp"))
  | ((with_reducible refine' w_setL ?hh ?ha ?_); (case hh => walk_at "hp"); (case ha => exact rfl))
  | (with_reducible refine' w_test ?_)
  | (with_reducible refine' w_tB ?_)
  | (with_reducible refine' w_bl ?_)
  | (with_reducible refine' w_and ?_)
  | (with_reducible refine' w_or ?_)
  | (with_reducible refine' w_not ?_)
  | (with_reducible refine' w_andV ?_)
  | (with_reducible refine' w_orV ?_)
  | (with_reducible refine' w_notV ?_)
  | (with_reducible refine' w_ifE ?_)
  | (with_reducible refine' w_for ?_)
  | ((with_reducible refine' w_nin ?hh ?_); (case hh => walk_at "hp"))
  | ((with_reducible refine' w_sorted ?hh ?_); (case hh => walk_at "hp"))
  | (with_reducible refine' w_tsadd ?_)
  | ((with_reducible refine' w_tsadd1 ?hh ?_); (case hh => walk_at "hp"))
  | ((with_reducible refine' w_sadd ?hh ?hr ?_); (case hh => walk_at "hp"); (case hr => omega))
  | (with_reducible refine' w_iZ ?_)
  | ((with_reducible refine' w_iZ1 ?hh ?hh2 ?_); (case hh => walk_at "hp"); (case hh2 => walk_at "hp"))
  | (with_reducible refine' w_iS ?_)
  | (with_reducible refine' w_iS1 ?_)
  | ((with_reducible refine' w_gtup ?hh ?hn ?_); (case hh => walk_at "hp"); (case hn => exact rfl))
  | (with_reducible refine' w_gcons ?_)
  | (with_reducible refine' w_gnil ?_)
  | (with_reducible refine' w_js ?_)
  | (with_reducible refine' w_jsn ?_)
  | ((with_reducible refine' w_js1 ?hl ?_); (case hl => decide +kernel))
  | (with_reducible refine' w_fmt ?_)
  | ((with_reducible refine' w_fmt1 ?hl ?_); (case hl => decide +kernel))
  | (with_reducible refine' w_callS ?_)
  | ((with_reducible refine' w_truL ?hh ?_); (case hh => walk_at "hp"))
  | (with_reducible refine' w_lc ?_)
  | (with_reducible refine' w_yes ?_)
  | ((with_reducible refine' w_wipe ?he ?_); (case he => exact rfl))
  | (with_reducible refine' w_iL ?_)
  | (with_reducible refine' w_iT ?_)
  | (with_reducible refine' w_iR ?_)
  | ((with_reducible refine' w_iL1 ?hh ?_); (case hh => walk_at "hp"))
  | ((with_reducible refine' w_iT1 ?hh ?_); (case hh => walk_at "hp"))
  | ((with_reducible refine' w_iR1 ?h1 ?h2 ?_); (case h1 => omega); (case h2 => omega))
  | ((with_reducible refine' w_aug ?hv ?_); (case hv => exact rfl))
  | (with_reducible refine' w_ipI ?_)
  | ((with_reducible refine' w_isi ?hy ?hk ?_); (case hy => walk_at "ty"); (case hk => walk_at "kit"))
  | ((with_reducible refine' w_int ?_))
  | ((with_reducible refine' w_intB ?_))
  | ((with_reducible refine' w_abs ?_))
  | ((with_reducible refine' w_lenL ?hh ?_); (case hh => walk_at "hp"))
  | ((with_reducible refine' w_lenT ?hh ?_); (case hh => walk_at "hp"))
  | ((with_reducible refine' w_tupL ?hh ?_); (case hh => walk_at "hp"))
  | ((with_reducible refine' w_tupT ?hh ?_); (case hh => walk_at "hp"))
  | ((with_reducible refine' w_catA ?hh ?hh2 ?hz ?_); (case hh => walk_at "hp"); (case hh2 => walk_at "hp"); (case hz => walk_at "len"))
  | ((with_reducible refine' w_repB ?hh ?hne ?h2 ?h3 ?hz ?_); (case hh => walk_at "hp"); (case hne => simp); (case h2 => omega); (case h3 => omega); (case hz => exact Nat.le_of_ble_eq_true rfl))
  | ((with_reducible refine' w_eqN ?hh ?hh2 ?n1 ?n2 ?_); (case hh => walk_at "hp"); (case hh2 => walk_at "hp"); (case n1 => walk_at "nd"); (case n2 => walk_at "nd"))
  | ((with_reducible refine' w_neN ?hh ?hh2 ?n1 ?n2 ?_); (case hh => walk_at "hp"); (case hh2 => walk_at "hp"); (case n1 => walk_at "nd"); (case n2 => walk_at "nd"))
  | ((with_reducible refine' w_eqL ?hh ?hh2 ?n1 ?n2 ?_); (case hh => walk_at "hp"); (case hh2 => walk_at "hp"); (case n1 => walk_at "nd"); (case n2 => walk_at "nd"))
  | ((with_reducible refine' w_neL ?hh ?hh2 ?n1 ?n2 ?_); (case hh => walk_at "hp"); (case hh2 => walk_at "hp"); (case n1 => walk_at "nd"); (case n2 => walk_at "nd"))
  | ((with_reducible refine' w_neNon ?hh2 ?n2 ?_); (case hh2 => walk_at "hp"); (case n2 => walk_at "nd"))
  | ((with_reducible refine' w_eqNon ?hh2 ?n2 ?_); (case hh2 => walk_at "hp"); (case n2 => walk_at "nd"))
  | ((with_reducible refine' w_slA ?hh ?_); (case hh => walk_at "hp"))
  | ((with_reducible refine' w_disp ?hz ?_); (case hz => exact sz_of (Nat.le_of_ble_eq_true rfl)))
  | ((with_reducible refine' w_tyL ?hh ?_); (case hh => walk_at "hp"))
  | (with_reducible refine' iteT ?_)
  | (with_reducible refine' iteF ?_)
  | (with_reducible refine' w_nT ?_)
  | (with_reducible refine' w_nn ?_)
  | (with_reducible refine' w_nnT ?_)
  | (with_reducible refine' w_nnR ?_)
  | (with_reducible refine' w_neG ?_)
  | (with_reducible refine' w_eqG ?_)
  | (with_reducible refine' w_neS ?_)
  | (with_reducible refine' w_eqS ?_)
  | (with_reducible refine' w_neSb ?_)
  | (with_reducible refine' w_eqSb ?_)
  | (with_reducible refine' w_deIS ?_)
  | (with_reducible refine' w_deSI ?_)
  | (with_reducible refine' w_deISn ?_)
  | ((with_reducible refine' w_deST ?he ?_); (case he => decide +kernel))
  | ((with_reducible refine' w_deSF ?he ?_); (case he => decide +kernel))
  | ((with_reducible refine' w_deSTn ?he ?_); (case he => decide +kernel))
  | ((with_reducible refine' w_deSFn ?he ?_); (case he => decide +kernel))
  | (with_reducible refine' w_nF ?_)
  | dsimp only [Bool.not_true, Bool.not_false])
local macro_rules | `(tactic| walk_at "ty") => `(tactic| first
  | exact .base (.int _) | exact .base (.str _) | exact .base (.bl _) | exact .base .non
  | ((refine' tyx_t ?hq); (case hq => walk_at "hp")) | ((refine' tyx_l ?hq); (case hq => walk_at "hp")) | ((refine' .base (.tup ?hq)); (case hq => walk_at "hp")) | assumption)
local macro_rules | `(tactic| walk_at "go") => `(tactic| repeat walk_at "go1")
local macro_rules | `(tactic| walk_at "st") => `(tactic| try dsimp only [cxOf, Cx.nox, Cx.wish])
local macro_rules | `(tactic| walk_at "kit") => `(tactic| with_reducible first | exact kit_int_int | exact kit_int_str | exact kit_int_bool | exact kit_int_tuple | exact kit_int_list | exact kit_str_int | exact kit_str_str | exact kit_str_bool | exact kit_str_tuple | exact kit_str_list | exact kit_bool_int | exact kit_bool_str | exact kit_bool_bool | exact kit_bool_tuple | exact kit_bool_list | exact kit_NoneType_int | exact kit_NoneType_str | exact kit_NoneType_bool | exact kit_NoneType_tuple | exact kit_NoneType_list | exact kit_list_int | exact kit_list_str | exact kit_list_bool | exact kit_list_tuple | exact kit_list_list | exact kit_tuple_int | exact kit_tuple_str | exact kit_tuple_bool | exact kit_tuple_tuple | exact kit_tuple_list)
local macro_rules | `(tactic| walk_at "nd") => `(tactic| first
  | assumption
  | exact Tm.nds _
  | exact Nds.nil
  | exact Nds.ofInts _
  | ((refine' Nds.cons ?na ?nb); (case na => first | exact Nds.I _ | exact Nds.L | exact Nds.A); (case nb => walk_at "nd"))
  | ((refine' Nds.app ?na ?nb); (case na => walk_at "nd"); (case nb => walk_at "nd"))
  | ((refine' Nds.rep ?na _); (case na => walk_at "nd")))
local macro_rules | `(tactic| walk_at "len") => `(tactic| first
  | exact ly_sz (by omega)
  | ((simp only [List.length_append, List.length_cons, List.length_nil, List.length_map, PyProof.Rows.lm_len_rep_flat]); exact ly_sz (by omega)))
def topS (i : Nat) : Stmt := PySem.Challenge.pw_lydite_k06_whole_putting.main.body.getD i (.Pass ⟨0, 0, 0, 0⟩)
abbrev s_law_stream : Stmt := topS 14
abbrev N_law_stream : List Str := ["script", "mixed", "cell"]
theorem sc_law_stream : FnScope ["script", "mixed", "cell"] ["script"] (defScope s_law_stream) := ⟨rfl, rfl, rfl, by decide +kernel, rfl, by decide +kernel, by decide +kernel⟩
abbrev s_law_draw : Stmt := topS 15
abbrev N_law_draw : List Str := ["stream", "many", "value"]
theorem sc_law_draw : FnScope ["stream", "many", "value"] ["stream", "many"] (defScope s_law_draw) := ⟨rfl, rfl, rfl, by decide +kernel, rfl, by decide +kernel, by decide +kernel⟩
abbrev s_law_term : Stmt := topS 16
abbrev N_law_term : List Str := ["stream", "size", "loose", "nodes", "waiting", "depth", "room", "pick"]
theorem sc_law_term : FnScope ["stream", "size", "loose", "nodes", "waiting", "depth", "room", "pick"] ["stream", "size", "loose"] (defScope s_law_term) := ⟨rfl, rfl, rfl, by decide +kernel, rfl, by decide +kernel, by decide +kernel⟩
abbrev s_check_size : Stmt := topS 6
abbrev N_check_size : List Str := ["size"]
theorem sc_check_size : FnScope ["size"] ["size"] (defScope s_check_size) := ⟨rfl, rfl, rfl, by decide +kernel, rfl, by decide +kernel, by decide +kernel⟩
abbrev s_checked : Stmt := topS 7
abbrev N_checked : List Str := ["term", "node"]
theorem sc_checked : FnScope ["term", "node"] ["term"] (defScope s_checked) := ⟨rfl, rfl, rfl, by decide +kernel, rfl, by decide +kernel, by decide +kernel⟩
abbrev s_depths : Stmt := topS 8
abbrev N_depths : List Str := ["term", "found", "pending", "node", "depth"]
theorem sc_depths : FnScope ["term", "found", "pending", "node", "depth"] ["term"] (defScope s_depths) := ⟨rfl, rfl, rfl, by decide +kernel, rfl, by decide +kernel, by decide +kernel⟩
abbrev s_stands_free : Stmt := topS 9
abbrev N_stands_free : List Str := ["node", "depth"]
theorem sc_stands_free : FnScope ["node", "depth"] ["node", "depth"] (defScope s_stands_free) := ⟨rfl, rfl, rfl, by decide +kernel, rfl, by decide +kernel, by decide +kernel⟩
abbrev s_lifted_nodes : Stmt := topS 10
abbrev N_lifted_nodes : List Str := ["term", "count", "nodes", "node", "depth"]
theorem sc_lifted_nodes : FnScope ["term", "count", "nodes", "node", "depth"] ["term", "count"] (defScope s_lifted_nodes) := ⟨rfl, rfl, rfl, by decide +kernel, rfl, by decide +kernel, by decide +kernel⟩
abbrev s_lift : Stmt := topS 11
abbrev N_lift : List Str := ["term", "count"]
theorem sc_lift : FnScope ["term", "count"] ["term", "count"] (defScope s_lift) := ⟨rfl, rfl, rfl, by decide +kernel, rfl, by decide +kernel, by decide +kernel⟩
abbrev s_put : Stmt := topS 12
abbrev N_put : List Str := ["term", "value", "nodes", "node", "depth"]
theorem sc_put : FnScope ["term", "value", "nodes", "node", "depth"] ["term", "value"] (defScope s_put) := ⟨rfl, rfl, rfl, by decide +kernel, rfl, by decide +kernel, by decide +kernel⟩
abbrev s_law_nest : Stmt := topS 17
abbrev N_law_nest : List Str := ["term", "at", "scope", "count", "node", "mark", "inner", "end", "left", "middle", "right"]
theorem sc_law_nest : FnScope ["term", "at", "scope", "count", "node", "mark", "inner", "end", "left", "middle", "right"] ["term", "at", "scope", "count"] (defScope s_law_nest) := ⟨rfl, rfl, rfl, by decide +kernel, rfl, by decide +kernel, by decide +kernel⟩
abbrev s_law_named_put : Stmt := topS 18
abbrev N_law_named_put : List Str := ["tree", "value"]
theorem sc_law_named_put : FnScope ["tree", "value"] ["tree", "value"] (defScope s_law_named_put) := ⟨rfl, rfl, rfl, by decide +kernel, rfl, by decide +kernel, by decide +kernel⟩
abbrev s_law_flat : Stmt := topS 19
abbrev N_law_flat : List Str := ["tree", "scope", "found", "k"]
theorem sc_law_flat : FnScope ["tree", "scope", "found", "k"] ["tree", "scope"] (defScope s_law_flat) := ⟨rfl, rfl, rfl, by decide +kernel, rfl, by decide +kernel, by decide +kernel⟩
abbrev s_law : Stmt := topS 20
abbrev N_law : List Str := ["script", "stream", "one", "two", "three", "count", "left", "right", "below"]
theorem sc_law : FnScope ["script", "stream", "one", "two", "three", "count", "left", "right", "below"] ["script"] (defScope s_law) := ⟨rfl, rfl, rfl, by decide +kernel, rfl, by decide +kernel, by decide +kernel⟩
structure Txt (K : PySem.W.Frag) (mg : Str → Option Value) (tk : Nat → Tok) (cl : Nat → Addr) : Prop where
  n_int : mg "int" = none
  n_list : mg "list" = none
  n_len : mg "len" = none
  n_abs : mg "abs" = none
  n_isinstance : mg "isinstance" = none
  n_tuple : mg "tuple" = none
  n_range : mg "range" = none
  n_zip : mg "zip" = none
  g_MOST_NODES : mg "MOST_NODES" = some (.int 1000 (tk 0))
  g_MOST_VARIABLE : mg "MOST_VARIABLE" = some (.int 1000000 (tk 1))
  n_ValueError : mg "ValueError" = none
  g_TooLarge : mg "TooLarge" = some (.ref (cl 1))
  x_TooLarge : PySem.W.excIn K (cl 1) [.type "ValueError", .type "Exception", .type "BaseException", .type "object"] "ValueError.__new__" = true
  k_TooLarge : PySem.W.keepIn K (.ref (cl 1)) = true
  b_TooLarge : PySem.W.subIn K (.ref (cl 1)) (.type "BaseException") = some true
  t_TooLarge : PySem.W.typeIn K (.ref (cl 1)) = some (.type "type")
  s1_TooLarge : PySem.W.subIn K (.ref (cl 1)) (.ref (cl 1)) = some true
  h1_TooLarge : PySem.W.findIn K (.ref (cl 1)) "__getattribute__" = some (some (.builtin "BaseException.__getattribute__"))
  h2_TooLarge : PySem.W.findIn K (.ref (cl 1)) "__getattr__" = some none
  h3_TooLarge : PySem.W.hasDictIn K (cl 1) = true
  h4_TooLarge : PySem.W.findIn K (.ref (cl 1)) "__class__" = some (some (.builtin "object.__class__"))
  h5_TooLarge : PySem.W.specialIn K (.builtin "object.__class__") "__get__" = some (some (.builtin "getset_descriptor.__get__"))
  h6_TooLarge : PySem.W.takesIn K (.builtin "object.__class__") = some true
  h7_TooLarge : PySem.W.mroIn K (cl 1) (.type "object") = some true
theorem Txt.e_TooLarge {K : PySem.W.Frag} {mg : Str → Option Value} {tk : Nat → Tok} {cl : Nat → Addr} (T : Txt K mg tk cl) : PySem.W.exmOne K (.ref (cl 1)) (.ref (cl 1)) = some true := exm_mk T.b_TooLarge T.h3_TooLarge T.t_TooLarge T.s1_TooLarge
section
variable {P : Program} {w : World} {K : PySem.W.Frag} {mg : Str → Option Value} {base : Heap} {tk : Nat → Tok} {cl : Nat → Addr}
/-! ### the stream's start, a draw -/
def spStream (K : PySem.W.Frag) : Sp := fun vs H Q _ => ∃ (a : Addr) (ns : List Int), vs = [.ref a] ∧ SqL K H a (ns.map V.int) ∧ ns.length ≤ 63 ∧ ∀ H' p l, Ex H H' → H p = none → StAt H' p ⟨l, ns, 0, 0, mixOf ns⟩ → Q (.ref p) H'
theorem ok_stream {f : Addr} {fd : FuncData} {k : Nat} (F : Fun K "_law_stream" "_law_stream" s_law_stream f fd) (T : Txt K mg tk cl) : FnOk P w K mg base CX0 (k + 1) f fd ["script"] (spStream K) := by
  refine F.ok sc_law_stream (fun vs H Q E h => ?_) (fun cdv A outer s H vs Q E hr h => ?_)
  · obtain ⟨a, ns, rfl, _⟩ := h
    rfl
  · obtain ⟨a, ns, rfl, hS, hlen, q⟩ := h
    refine ⟨_, (pss_cons (ps_set (i := 1) sc_law_stream.nd rfl (.inl rfl) pe_int) (pss_cons (ps_for PassesOwn.never rfl (pi_list (pv 0)) (pg_name (i := 2) sc_law_stream.nd rfl (.inl rfl)) (pss_one (ps_set (i := 1) sc_law_stream.nd rfl (.inl rfl) (pe_op op_modN (pe_callTy call_int1 (by rfl) T.n_int (by decide +kernel) (pa_cons (pe_op op_add (pe_op op_add (pe_op op_mul (pv 1) pe_int) (pe_op op_modN (pe_callTy call_int1 (by rfl) T.n_int (by decide +kernel) (pa_cons (pv 2) pa_nil)) pe_int)) pe_int) pa_nil)) pe_int)))) (pss_one (ps_ret (pe_lst (pa_cons (pe_callTy call_list_of (by rfl) T.n_list (by decide +kernel) (pa_cons (pv 0) pa_nil)) (pa_cons pe_int (pa_cons pe_int (pa_cons (pv 1) pa_nil))))))))), ?_⟩
    refine sl_of (σ2 := [some _, none, none]) rfl ?_
    walk_at "st"
    walk_at "go"
    refine for_list (K := K) (a := a) (xs := ns.map V.int) (fun i σ H' => H' = H ∧ ∃ y, σ = [some (.ref a), some (.int (mixOf (ns.take i))), y]) ⟨rfl, none, rfl⟩ (fun i σ H' _ e => by rw [e.1]; exact hS) ?_ ?_
    · rintro i x σ H' hi ⟨rfl, y, rfl⟩
      obtain ⟨z, hz, rfl⟩ := get_int hi
      walk_at "go"
      exact ⟨rfl, _, by rw [mixOf_take hz]; rfl⟩
    · rintro σ H' ⟨rfl, y, rfl⟩
      walk_at "go"
      intro l hl
      walk_at "go"
      intro p hp
      rw [List.take_of_length_le (by simp)]
      refine q _ _ l ?_ ?_ ⟨?_, ?_, ?_⟩
      · walk_at "ex"
      · walk_at "free"
      · walk_at "ne"
      · walk_at "hp"
      · walk_at "hp"
def spDraw : Sp := fun vs H Q _ => ∃ (s : Addr) (m : Stm) (n : Int), vs = [.ref s, .int n] ∧ StAt H s m ∧ 0 < n ∧ n < 1073741824 ∧ ∀ H', Fr s H H' → StAt H' s (m.next n) → Q (.int (m.val n)) H'
theorem ok_draw {f : Addr} {fd : FuncData} {k : Nat} (F : Fun K "_law_draw" "_law_draw" s_law_draw f fd) (T : Txt K mg tk cl) : FnOk P w K mg base CX0 (k + 1) f fd ["stream", "many"] spDraw := by
  refine F.ok sc_law_draw (fun vs H Q E h => ?_) (fun cdv A outer s H vs Q E hr h => ?_)
  · obtain ⟨a, m, n, rfl, _⟩ := h
    rfl
  · obtain ⟨a, m, n, rfl, ⟨hla, ha, hl⟩, n0, n1, q⟩ := h
    refine ⟨_, (pss_cut (ps_if (PW.pt (pw_and (pt_cmpR op_eq (pe_ix ix_list (pv 0) pe_int (fun _ _ => rfl)) pe_int (nomark _)) (pw_and1 (pt_cmpR op_lt (pe_ix ix_list (pv 0) pe_int (fun _ _ => rfl)) (pe_callB call_len_seq (by rfl) T.n_len (by decide +kernel) (pa_cons (pe_ix ix_list (pv 0) pe_int (fun _ _ => rfl)) pa_nil)) (nomark _))))) (pss_cons (ps_asg (pe_callB call_abs (by rfl) T.n_abs (by decide +kernel) (pa_cons (pe_callTy call_int1 (by rfl) T.n_int (by decide +kernel) (pa_cons (pe_ix ix_list (pe_ix ix_list (pv 0) pe_int (fun _ _ => rfl)) (pe_ix ix_list (pv 0) pe_int (fun _ _ => rfl)) (fun _ _ => rfl)) pa_nil)) pa_nil)) (pg_sub (pv 0) pe_int set_list)) (pss_one (ps_asg (pe_op op_add (pe_ix ix_list (pv 0) pe_int (fun _ _ => rfl)) pe_int) (pg_sub (pv 0) pe_int set_list)))) pss_nil) (pss_cons (ps_if (pt_cmpR op_eq (pe_ix ix_list (pv 0) pe_int (fun _ _ => rfl)) pe_int (nomark _)) (pss_cons (ps_asg (pe_op op_modN (pe_callTy call_int1 (by rfl) T.n_int (by decide +kernel) (pa_cons (pe_op op_add (pe_op op_mul (pe_ix ix_list (pv 0) pe_int (fun _ _ => rfl)) pe_int) pe_int) pa_nil)) pe_int) (pg_sub (pv 0) pe_int set_list)) (pss_one (ps_ret (pe_op op_modN (pe_callTy call_int1 (by rfl) T.n_int (by decide +kernel) (pa_cons (pe_op op_fdivN (pe_ix ix_list (pv 0) pe_int (fun _ _ => rfl)) pe_int) pa_nil)) (pv 1))))) pss_nil) (pss_cons (ps_set (i := 2) sc_law_draw.nd rfl (.inl rfl) (pe_op op_modN (pe_callTy call_int1 (by rfl) T.n_int (by decide +kernel) (pa_cons (pe_ix ix_list (pv 0) pe_int (fun _ _ => rfl)) pa_nil)) (pv 1))) (pss_cons (ps_asg (pe_op op_fdivN (pe_ix ix_list (pv 0) pe_int (fun _ _ => rfl)) (pv 1)) (pg_sub (pv 0) pe_int set_list)) (pss_one (ps_ret (pv 2))))))), ?_⟩
    refine sl_of (σ2 := [some _, some _, none]) rfl ?_
    walk_at "st"
    walk_at "go"
    refine w_cut (M := fun σ' H' => σ' = [some (.ref a), some (.int n), none] ∧ Fr a H H' ∧ H' a = some (.lst [.ref m.home, .int m.take.cur, .int m.take.pos, .int m.take.mix]) ∧ H' m.home = some (.lst (m.cells.map V.int))) ?_ ?_
    · walk_at "go"
      refine w_brI (fun hc => ?_) (fun hc => ?_)
      · walk_at "go"
        refine w_br (fun hp => ?_) (fun hp => ?_)
        · rw [List.length_map] at hp
          have hp2 : m.pos < m.cells.length := by omega
          have e : m.take = { m with cur := (if m.cells.getD m.pos 0 < 0 then -(m.cells.getD m.pos 0) else m.cells.getD m.pos 0), pos := m.pos + 1 } := if_pos ⟨hc, hp2⟩
          walk_at "go"
          refine ⟨rfl, ?_, ?_, ?_⟩
          · walk_at "fr"
          · rw [e]
            exact upd_same
          · walk_at "hp"
        · rw [List.length_map] at hp
          have e : m.take = m := if_neg (fun z => hp (by omega))
          walk_at "go"
          rw [e]
          exact ⟨rfl, Fr.refl _ _, ha, hl⟩
      · have e : m.take = m := if_neg (fun z => hc z.1)
        walk_at "go"
        rw [e]
        exact ⟨rfl, Fr.refl _ _, ha, hl⟩
    · rintro σ' H' ⟨rfl, fr, ea, el⟩
      walk_at "go"
      refine w_brI (fun hc => ?_) (fun hc => ?_)
      · walk_at "go"
        have e1 : m.next n = m.take.turn := if_pos hc
        have e2 : m.val n = (m.take.turn.mix.fdiv 97).fmod n := if_pos hc
        rw [e1, e2] at q
        refine q _ ?_ ⟨?_, ?_, ?_⟩
        · walk_at "fr"
        · show m.take.home ≠ a
          rw [m.take_home]
          exact hla
        · show _ = some (HO.lst [.ref m.take.home, _, _, _])
          rw [upd_same, m.take_home]
          rfl
        · show _ = some (HO.lst (List.map V.int m.take.cells))
          rw [m.take_cells]
          show upd _ a _ m.take.home = _
          rw [m.take_home]
          walk_at "hp"
      · walk_at "go"
        have e1 : m.next n = { m.take with cur := m.take.cur.fdiv n } := if_neg hc
        have e2 : m.val n = m.take.cur.fmod n := if_neg hc
        rw [e1, e2] at q
        refine q _ ?_ ⟨?_, ?_, ?_⟩
        · walk_at "fr"
        · show m.take.home ≠ a
          rw [m.take_home]
          exact hla
        · show _ = some (HO.lst [.ref m.take.home, _, _, _])
          rw [upd_same, m.take_home]
          rfl
        · show _ = some (HO.lst (List.map V.int m.take.cells))
          rw [m.take_cells]
          show upd _ a _ m.take.home = _
          rw [m.take_home]
          walk_at "hp"
/-! ### a drawn term -/
def spTerm : Sp := fun vs H Q _ => ∃ (s : Addr) (m : Stm) (size loose : Nat), vs = [.ref s, .int size, .int loose] ∧ StAt H s m ∧ 1 ≤ size ∧ size ≤ 1000 ∧ loose ≤ 1000 ∧
  ∀ H' p m' (t : Tm), Fr s H H' → StAt H' s m' → Fol m m' → H p = none → H' p = some (.tup t.enc) → t.wf loose → t.enc.length ≤ 2 * size → (1 ≤ loose → t.enc.length ≤ size) → Q (.ref p) H'
def zeros (ds : List Nat) : Nat := (ds.filter (· == 0)).length
theorem zeros_app (a b : List Nat) : zeros (a ++ b) = zeros a + zeros b := by
  unfold zeros
  rw [List.filter_append, List.length_append]
theorem zeros_le (a : List Nat) : zeros a ≤ a.length := List.length_filter_le _ _
theorem zeros_one (d : Nat) : zeros [d] = if d = 0 then 1 else 0 := by
  unfold zeros
  by_cases h : d = 0
  · simp [h]
  · simp [h]
theorem pop_last {ds : List Nat} (h : ds ≠ []) : ∃ r d, ds = r ++ [d] := ⟨ds.dropLast, ds.getLast h, (List.dropLast_concat_getLast h).symm⟩
def TI (a nl wl : Addr) (H : Hp) (size loose : Nat) (m : Stm) (n : Nat) (σ : L2.St) (H' : Hp) : Prop := ∃ (m' : Stm) (nodes : List V) (ds : List Nat) (y1 y2 y3 : Option V), σ = [some (.ref a), some (.int size), some (.int loose), some (.ref nl), some (.ref wl), y1, y2, y3] ∧ Fr a H H' ∧ StAt H' a m' ∧ Fol m m' ∧ H' nl = some (.lst nodes) ∧ H' wl = some (.lst (ds.map fun (d : Nat) => V.int d)) ∧
  Comp loose nodes ds ∧ (nodes.length + ds.length + zeros ds ≤ 2 * size ∧ (1 ≤ loose → nodes.length + ds.length ≤ size)) ∧ (∀ d ∈ ds, d ≤ nodes.length) ∧ nodes.length = n
theorem ok_term {f : Addr} {fd : FuncData} (F : Fun K "_law_term" "_law_term" s_law_term f fd) (T : Txt K mg tk cl)
    (D1 : Def P w K mg base CX0 1 "_law_draw" ["stream", "many"] spDraw) : FnOk P w K mg base CX0 2 f fd ["stream", "size", "loose"] spTerm := by
  obtain ⟨f1, fd1, g_law_draw, kp_law_draw, b_law_draw, G_law_draw⟩ := D1
  refine F.ok sc_law_term (fun vs H Q E h => ?_) (fun cdv A outer s H vs Q E hr h => ?_)
  · obtain ⟨a, m, n1, n2, rfl, _⟩ := h
    rfl
  · obtain ⟨a, m, size, loose, rfl, hst, hs1, hs2, hlo, q⟩ := h
    refine ⟨_, (pss_cons (ps_set (i := 3) sc_law_term.nd rfl (.inl rfl) (pe_lst pa_nil)) (pss_cons (ps_set (i := 4) sc_law_term.nd rfl (.inl rfl) (pe_lst (pa_cons pe_int pa_nil))) (pss_cons (ps_while PassesOwn.never (pt_truth (pv 4) (by intro _; rfl)) (pss_cons (ps_set (i := 5) sc_law_term.nd rfl (.inl rfl) (pe_bm0 PySem.F.plainAttrs_list PySem.F.slot_list_pop PySem.F.type_list_pop mt_pop (pv 4))) (pss_cons (ps_set (i := 6) sc_law_term.nd rfl (.inl rfl) (pe_op op_sub (pe_op op_sub (pe_op op_sub (pv 1) (pe_callB call_len_seq (by rfl) T.n_len (by decide +kernel) (pa_cons (pv 3) pa_nil))) (pe_callB call_len_seq (by rfl) T.n_len (by decide +kernel) (pa_cons (pv 4) pa_nil))) pe_int)) (pss_cons (ps_set (i := 7) sc_law_term.nd rfl (.inl rfl) (pe_call G_law_draw (hr.mono (by decide)) (by rfl) g_law_draw kp_law_draw b_law_draw .nil pass0 (pa_cons (pv 0) (pa_cons pe_int pa_nil)))) (pss_one (ps_if (PW.pt (pw_and (pt_cmpR op_gt (pv 6) pe_int (nomark _)) (pw_and1 (pt_cmpR op_lt (pv 7) pe_int (nomark _))))) (pss_cons (ps_expr (pe_bm PySem.F.plainAttrs_list PySem.F.slot_list_append PySem.F.type_list_append mt_append (pv 3) (pa_cons pe_str pa_nil))) (pss_cons (ps_expr (pe_bm PySem.F.plainAttrs_list PySem.F.slot_list_append PySem.F.type_list_append mt_append (pv 4) (pa_cons (pv 5) pa_nil))) (pss_one (ps_expr (pe_bm PySem.F.plainAttrs_list PySem.F.slot_list_append PySem.F.type_list_append mt_append (pv 4) (pa_cons (pv 5) pa_nil)))))) (pss_one (ps_if (PW.pt (pw_or (PW.pt (pw_and (pt_cmpR op_gt (pv 6) pe_int (nomark _)) (pw_and1 (pt_cmpR op_eq (pv 7) pe_int (nomark _))))) (pw_or1 (pt_cmpR op_eq (pe_op op_add (pv 5) (pv 2)) pe_int (nomark _))))) (pss_cons (ps_expr (pe_bm PySem.F.plainAttrs_list PySem.F.slot_list_append PySem.F.type_list_append mt_append (pv 3) (pa_cons pe_str pa_nil))) (pss_one (ps_expr (pe_bm PySem.F.plainAttrs_list PySem.F.slot_list_append PySem.F.type_list_append mt_append (pv 4) (pa_cons (pe_op op_add (pv 5) pe_int) pa_nil))))) (pss_one (ps_expr (pe_bm PySem.F.plainAttrs_list PySem.F.slot_list_append PySem.F.type_list_append mt_append (pv 3) (pa_cons (pe_call G_law_draw (hr.mono (by decide)) (by rfl) g_law_draw kp_law_draw b_law_draw .nil pass0 (pa_cons (pv 0) (pa_cons (pe_op op_add (pv 5) (pv 2)) pa_nil))) pa_nil)))))))))))) (pss_one (ps_ret (pe_callTy call_tuple_of (by rfl) T.n_tuple (by decide +kernel) (pa_cons (pv 3) pa_nil))))))), ?_⟩
    refine sl_of (σ2 := [some _, some _, some _, none, none, none, none, none]) rfl ?_
    walk_at "st"
    walk_at "go"
    intro nl hnl
    walk_at "go"
    intro wl hwl
    obtain ⟨hna, hnh⟩ := hst.ne hnl
    obtain ⟨hwa, hwh⟩ := (hst.new (o := .lst []) hnl).ne hwl
    have hwn : wl ≠ nl := (ne_of_none upd_same hwl).symm
    have hwl0 : H wl = none := by
      rw [upd_ne hwn] at hwl
      exact hwl
    walk_at "go"
    refine w_while (fun k σ' H' => ∃ n, TI a nl wl H size loose m n σ' H' ∧ k = 2 * size - n) (2 * size) ⟨0, ⟨m, [], [0], none, none, none, rfl, by walk_at "fr", (hst.new hnl).new hwl, Fol.refl _, by walk_at "hp", upd_same, Comp.start _, ?_, ?_, rfl⟩, rfl⟩ ?_
    · exact ⟨by simp [zeros]; omega, fun _ => by simp; omega⟩
    · simp
    · rintro k σ H1 ⟨n, ⟨m1, nodes, ds, y1, y2, y3, rfl, fr1, st1, fol1, hn1, hw1, hcomp, ⟨hphi, hlo1⟩, hd, hlen⟩, rfl⟩
      have hnh1 : ∀ {m2 : Stm}, Fol m m2 → nl ≠ m2.home := fun {m2} h => by
        rw [h.1]
        exact hnh
      have hwh1 : ∀ {m2 : Stm}, Fol m m2 → wl ≠ m2.home := fun {m2} h => by
        rw [h.1]
        exact hwh
      walk_at "go"
      by_cases hemp : ds = []
      · subst hemp
        obtain ⟨t, ht1, ht2⟩ := hcomp.done
        refine iteF ?_
        walk_at "go"
        intro p hp
        refine q _ p m1 t ?_ (st1.new hp) fol1 ?_ ?_ ht1 ?_ (fun h1 => by rw [ht2]; have := hlo1 h1; simp at this; omega)
        · walk_at "fr"
        · refine Fr.free fr1 hst.2.1 hp ?_
          exact (st1.ne hp).1
        · rw [ht2]
          exact upd_same
        · rw [ht2]
          simp at hphi
          omega
      · obtain ⟨r, d, rfl⟩ := pop_last hemp
        rw [List.map_append] at hw1
        have he : (!(List.map (fun (d : Nat) => V.int d) (r ++ [d])).isEmpty) = true := by simp
        rw [he]
        refine iteT ⟨TI a nl wl H size loose m (n + 1), fun σ' H' h => ⟨2 * size - (n + 1), ?_, n + 1, h, rfl⟩, ?_⟩
        · simp at hphi
          omega
        have hdn : d ≤ nodes.length := hd d (by simp)
        have hdr : ∀ x ∈ r, x ≤ nodes.length := fun x hx => hd x (by simp [hx])
        have hphi2 : nodes.length + r.length + 1 + zeros r + (if d = 0 then 1 else 0) ≤ 2 * size := by
          rw [List.length_append, zeros_app, zeros_one] at hphi
          simp at hphi
          omega
        have hlo2 : 1 ≤ loose → nodes.length + r.length + 1 ≤ size := fun h1 => by
          have := hlo1 h1
          rw [List.length_append, List.length_singleton] at this
          omega
        have hzr := zeros_le r
        have hw1b : H1 wl = some (.lst (List.map (fun (d : Nat) => V.int d) r ++ [V.int d])) := hw1
        walk_at "go"
        have st2 := st1.put (o := .lst (List.map (fun (d : Nat) => V.int d) r)) hwa (hwh1 fol1)
        have hn2 : upd H1 wl (.lst (List.map (fun (d : Nat) => V.int d) r)) nl = some (.lst nodes) := by walk_at "hp"
        refine ⟨a, m1, 5, rfl, st2, by decide, by decide, fun H2 fr2 st3 => ?_⟩
        have fol2 := fol1.step 5
        have hn3 : H2 nl = some (.lst nodes) := by walk_at "hp"
        have hw3 : H2 wl = some (.lst (List.map (fun (d : Nat) => V.int d) r)) := by walk_at "hp"
        have fr3 : Fr a H H2 := (Fr.mut fr1 hwl0).trans fr2
        have hw3l : (List.map (fun (d : Nat) => V.int d) r).length = r.length := List.length_map _
        generalize m1.val 5 = pick at *
        generalize m1.next 5 = m2 at *
        have toApp : ∀ {y1 y2 y3 : Option V}, ((r.length + nodes.length + 2 : Nat) : Int) < size → TI a nl wl H size loose m (n + 1) [some (.ref a), some (.int size), some (.int loose), some (.ref nl), some (.ref wl), y1, y2, y3] (upd (upd (upd H2 nl (.lst (nodes ++ [V.str "app"]))) wl (.lst (List.map (fun (d : Nat) => V.int d) r ++ [V.int d]))) wl (.lst (List.map (fun (d : Nat) => V.int d) r ++ [V.int d] ++ [V.int d]))) := fun {y1 y2 y3} hroom => by
          refine ⟨m2, nodes ++ [.str "app"], r ++ [d] ++ [d], y1, y2, y3, rfl, ?_, ?_, fol2, ?_, ?_, hcomp.app, ?_, ?_, ?_⟩
          · walk_at "fr"
          · exact ((st3.put hna (hnh1 fol2)).put hwa (hwh1 fol2)).put hwa (hwh1 fol2)
          · walk_at "hp"
          · rw [upd_same]
            simp
          · refine ⟨?_, fun h1 => ?_⟩
            · rw [zeros_app, zeros_app, zeros_one]
              simp
              split <;> omega
            · simp only [List.length_append, List.length_singleton]
              omega
          · intro x hx
            simp at hx
            rw [List.length_append, List.length_singleton]
            rcases hx with hx | hx
            · have := hdr x hx
              omega
            · omega
          · rw [List.length_append, List.length_singleton, hlen]
        have toLam : ∀ {y1 y2 y3 : Option V}, (((r.length + nodes.length + 1 : Nat) : Int) < size ∨ (d = 0 ∧ loose = 0)) → TI a nl wl H size loose m (n + 1) [some (.ref a), some (.int size), some (.int loose), some (.ref nl), some (.ref wl), y1, y2, y3] (upd (upd H2 nl (.lst (nodes ++ [V.str "lam"]))) wl (.lst (List.map (fun (d : Nat) => V.int d) r ++ [V.int (d + 1)]))) := fun {y1 y2 y3} hroom => by
          refine ⟨m2, nodes ++ [.str "lam"], r ++ [d + 1], y1, y2, y3, rfl, ?_, ?_, fol2, ?_, ?_, hcomp.lam, ?_, ?_, ?_⟩
          · walk_at "fr"
          · exact (st3.put hna (hnh1 fol2)).put hwa (hwh1 fol2)
          · walk_at "hp"
          · rw [upd_same]
            simp
          · refine ⟨?_, fun h1 => ?_⟩
            · rw [zeros_app, zeros_one, if_neg (Nat.succ_ne_zero d)]
              simp
              rcases hroom with h | h
              · omega
              · rw [if_pos h.1] at hphi2
                omega
            · simp only [List.length_append, List.length_singleton]
              rcases hroom with h | h
              · omega
              · omega
          · intro x hx
            simp at hx
            rw [List.length_append, List.length_singleton]
            rcases hx with hx | hx
            · have := hdr x hx
              omega
            · omega
          · rw [List.length_append, List.length_singleton, hlen]
        have toVar : ∀ {y1 y2 y3 : Option V}, d + loose ≠ 0 → spDraw ([V.ref a, V.int ((d : Int) + (loose : Int))] ++ []) H2 (fun y H3 => rAppend (V.ref nl) [y] H3 fun _ H4 => TI a nl wl H size loose m (n + 1) [some (.ref a), some (.int size), some (.int loose), some (.ref nl), some (.ref wl), y1, y2, y3] H4) E0 := fun {y1 y2 y3} hne => by
          have hds : d ≤ 2 * size := by omega
          refine ⟨a, m2, _, rfl, st3, by omega, by omega, fun H3 fr4 st4 => ?_⟩
          have hv := m2.val_lt (n := (d : Int) + (loose : Int)) (by omega)
          have hn4 : H3 nl = some (.lst nodes) := by walk_at "hp"
          have hw4 : H3 wl = some (.lst (List.map (fun (d : Nat) => V.int d) r)) := by walk_at "hp"
          have fr5 := fr3.trans fr4
          walk_at "go"
          refine ⟨m2.next _, _, r, y1, y2, y3, rfl, Fr.mut fr5 hnl, st4.put hna (hnh1 (fol2.step _)), fol2.step _, upd_same, by walk_at "hp", ?_, ?_, ?_, ?_⟩
          · have := hcomp.var (n := (m2.val ((d : Int) + (loose : Int))).toNat) (by omega)
            rw [Int.toNat_of_nonneg hv.1] at this
            exact this
          · rw [List.length_append, List.length_singleton]
            exact ⟨by omega, fun h1 => by have := hlo2 h1; omega⟩
          · intro x hx
            have := hdr x hx
            rw [List.length_append, List.length_singleton]
            omega
          · rw [List.length_append, List.length_singleton, hlen]
        walk_at "go"
        rw [hw3l]
        refine w_br (fun c1 => ?_) (fun c1 => ?_)
        · walk_at "go"
          refine w_br (fun c2 => ?_) (fun c2 => ?_)
          · walk_at "go"
            exact toApp (by omega)
          · walk_at "go"
            refine w_br (fun c3 => ?_) (fun c3 => by omega)
            walk_at "go"
            refine w_brI (fun c4 => ?_) (fun c4 => ?_)
            · walk_at "go"
              exact toLam (.inl (by omega))
            · walk_at "go"
              refine w_brI (fun c5 => ?_) (fun c5 => ?_)
              · walk_at "go"
                exact toLam (.inr ⟨by omega, by omega⟩)
              · walk_at "go"
                exact toVar (by omega)
        · walk_at "go"
          refine w_br (fun c3 => ?_) (fun c3 => ?_)
          · walk_at "go"
            refine w_brI (fun c4 => ?_) (fun c4 => ?_)
            · walk_at "go"
              exact toLam (.inl (by omega))
            · walk_at "go"
              refine w_brI (fun c5 => ?_) (fun c5 => ?_)
              · walk_at "go"
                exact toLam (.inr ⟨by omega, by omega⟩)
              · walk_at "go"
                exact toVar (by omega)
          · walk_at "go"
            refine w_brI (fun c5 => ?_) (fun c5 => ?_)
            · walk_at "go"
              exact toLam (.inr ⟨by omega, by omega⟩)
            · walk_at "go"
              exact toVar (by omega)
/-! ### what is too large -/
def spSize (C : Addr) : Sp := fun vs H Q E => ∃ n : Int, vs = [.int n] ∧ (n ≤ 1000 → Q .non H) ∧ (¬ n ≤ 1000 → E (.ref C) none H)
theorem ok_check_size {f : Addr} {fd : FuncData} {k : Nat} (F : Fun K "check_size" "check_size" s_check_size f fd) (T : Txt K mg tk cl) : FnOk P w K mg base (L2.CX P w) (k + 1) f fd ["size"] (spSize (cl 1)) := by
  refine F.okX sc_check_size (fun vs H Q E h => ?_) (fun cdv A outer s H vs Q E hr h => ?_)
  · obtain ⟨n, rfl, _⟩ := h
    rfl
  · obtain ⟨n, rfl, q, x⟩ := h
    refine ⟨_, (pss_one (ps_if (pt_cmpR op_gt (pv 0) (pe_glob (v := .int 1000) rfl T.g_MOST_NODES ⟨_, rfl⟩) (nomark _)) (pss_one (ps_raise rfl (takes_of rfl rfl rfl rfl) (SkE.pmk_own1 PySem.F.excBase_ValueError T.x_TooLarge T.g_TooLarge T.k_TooLarge (raises_own T.b_TooLarge T.t_TooLarge) rfl (pe_joined (.cons pe_str (.cons (pe_fmt (pe_glob (v := .int 1000) rfl T.g_MOST_NODES ⟨_, rfl⟩)) (.cons pe_str .nil))))))) pss_nil)), ?_⟩
    refine sl_of (σ2 := [some _]) rfl ?_
    walk_at "st"
    walk_at "go"
    refine w_br (fun h1 => ?_) (fun h1 => ?_)
    · walk_at "go"
      exact x (by omega)
    · walk_at "go"
      exact q (by omega)
def spChecked (K : PySem.W.Frag) (C : Addr) : Sp := fun vs H Q E => ∃ a xs, vs = [.ref a] ∧ SqT K H a xs ∧ Flat xs ∧ (fitsV xs = true → Q (.ref a) H) ∧ (fitsV xs = false → E (.ref C) none H)
theorem ok_checked {f : Addr} {fd : FuncData} (F : Fun K "checked" "checked" s_checked f fd) (T : Txt K mg tk cl)
    (D1 : Def P w K mg base (L2.CX P w) 1 "check_size" ["size"] (spSize (cl 1))) : FnOk P w K mg base (L2.CX P w) 2 f fd ["term"] (spChecked K (cl 1)) := by
  obtain ⟨f1, fd1, g_check_size, kp_check_size, b_check_size, G_check_size⟩ := D1
  refine F.okX sc_checked (fun vs H Q E h => ?_) (fun cdv A outer s H vs Q E hr h => ?_)
  · obtain ⟨a, xs, rfl, _⟩ := h
    rfl
  · obtain ⟨a, xs, rfl, hS, hf, q, x⟩ := h
    refine ⟨_, (pss_cons (ps_expr (pe_call G_check_size (hr.mono (by decide)) (by rfl) g_check_size kp_check_size b_check_size .nil (passes_call (takes_of rfl rfl rfl rfl) (fun _ _ _ _ h => h)) (pa_cons (pe_callB call_len_seq (by rfl) T.n_len (by decide +kernel) (pa_cons (pv 0) pa_nil)) pa_nil))) (pss_cons (ps_for (passes_of rfl) rfl (pi_tup (pv 0)) (pg_name (i := 1) sc_checked.nd rfl (.inl rfl)) (pss_one (ps_if (PW.pt (pw_and (pt_val (pe_callB call_isi (by rfl) T.n_isinstance (by decide +kernel) (pa_cons (pv 1) (pa_cons (pe_bltn (v := .ty "int") (by rfl) T.n_int (by decide +kernel) rfl) pa_nil)))) (pw_and1 (pt_cmpR op_gt (pv 1) (pe_glob (v := .int 1000000) rfl T.g_MOST_VARIABLE ⟨_, rfl⟩) (nomark _))))) (pss_one (ps_raise rfl (takes_of rfl rfl rfl rfl) (SkE.pmk_own1 PySem.F.excBase_ValueError T.x_TooLarge T.g_TooLarge T.k_TooLarge (raises_own T.b_TooLarge T.t_TooLarge) rfl (pe_joined (.cons pe_str (.cons (pe_fmt (pe_glob (v := .int 1000000) rfl T.g_MOST_VARIABLE ⟨_, rfl⟩)) .nil)))))) pss_nil))) (pss_one (ps_ret (pv 0))))), ?_⟩
    refine sl_of (σ2 := [some _, none]) rfl ?_
    walk_at "st"
    walk_at "go"
    refine ⟨_, rfl, fun h1 => ?_, fun h1 => x (by simp [fitsV]; omega)⟩
    have h2 : xs.length ≤ 1000 := by omega
    walk_at "go"
    refine for_tup (K := K) (a := a) (xs := xs) (fun i σ H' => H' = H ∧ ∃ y, σ = [some (.ref a), y] ∧ (xs.take i).all okV = true) ⟨rfl, none, rfl, rfl⟩ (fun i σ H' _ e => by rw [e.1]; exact hS) ?_ ?_
    · rintro i v σ H' hi ⟨rfl, y, rfl, hall⟩
      have hv : v ∈ xs := List.mem_of_getElem? hi
      have bad : okV v = false → fitsV xs = false := fun e => by
        have : xs.all okV = false := List.all_eq_false.mpr ⟨v, hv, by simp [e]⟩
        simp [fitsV, this]
      have good : okV v = true → (xs.take (i + 1)).all okV = true := fun e => by
        rw [List.take_add_one, hi, List.all_append, hall]
        simp [e]
      rcases hf v hv with ⟨j, rfl⟩ | ⟨z, rfl⟩
      · walk_at "go"
        refine w_br (fun h3 => ?_) (fun h3 => ?_)
        · walk_at "go"
          exact x (bad (by simp [okV]; omega))
        · walk_at "go"
          exact ⟨rfl, _, rfl, good (by simp [okV]; omega)⟩
      · walk_at "go"
        exact ⟨rfl, _, rfl, good rfl⟩
    · rintro σ H' ⟨rfl, y, rfl, hall⟩
      walk_at "go"
      rw [List.take_length] at hall
      exact q (by simp [fitsV, h2]; simpa using hall)
/-! ### depths -/
abbrev nums (ds : List Nat) : List V := ds.map fun (d : Nat) => V.int d
def spDepths (K : PySem.W.Frag) : Sp := fun vs H Q _ => ∃ (a : Addr) (t : Tm), vs = [.ref a] ∧ SqT K H a t.enc ∧ t.enc.length ≤ 90000 ∧ ∀ H' p, Ex H H' → H p = none → H' p = some (.lst (nums (t.deps 0))) → Q (.ref p) H'
theorem ok_depths {f : Addr} {fd : FuncData} {k : Nat} (F : Fun K "depths" "depths" s_depths f fd) (T : Txt K mg tk cl) : FnOk P w K mg base CX0 (k + 1) f fd ["term"] (spDepths K) := by
  refine F.ok sc_depths (fun vs H Q E h => ?_) (fun cdv A outer s H vs Q E hr h => ?_)
  · obtain ⟨a, t, rfl, _⟩ := h
    rfl
  · obtain ⟨a, t, rfl, hS, hlen, q⟩ := h
    refine ⟨_, (pss_cons (ps_set (i := 1) sc_depths.nd rfl (.inl rfl) (pe_lst pa_nil)) (pss_cons (ps_set (i := 2) sc_depths.nd rfl (.inl rfl) (pe_lst (pa_cons pe_int pa_nil))) (pss_cons (ps_for PassesOwn.never rfl (pi_tup (pv 0)) (pg_name (i := 3) sc_depths.nd rfl (.inl rfl)) (pss_cons (ps_set (i := 4) sc_depths.nd rfl (.inl rfl) (pe_bm0 PySem.F.plainAttrs_list PySem.F.slot_list_pop PySem.F.type_list_pop mt_pop (pv 2))) (pss_cons (ps_expr (pe_bm PySem.F.plainAttrs_list PySem.F.slot_list_append PySem.F.type_list_append mt_append (pv 1) (pa_cons (pv 4) pa_nil))) (pss_one (ps_if (pt_cmpR op_eq (pv 3) pe_str (nomark _)) (pss_one (ps_expr (pe_bm PySem.F.plainAttrs_list PySem.F.slot_list_append PySem.F.type_list_append mt_append (pv 2) (pa_cons (pe_op op_add (pv 4) pe_int) pa_nil)))) (pss_one (ps_if (pt_cmpR op_eq (pv 3) pe_str (nomark _)) (pss_cons (ps_expr (pe_bm PySem.F.plainAttrs_list PySem.F.slot_list_append PySem.F.type_list_append mt_append (pv 2) (pa_cons (pv 4) pa_nil))) (pss_one (ps_expr (pe_bm PySem.F.plainAttrs_list PySem.F.slot_list_append PySem.F.type_list_append mt_append (pv 2) (pa_cons (pv 4) pa_nil))))) pss_nil))))))) (pss_one (ps_ret (pv 1)))))), ?_⟩
    refine sl_of (σ2 := [some _, none, none, none, none]) rfl ?_
    walk_at "st"
    walk_at "go"
    intro fl hfl
    walk_at "go"
    intro wl hwl
    have hwf : wl ≠ fl := (ne_of_none upd_same hwl).symm
    have hwl0 : H wl = none := by
      rw [upd_ne hwf] at hwl
      exact hwl
    walk_at "go"
    refine for_tup (K := K) (a := a) (xs := t.enc) (fun i σ H' => ∃ found ds y1 y2, σ = [some (.ref a), some (.ref fl), some (.ref wl), y1, y2] ∧ Ex H H' ∧ H' fl = some (.lst (nums found)) ∧ H' wl = some (.lst (nums ds)) ∧ DInv t i found ds ∧ found.length = i ∧ ds.length ≤ i + 1)
      ⟨[], [0], none, none, rfl, by walk_at "ex", by walk_at "hp", upd_same, DInv.start t, rfl, by simp⟩ (fun i σ H' _ h => by obtain ⟨_, _, _, _, _, e, _⟩ := h; exact ex_t e hS) ?_ ?_
    · rintro i v σ H1 hi ⟨found, ds, y1, y2, rfl, e1, hf1, hw1, hinv, hfl1, hds1⟩
      have hlt : i < t.enc.length := (List.getElem?_eq_some_iff.mp hi).1
      obtain ⟨r, d, rfl, hstep⟩ := hinv.step hi
      have hw1b : H1 wl = some (.lst (nums r ++ [V.int d])) := by rw [hw1]; simp [nums]
      have el : (nums found).length = found.length := List.length_map _
      have el2 : (nums r).length = r.length := List.length_map _
      have hrl : r.length ≤ i := by simpa using hds1
      have ef : nums found ++ [V.int d] = nums (found ++ [d]) := by simp [nums]
      rcases hstep with ⟨n, rfl, hn⟩ | ⟨rfl, hn⟩ | ⟨rfl, hn⟩
      · walk_at "go"
        refine ⟨found ++ [d], r, _, _, rfl, by walk_at "ex", ?_, by walk_at "hp", hn, by simp [hfl1], by omega⟩
        rw [← ef]
        walk_at "hp"
      · walk_at "go"
        refine ⟨found ++ [d], r ++ [d + 1], _, _, rfl, by walk_at "ex", ?_, ?_, hn, by simp [hfl1], by simp; omega⟩
        · rw [← ef]
          walk_at "hp"
        · rw [upd_same]
          simp [nums]
      · walk_at "go"
        refine ⟨found ++ [d], r ++ [d] ++ [d], _, _, rfl, by walk_at "ex", ?_, ?_, hn, by simp [hfl1], by simp; omega⟩
        · rw [← ef]
          walk_at "hp"
        · rw [upd_same]
          simp [nums]
    · rintro σ H1 ⟨found, ds, y1, y2, rfl, e1, hf1, hw1, hinv, hfl1, hds1⟩
      walk_at "go"
      rw [hinv.done] at hf1
      exact q H1 fl e1 hfl hf1
def freeV : V → Int → Bool
  | .int i, d => decide (d ≤ i)
  | _, _ => false
def spFree1 : Sp := fun vs H Q _ => ∃ (v : V) (d : Int), vs = [v, .int d] ∧ ((∃ i, v = .int i) ∨ ∃ z, v = .str z) ∧ Q (.bl (freeV v d)) H
theorem ok_stands_free {f : Addr} {fd : FuncData} {k : Nat} (F : Fun K "stands_free" "stands_free" s_stands_free f fd) (T : Txt K mg tk cl) : FnOk P w K mg base CX0 (k + 1) f fd ["node", "depth"] spFree1 := by
  refine F.ok sc_stands_free (fun vs H Q E h => ?_) (fun cdv A outer s H vs Q E hr h => ?_)
  · obtain ⟨v, d, rfl, _⟩ := h
    rfl
  · obtain ⟨v, d, rfl, hv, q⟩ := h
    refine ⟨_, (pss_one (ps_ret (pe_and (pe_callB call_isi (by rfl) T.n_isinstance (by decide +kernel) (pa_cons (pv 0) (pa_cons (pe_bltn (v := .ty "int") (by rfl) T.n_int (by decide +kernel) rfl) pa_nil))) (pe_one (pe_cmpR op_ge (pv 0) (pv 1) (nomark _)))))), ?_⟩
    refine sl_of (σ2 := [some _, some _]) rfl ?_
    walk_at "st"
    rcases hv with ⟨i, rfl⟩ | ⟨z, rfl⟩
    · walk_at "go"
      exact q
    · walk_at "go"
      exact q
/-! ### lifting -/
def lif (c d n : Nat) : Nat := if d ≤ n then n + c else n
theorem Tm.vmap_vmap (g h : Nat → Nat → Nat) : ∀ (t : Tm) (d : Nat), (t.vmap g d).vmap h d = t.vmap (fun d n => h d (g d n)) d
  | .var _, _ => rfl
  | .lam b, d => by simp [Tm.vmap, Tm.vmap_vmap g h b]
  | .app f a, d => by simp [Tm.vmap, Tm.vmap_vmap g h f, Tm.vmap_vmap g h a]
theorem Tm.vmap_id {g : Nat → Nat → Nat} (hg : ∀ d n, g d n = n) : ∀ (t : Tm) (d : Nat), t.vmap g d = t
  | .var _, _ => by simp [Tm.vmap, hg]
  | .lam b, d => by simp [Tm.vmap, Tm.vmap_id hg b]
  | .app f a, d => by simp [Tm.vmap, Tm.vmap_id hg f, Tm.vmap_id hg a]
theorem Tm.vmap_len (g : Nat → Nat → Nat) (t : Tm) (d : Nat) : (t.vmap g d).enc.length = t.enc.length := by
  rw [← Tm.deps_len _ d, Tm.deps_vmap, Tm.deps_len]
theorem lif_lif (c m : Nat) : (fun d n => lif m d (lif c d n)) = lif (c + m) := by
  funext d n
  by_cases h : d ≤ n
  · have e1 : lif c d n = n + c := if_pos h
    have e2 : lif m d (n + c) = n + c + m := if_pos (by omega)
    have e3 : lif (c + m) d n = n + (c + m) := if_pos h
    rw [e1, e2, e3]
    omega
  · have e1 : ∀ k, lif k d n = n := fun k => if_neg h
    rw [e1, e1, e1]
theorem Tm.lif_lif (c m : Nat) (t : Tm) (d : Nat) : (t.vmap (lif c) d).vmap (lif m) d = t.vmap (lif (c + m)) d := by
  rw [Tm.vmap_vmap, Ly.lif_lif]
theorem Tm.lif_zero (t : Tm) (d : Nat) : t.vmap (lif 0) d = t := Tm.vmap_id (fun d n => by simp [lif]) t d
theorem nums_at {ds : List Nat} {i : Nat} {y : V} (h : (nums ds)[i]? = some y) : ∃ d, ds[i]? = some d ∧ y = .int (d : Int) := by
  rw [List.getElem?_map] at h
  cases e : ds[i]? with
  | none => rw [e] at h; cases h
  | some d => rw [e] at h; exact ⟨d, rfl, (Option.some.inj h).symm⟩
def spLifted (K : PySem.W.Frag) : Sp := fun vs H Q _ => ∃ (a : Addr) (t : Tm) (c : Nat), vs = [.ref a, .int (c : Int)] ∧ SqT K H a t.enc ∧ t.enc.length ≤ 90000 ∧
  ∀ H' p, Ex H H' → H p = none → H' p = some (.lst (t.vmap (lif c) 0).enc) → Q (.ref p) H'
theorem ok_lifted {f : Addr} {fd : FuncData} (F : Fun K "lifted_nodes" "lifted_nodes" s_lifted_nodes f fd) (T : Txt K mg tk cl)
    (D1 : Def P w K mg base CX0 1 "depths" ["term"] (spDepths K)) (D2 : Def P w K mg base CX0 1 "stands_free" ["node", "depth"] spFree1) : FnOk P w K mg base CX0 2 f fd ["term", "count"] (spLifted K) := by
  obtain ⟨f1, fd1, g_depths, kp_depths, b_depths, G_depths⟩ := D1
  obtain ⟨f2, fd2, g_stands_free, kp_stands_free, b_stands_free, G_stands_free⟩ := D2
  refine F.ok sc_lifted_nodes (fun vs H Q E h => ?_) (fun cdv A outer s H vs Q E hr h => ?_)
  · obtain ⟨a, t, c, rfl, _⟩ := h
    rfl
  · obtain ⟨a, t, c, rfl, hS, hlen, q⟩ := h
    refine ⟨_, (pss_cons (ps_set (i := 2) sc_lifted_nodes.nd rfl (.inl rfl) (pe_lst pa_nil)) (pss_cons (ps_for PassesOwn.never rfl (pi_zipM (by rfl) T.n_zip (pa_cons (pv 0) (pa_cons (pe_call G_depths (hr.mono (by decide)) (by rfl) g_depths kp_depths b_depths .nil pass0 (pa_cons (pv 0) pa_nil)) pa_nil))) (pg_tup (by rfl) (pgs_cons (pg_name (i := 3) sc_lifted_nodes.nd rfl (.inl rfl)) (pgs_cons (pg_name (i := 4) sc_lifted_nodes.nd rfl (.inl rfl)) pgs_nil))) (pss_one (ps_if (pt_val (pe_call G_stands_free (hr.mono (by decide)) (by rfl) g_stands_free kp_stands_free b_stands_free .nil pass0 (pa_cons (pv 3) (pa_cons (pv 4) pa_nil)))) (pss_one (ps_expr (pe_bm PySem.F.plainAttrs_list PySem.F.slot_list_append PySem.F.type_list_append mt_append (pv 2) (pa_cons (pe_op op_add (pv 3) (pv 1)) pa_nil)))) (pss_one (ps_expr (pe_bm PySem.F.plainAttrs_list PySem.F.slot_list_append PySem.F.type_list_append mt_append (pv 2) (pa_cons (pv 3) pa_nil))))))) (pss_one (ps_ret (pv 2))))), ?_⟩
    refine sl_of (σ2 := [some _, some _, none, none, none]) rfl ?_
    walk_at "st"
    walk_at "go"
    intro nl hnl
    walk_at "go"
    refine ⟨a, t, rfl, by walk_at "hp", by omega, fun H1 dl e1 hdl hdn => ?_⟩
    walk_at "go"
    have hdn0 : dl ≠ nl := (ne_of_none upd_same hdl).symm
    have hn1 : H1 nl = some (.lst []) := by walk_at "hp"
    have eH1 : Ex H H1 := by walk_at "ex"
    refine for_zipC (xs := t.enc) (ys := nums (t.deps 0)) (n := t.enc.length) (by simp [Tm.deps_len]) (fun i σ H' => ∃ y1 y2, σ = [some (.ref a), some (.int (c : Int)), some (.ref nl), y1, y2] ∧ Ex H H' ∧ H' dl = some (.lst (nums (t.deps 0))) ∧
        H' nl = some (.lst ((List.zipWith (vm (lif c)) t.enc (t.deps 0)).take i)))
      ⟨none, none, rfl, eH1, hdn, hn1⟩ (fun i σ H' ⟨y1, y2, _, e, hd, _⟩ => ⟨ex_t e hS, SqL.of hd⟩) ?_ ?_
    · rintro i x y T1 σ H2 hx hy ⟨y1, y2, rfl, e2, hd2, hs2⟩ hT1
      obtain ⟨d, hd, rfl⟩ := nums_at hy
      have hil : i < t.enc.length := (List.getElem?_eq_some_iff.mp hx).1
      have hT1s : T1 ≠ nl := (ne_of_none hs2 hT1).symm
      have hT1d : T1 ≠ dl := (ne_of_none hd2 hT1).symm
      have tk1 := zip_take (f := vm (lif c)) hx hd
      have ll : ((List.zipWith (vm (lif c)) t.enc (t.deps 0)).take i).length < 100000 := by
        rw [List.length_take]
        omega
      have xn := Tm.int_nat (List.mem_of_getElem? hx)
      walk_at "go"
      refine ⟨x, d, rfl, (by rcases xn with ⟨m, e⟩ | e | e; exact .inl ⟨_, e⟩; exact .inr ⟨_, e⟩; exact .inr ⟨_, e⟩), ?_⟩
      cases hf : freeV x d with
      | false =>
        walk_at "go"
        refine ⟨_, _, rfl, by walk_at "ex", by walk_at "hp", ?_⟩
        have ev : vm (lif c) x d = x := by
          rcases xn with ⟨m, rfl⟩ | rfl | rfl
          · have hf : ¬ (d : Int) ≤ m := by simpa [freeV] using hf
            simp only [vm, lif, Int.toNat_natCast]
            rw [if_neg (by omega)]
          · rfl
          · rfl
        rw [upd_same, tk1, ev]
      | true =>
        obtain ⟨m, rfl⟩ : ∃ m : Nat, x = .int m := by
          rcases xn with h | rfl | rfl
          · exact h
          · cases hf
          · cases hf
        have hle : (d : Int) ≤ m := by simpa [freeV] using hf
        walk_at "go"
        refine ⟨_, _, rfl, by walk_at "ex", by walk_at "hp", ?_⟩
        have ev : vm (lif c) (.int m) d = .int ((m : Int) + c) := by
          simp only [vm, lif, Int.toNat_natCast]
          rw [if_pos (by omega), Int.natCast_add]
        rw [upd_same, tk1, ev]
    · rintro σ H2 ⟨y1, y2, rfl, e2, hd2, hs2⟩
      walk_at "go"
      have all : (List.zipWith (vm (lif c)) t.enc (t.deps 0)).take t.enc.length = (t.vmap (lif c) 0).enc := by
        rw [Tm.enc_vmap]
        exact List.take_of_length_le (by simp [Tm.deps_len])
      rw [all] at hs2
      exact q _ nl e2 hnl hs2
def spLift (K : PySem.W.Frag) (C : Addr) : Sp := fun vs H Q E => ∃ (a : Addr) (t : Tm) (c : Nat), vs = [.ref a, .int (c : Int)] ∧ SqT K H a t.enc ∧ t.enc.length ≤ 90000 ∧
  (fitsV (t.vmap (lif c) 0).enc = true → ∀ p H', Ex H H' → SqT K H' p (t.vmap (lif c) 0).enc → Q (.ref p) H') ∧ (fitsV (t.vmap (lif c) 0).enc = false → ∀ H', Ex H H' → E (.ref C) none H')
theorem ok_lift {f : Addr} {fd : FuncData} (F : Fun K "lift" "lift" s_lift f fd) (T : Txt K mg tk cl)
    (D1 : Def P w K mg base CX0 2 "lifted_nodes" ["term", "count"] (spLifted K)) (D2 : Def P w K mg base (L2.CX P w) 2 "checked" ["term"] (spChecked K (cl 1))) : FnOk P w K mg base (L2.CX P w) 3 f fd ["term", "count"] (spLift K (cl 1)) := by
  obtain ⟨f1, fd1, g_lifted_nodes, kp_lifted_nodes, b_lifted_nodes, G_lifted_nodes⟩ := D1
  obtain ⟨f2, fd2, g_checked, kp_checked, b_checked, G_checked⟩ := D2
  refine F.okX sc_lift (fun vs H Q E h => ?_) (fun cdv A outer s H vs Q E hr h => ?_)
  · obtain ⟨a, t, c, rfl, _⟩ := h
    rfl
  · obtain ⟨a, t, c, rfl, hS, hlen, q, x⟩ := h
    refine ⟨_, (pss_one (ps_ret (pe_call G_checked (hr.mono (by decide)) (by rfl) g_checked kp_checked b_checked .nil (passes_call (takes_of rfl rfl rfl rfl) (fun _ _ _ _ h => h)) (pa_cons (pe_callTy call_tuple_of (by rfl) T.n_tuple (by decide +kernel) (pa_cons (pe_call G_lifted_nodes (hr.mono (by decide)) (by rfl) g_lifted_nodes kp_lifted_nodes b_lifted_nodes .nil pass0 (pa_cons (pv 0) (pa_cons (pv 1) pa_nil))) pa_nil)) pa_nil)))), ?_⟩
    refine sl_of (σ2 := [some _, some _]) rfl ?_
    walk_at "st"
    walk_at "go"
    refine ⟨a, t, c, rfl, hS, hlen, fun H1 l e1 hl hln => ?_⟩
    walk_at "go"
    intro p hp
    walk_at "go"
    have ee : ∀ o, Ex H (upd H1 p o) := fun o => e1.trans (Ex.new hp)
    exact ⟨p, _, rfl, by walk_at "hp", Tm.flat _, fun h => q h p _ (ee _) (by walk_at "hp"), fun h => x h _ (ee _)⟩
/-! ### putting -/
def Tm.put (u : Tm) : Nat → Tm → Tm
  | d, .var n => if n < d then .var n else if n = d then u.vmap (lif d) 0 else .var (n - 1)
  | d, .lam b => .lam (Tm.put u (d + 1) b)
  | d, .app f a => .app (Tm.put u d f) (Tm.put u d a)
def pvs (u : Tm) (v : V) (d : Nat) : List V := match v with
  | .int n => (Tm.put u d (.var n.toNat)).enc
  | v => [v]
theorem Tm.enc_put (u : Tm) : ∀ (t : Tm) (d : Nat), (Tm.put u d t).enc = (List.zipWith (pvs u) t.enc (t.deps d)).flatten
  | .var n, d => by simp [Tm.deps, Tm.enc, pvs]
  | .lam b, d => by simp [Tm.put, Tm.deps, Tm.enc, Tm.enc_put u b, pvs]
  | .app f a, d => by
    have hl : f.enc.length = (f.deps d).length := (Tm.deps_len f d).symm
    simp only [Tm.put, Tm.deps, Tm.enc, List.zipWith_cons_cons, Tm.enc_put u f, Tm.enc_put u a, List.zipWith_append hl, List.flatten_cons, List.flatten_append]
    rfl
theorem pvs_low {u : Tm} {n d : Nat} (h : n < d) : pvs u (.int n) d = [.int n] := by
  simp only [pvs, Tm.put, Int.toNat_natCast]
  rw [if_pos h]
  rfl
theorem pvs_at {u : Tm} {d : Nat} : pvs u (.int (d : Int)) d = (u.vmap (lif d) 0).enc := by
  simp only [pvs, Tm.put, Int.toNat_natCast]
  rw [if_neg (Nat.lt_irrefl d)]
  rfl
theorem pvs_high {u : Tm} {n d : Nat} (h : d < n) : pvs u (.int n) d = [.int ((n : Int) - 1)] := by
  simp only [pvs, Tm.put, Int.toNat_natCast]
  rw [if_neg (by omega), if_neg (by omega)]
  have e : ((n - 1 : Nat) : Int) = (n : Int) - 1 := by omega
  show [V.int ((n - 1 : Nat) : Int)] = _
  rw [e]
theorem pvs_len (u : Tm) (v : V) (d : Nat) : (pvs u v d).length ≤ u.enc.length := by
  have pos := List.length_pos_iff.mpr u.enc_ne
  unfold pvs
  split
  · simp only [Tm.put]
    split
    · exact pos
    · split
      · rw [Tm.vmap_len]
        exact Nat.le_refl _
      · exact pos
  · exact pos
theorem flat_len {α : Type} {M : Nat} : ∀ {xs : List (List α)}, (∀ x ∈ xs, x.length ≤ M) → xs.flatten.length ≤ xs.length * M
  | [], _ => by simp
  | x :: xs, h => by
    have h1 := h x List.mem_cons_self
    have h2 := flat_len (xs := xs) fun y hy => h y (List.mem_cons_of_mem _ hy)
    simp only [List.flatten_cons, List.length_append, List.length_cons, Nat.succ_mul]
    omega
theorem zip_mem_len {u : Tm} : ∀ {xs : List V} {ds : List Nat}, ∀ x ∈ List.zipWith (pvs u) xs ds, x.length ≤ u.enc.length
  | [], _, x, h => by simp at h
  | _ :: _, [], x, h => by simp at h
  | a :: xs, d :: ds, x, h => by
    rw [List.zipWith_cons_cons] at h
    rcases List.mem_cons.mp h with e | h
    · rw [e]
      exact pvs_len u a d
    · exact zip_mem_len x h
theorem pre_len {u : Tm} {xs : List V} {ds : List Nat} (i : Nat) : ((List.zipWith (pvs u) xs ds).take i).flatten.length ≤ i * u.enc.length := by
  refine Nat.le_trans (flat_len fun x hx => zip_mem_len x (List.mem_of_mem_take hx)) (Nat.mul_le_mul_right _ ?_)
  rw [List.length_take]
  omega
theorem flat_take_le {α : Type} (xs : List (List α)) (i : Nat) : (xs.take i).flatten.length ≤ xs.flatten.length := by
  have e : xs.flatten = (xs.take i).flatten ++ (xs.drop i).flatten := by rw [← List.flatten_append, List.take_append_drop]
  rw [e, List.length_append]
  omega
theorem Tm.put_len (u t : Tm) (d : Nat) : (Tm.put u d t).enc.length ≤ t.enc.length * u.enc.length := by
  rw [Tm.enc_put]
  refine Nat.le_trans (flat_len zip_mem_len) (Nat.mul_le_mul_right _ ?_)
  rw [List.length_zipWith]
  omega
def spPut (K : PySem.W.Frag) (C : Addr) : Sp := fun vs H Q E => ∃ (a b : Addr) (t u : Tm), vs = [.ref a, .ref b] ∧ SqT K H a t.enc ∧ SqT K H b u.enc ∧ t.enc.length ≤ 20000 ∧ u.enc.length ≤ 20000 ∧
  (fitsV (Tm.put u 0 t).enc = true → ∀ p H', Ex H H' → SqT K H' p (Tm.put u 0 t).enc → Q (.ref p) H') ∧ (fitsV (Tm.put u 0 t).enc = false → ∀ H', Ex H H' → E (.ref C) none H')
theorem ok_put {f : Addr} {fd : FuncData} (F : Fun K "put" "put" s_put f fd) (T : Txt K mg tk cl)
    (D1 : Def P w K mg base CX0 1 "depths" ["term"] (spDepths K)) (D2 : Def P w K mg base CX0 1 "stands_free" ["node", "depth"] spFree1)
    (D3 : Def P w K mg base CX0 2 "lifted_nodes" ["term", "count"] (spLifted K)) (D4 : Def P w K mg base (L2.CX P w) 1 "check_size" ["size"] (spSize (cl 1)))
    (D5 : Def P w K mg base (L2.CX P w) 2 "checked" ["term"] (spChecked K (cl 1))) : FnOk P w K mg base (L2.CX P w) 3 f fd ["term", "value"] (spPut K (cl 1)) := by
  obtain ⟨f1, fd1, g_depths, kp_depths, b_depths, G_depths⟩ := D1
  obtain ⟨f2, fd2, g_stands_free, kp_stands_free, b_stands_free, G_stands_free⟩ := D2
  obtain ⟨f3, fd3, g_lifted_nodes, kp_lifted_nodes, b_lifted_nodes, G_lifted_nodes⟩ := D3
  obtain ⟨f4, fd4, g_check_size, kp_check_size, b_check_size, G_check_size⟩ := D4
  obtain ⟨f5, fd5, g_checked, kp_checked, b_checked, G_checked⟩ := D5
  refine F.okX sc_put (fun vs H Q E h => ?_) (fun cdv A outer s H vs Q E hr h => ?_)
  · obtain ⟨a, b, t, u, rfl, _⟩ := h
    rfl
  · obtain ⟨a, b, t, u, rfl, hS, hU, hlen, hul, q, x⟩ := h
    refine ⟨_, (pss_cons (ps_set (i := 2) sc_put.nd rfl (.inl rfl) (pe_lst pa_nil)) (pss_cons (ps_for (passes_of rfl) rfl (pi_zipM (by rfl) T.n_zip (pa_cons (pv 0) (pa_cons (pe_call G_depths (hr.mono (by decide)) (by rfl) g_depths kp_depths b_depths .nil pass0 (pa_cons (pv 0) pa_nil)) pa_nil))) (pg_tup (by rfl) (pgs_cons (pg_name (i := 3) sc_put.nd rfl (.inl rfl)) (pgs_cons (pg_name (i := 4) sc_put.nd rfl (.inl rfl)) pgs_nil))) (pss_one (ps_if (pt_not (pt_val (pe_call G_stands_free (hr.mono (by decide)) (by rfl) g_stands_free kp_stands_free b_stands_free .nil pass0 (pa_cons (pv 3) (pa_cons (pv 4) pa_nil))))) (pss_one (ps_expr (pe_bm PySem.F.plainAttrs_list PySem.F.slot_list_append PySem.F.type_list_append mt_append (pv 2) (pa_cons (pv 3) pa_nil)))) (pss_one (ps_if (pt_cmpR op_gt (pv 3) (pv 4) (nomark _)) (pss_one (ps_expr (pe_bm PySem.F.plainAttrs_list PySem.F.slot_list_append PySem.F.type_list_append mt_append (pv 2) (pa_cons (pe_op op_sub (pv 3) pe_int) pa_nil)))) (pss_cons (ps_expr (pe_bm PySem.F.plainAttrs_list PySem.F.slot_list_extend PySem.F.type_list_extend mt_extend (pv 2) (pa_cons (pe_call G_lifted_nodes (hr.mono (by decide)) (by rfl) g_lifted_nodes kp_lifted_nodes b_lifted_nodes .nil pass0 (pa_cons (pv 1) (pa_cons (pv 4) pa_nil))) pa_nil))) (pss_one (ps_expr (pe_call G_check_size (hr.mono (by decide)) (by rfl) g_check_size kp_check_size b_check_size .nil (passes_call (takes_of rfl rfl rfl rfl) (fun _ _ _ _ h => h)) (pa_cons (pe_callB call_len_seq (by rfl) T.n_len (by decide +kernel) (pa_cons (pv 2) pa_nil)) pa_nil)))))))))) (pss_one (ps_ret (pe_call G_checked (hr.mono (by decide)) (by rfl) g_checked kp_checked b_checked .nil (passes_call (takes_of rfl rfl rfl rfl) (fun _ _ _ _ h => h)) (pa_cons (pe_callTy call_tuple_of (by rfl) T.n_tuple (by decide +kernel) (pa_cons (pv 2) pa_nil)) pa_nil)))))), ?_⟩
    refine sl_of (σ2 := [some _, some _, none, none, none]) rfl ?_
    walk_at "st"
    walk_at "go"
    intro nl hnl
    walk_at "go"
    refine ⟨a, t, rfl, by walk_at "hp", by omega, fun H1 dl e1 hdl hdn => ?_⟩
    walk_at "go"
    have hdn0 : dl ≠ nl := (ne_of_none upd_same hdl).symm
    have hn1 : H1 nl = some (.lst []) := by walk_at "hp"
    have eH1 : Ex H H1 := by walk_at "ex"
    have full := Tm.enc_put u t 0
    refine for_zipC (xs := t.enc) (ys := nums (t.deps 0)) (n := t.enc.length) (by simp [Tm.deps_len]) (fun i σ H' => ∃ y1 y2, σ = [some (.ref a), some (.ref b), some (.ref nl), y1, y2] ∧ Ex H H' ∧ H' dl = some (.lst (nums (t.deps 0))) ∧
        H' nl = some (.lst ((List.zipWith (pvs u) t.enc (t.deps 0)).take i).flatten) ∧ ((List.zipWith (pvs u) t.enc (t.deps 0)).take i).flatten.length ≤ 1000 + i)
      ⟨none, none, rfl, eH1, hdn, hn1, by simp⟩ (fun i σ H' ⟨y1, y2, _, e, hd, _⟩ => ⟨ex_t e hS, SqL.of hd⟩) ?_ ?_
    · rintro i x1 y T1 σ H2 hx hy ⟨y1, y2, rfl, e2, hd2, hs2, hl2⟩ hT1
      obtain ⟨d, hd, rfl⟩ := nums_at hy
      have hil : i < t.enc.length := (List.getElem?_eq_some_iff.mp hx).1
      have hT1s : T1 ≠ nl := (ne_of_none hs2 hT1).symm
      have hT1d : T1 ≠ dl := (ne_of_none hd2 hT1).symm
      have tk1 := zip_take (f := pvs u) hx hd
      have tk2 : ((List.zipWith (pvs u) t.enc (t.deps 0)).take (i + 1)).flatten = ((List.zipWith (pvs u) t.enc (t.deps 0)).take i).flatten ++ pvs u x1 d := by
        rw [tk1, List.flatten_append]
        simp
      have over := flat_take_le (List.zipWith (pvs u) t.enc (t.deps 0)) (i + 1)
      rw [← full] at over
      generalize ((List.zipWith (pvs u) t.enc (t.deps 0)).take i).flatten = done at *
      rw [tk2] at over
      have hU2 : SqT K H2 b u.enc := ex_t e2 hU
      have xn := Tm.int_nat (List.mem_of_getElem? hx)
      walk_at "go"
      refine ⟨x1, d, rfl, (by rcases xn with ⟨m, e⟩ | e | e; exact .inl ⟨_, e⟩; exact .inr ⟨_, e⟩; exact .inr ⟨_, e⟩), ?_⟩
      cases hf : freeV x1 d with
      | false =>
        walk_at "go"
        have ev : pvs u x1 d = [x1] := by
          rcases xn with ⟨m, rfl⟩ | rfl | rfl
          · have hf : ¬ (d : Int) ≤ m := by simpa [freeV] using hf
            exact pvs_low (by omega)
          · rfl
          · rfl
        rw [ev] at tk2
        refine ⟨_, _, rfl, by walk_at "ex", by walk_at "hp", ?_, by rw [tk2]; simp; omega⟩
        rw [upd_same, tk2]
      | true =>
        obtain ⟨m, rfl⟩ : ∃ m : Nat, x1 = .int m := by
          rcases xn with h | rfl | rfl
          · exact h
          · cases hf
          · cases hf
        have hle : (d : Int) ≤ m := by simpa [freeV] using hf
        walk_at "go"
        refine w_br (fun h3 => ?_) (fun h3 => ?_)
        · walk_at "go"
          rw [pvs_high (by omega)] at tk2
          refine ⟨_, _, rfl, by walk_at "ex", by walk_at "hp", ?_, by rw [tk2]; simp; omega⟩
          rw [upd_same, tk2]
        · have e0 : m = d := by omega
          subst e0
          rw [pvs_at] at tk2 over
          have hT1b : SqT K (upd H2 T1 (.tup [V.int (m : Int), V.int (m : Int)])) b u.enc := ex_t (Ex.new hT1) hU2
          walk_at "go"
          refine ⟨b, u, m, rfl, hT1b, by omega, fun H3 ll e3 hll hl3 => ?_⟩
          have hlne : ll ≠ nl := by
            have g1 : upd H2 T1 (.tup [V.int (m : Int), V.int (m : Int)]) nl = some (.lst done) := (upd_ne hT1s.symm).trans hs2
            exact (ne_of_none g1 hll).symm
          have hs3 : H3 nl = some (.lst done) := e3 _ _ ((upd_ne hT1s.symm).trans hs2)
          have hd3 : H3 dl = some (.lst (nums (t.deps 0))) := e3 _ _ ((upd_ne hT1d.symm).trans hd2)
          have ee : Ex H H3 := (e2.trans (Ex.new hT1)).trans e3
          have vl := Tm.vmap_len (lif m) u 0
          walk_at "go"
          · exact ly_sz (by omega)
          walk_at "go"
          refine ⟨_, rfl, fun hle2 => ?_, fun hgt => x ?_ _ (by walk_at "ex")⟩
          · walk_at "go"
            refine ⟨_, _, rfl, by walk_at "ex", by walk_at "hp", ?_, by rw [tk2]; omega⟩
            rw [upd_same, tk2]
          · have : ¬ (Tm.put u 0 t).enc.length ≤ 1000 := by omega
            simp [fitsV, this]
    · rintro σ H2 ⟨y1, y2, rfl, e2, hd2, hs2, hl2⟩
      have all : ((List.zipWith (pvs u) t.enc (t.deps 0)).take t.enc.length).flatten = (Tm.put u 0 t).enc := by
        rw [full, List.take_of_length_le (by simp [Tm.deps_len])]
      rw [all] at hs2
      walk_at "go"
      intro p hp
      walk_at "go"
      exact ⟨p, _, rfl, by walk_at "hp", Tm.flat _, fun h => q h p _ (by walk_at "ex") (by walk_at "hp"), fun h => x h _ (by walk_at "ex")⟩
end
/-! ### putting and lifting: how they pass each other -/
theorem Tm.lif_then (j k : Nat) : ∀ (v : Tm) (d : Nat), (v.vmap (lif j) d).vmap (lif k) (d + j) = v.vmap (lif (j + k)) d
  | .var n, d => by
    simp only [Tm.vmap, lif]
    congr 1
    split <;> split <;> omega
  | .lam b, d => by
    have h := Tm.lif_then j k b (d + 1)
    simp only [Tm.vmap]
    rw [show d + j + 1 = d + 1 + j by omega, h]
  | .app f a, d => by simp only [Tm.vmap, Tm.lif_then j k f, Tm.lif_then j k a]
theorem Tm.put_lif (w : Tm) (k : Nat) : ∀ (v : Tm) (j : Nat), Tm.put w (j + k) (v.vmap (lif (k + 1)) j) = v.vmap (lif k) j
  | .var n, j => by
    simp only [Tm.vmap, lif]
    by_cases h : j ≤ n
    · rw [if_pos h, if_pos h]
      simp only [Tm.put]
      rw [if_neg (by omega), if_neg (by omega)]
      congr 1
    · rw [if_neg h, if_neg h]
      simp only [Tm.put]
      rw [if_pos (by omega)]
  | .lam b, j => by
    have h := Tm.put_lif w k b (j + 1)
    simp only [Tm.vmap, Tm.put]
    rw [show j + k + 1 = j + 1 + k by omega, h]
  | .app f a, j => by simp only [Tm.vmap, Tm.put, Tm.put_lif w k f, Tm.put_lif w k a]
theorem Tm.put_lift (w t : Tm) : Tm.put w 0 (t.vmap (lif 1) 0) = t := by
  have h := Tm.put_lif w 0 t 0
  rw [Tm.lif_zero] at h
  exact h
theorem Tm.put_up (v : Tm) (k : Nat) : ∀ (u : Tm) (j : Nat), Tm.put v (j + k) (u.vmap (lif k) j) = (Tm.put v j u).vmap (lif k) j
  | .var n, j => by
    simp only [Tm.vmap, lif]
    rcases Nat.lt_trichotomy n j with h | h | h
    · rw [if_neg (by omega)]
      simp only [Tm.put]
      rw [if_pos (by omega), if_pos h]
      simp only [Tm.vmap, lif]
      rw [if_neg (by omega)]
    · subst h
      rw [if_pos (Nat.le_refl n)]
      simp only [Tm.put]
      rw [if_neg (by omega), if_pos trivial, if_neg (by omega), if_pos trivial]
      have e := Tm.lif_then n k v 0
      rw [Nat.zero_add] at e
      exact e.symm
    · rw [if_pos (by omega)]
      simp only [Tm.put]
      rw [if_neg (by omega), if_neg (by omega), if_neg (by omega), if_neg (by omega)]
      simp only [Tm.vmap, lif]
      rw [if_pos (by omega)]
      congr 1
      omega
  | .lam b, j => by
    have h := Tm.put_up v k b (j + 1)
    simp only [Tm.vmap, Tm.put]
    rw [show j + k + 1 = j + 1 + k by omega, h]
  | .app f a, j => by simp only [Tm.vmap, Tm.put, Tm.put_up v k f, Tm.put_up v k a]
/-- putting u, then v, is putting v below one abstraction, then u with v put into it -/
theorem Tm.put_put (u v : Tm) : ∀ (t : Tm) (k : Nat), Tm.put v k (Tm.put u k t) = Tm.put (Tm.put v 0 u) k (Tm.put v (k + 1) t)
  | .var n, k => by
    rcases Nat.lt_trichotomy n k with h | h | h
    · simp only [Tm.put]
      rw [if_pos h, if_pos (by omega)]
      simp only [Tm.put]
      rw [if_pos h, if_pos h]
    · subst h
      simp only [Tm.put]
      rw [if_neg (by omega), if_pos trivial, if_pos (by omega)]
      simp only [Tm.put]
      rw [if_neg (by omega), if_pos trivial]
      have e := Tm.put_up v n u 0
      rw [Nat.zero_add] at e
      exact e
    · by_cases h2 : n = k + 1
      · subst h2
        simp only [Tm.put]
        rw [if_neg (by omega), if_neg (by omega), if_neg (by omega), if_pos trivial]
        simp only [Tm.put]
        rw [if_neg (by omega), if_pos (by omega)]
        have e := Tm.put_lif (Tm.put v 0 u) k v 0
        rw [Nat.zero_add] at e
        rw [e]
      · simp only [Tm.put]
        rw [if_neg (by omega), if_neg (by omega), if_neg (by omega), if_neg (by omega)]
        simp only [Tm.put]
        rw [if_neg (by omega), if_neg (by omega), if_neg (by omega), if_neg (by omega)]
  | .lam b, k => by simp only [Tm.put, Tm.put_put u v b]
  | .app f a, k => by simp only [Tm.put, Tm.put_put u v f, Tm.put_put u v a]
theorem Tm.put_size (u : Tm) : ∀ (t : Tm) (d : Nat), 2 * (Tm.put u d t).enc.length ≤ 2 * t.enc.length + (t.enc.length + 1) * (u.enc.length - 1)
  | .var n, d => by
    have pos := List.length_pos_iff.mpr u.enc_ne
    simp only [Tm.put]
    split
    · simp [Tm.enc]
    · split
      · rw [Tm.vmap_len]
        simp only [Tm.enc, List.length_cons, List.length_nil]
        omega
      · simp [Tm.enc]
  | .lam b, d => by
    have h := Tm.put_size u b (d + 1)
    simp only [Tm.put, Tm.enc, List.length_cons]
    generalize u.enc.length - 1 = k at *
    rw [Nat.add_mul, Nat.add_mul]
    rw [Nat.add_mul] at h
    omega
  | .app f a, d => by
    have h1 := Tm.put_size u f d
    have h2 := Tm.put_size u a d
    simp only [Tm.put, Tm.enc, List.length_cons, List.length_append]
    generalize u.enc.length - 1 = k at *
    rw [Nat.add_mul] at h1 h2
    rw [Nat.add_mul, Nat.add_mul, Nat.add_mul]
    omega
theorem Tm.vars_lif {N c : Nat} : ∀ {u : Tm} {d : Nat}, u.vars N → (u.vmap (lif c) d).vars (N + c)
  | .var n, d, h => by
    have h : n ≤ N := h
    show lif c d n ≤ N + c
    unfold lif
    split <;> omega
  | .lam b, d, h => Tm.vars_lif (u := b) h
  | .app f a, d, h => ⟨Tm.vars_lif (u := f) h.1, Tm.vars_lif (u := a) h.2⟩
theorem Tm.vars_put {u : Tm} {M N : Nat} (hu : u.vars N) : ∀ {t : Tm} {d : Nat}, t.vars M → (Tm.put u d t).vars (M + N + d + t.enc.length)
  | .var n, d, h => by
    have h : n ≤ M := h
    simp only [Tm.put]
    split
    · show n ≤ _
      omega
    · split
      · exact Tm.vars_mono (by omega) (Tm.vars_lif (c := d) hu)
      · show n - 1 ≤ _
        omega
  | .lam b, d, h => Tm.vars_mono (by simp only [Tm.enc, List.length_cons]; omega) (Tm.vars_put hu (t := b) (d := d + 1) h)
  | .app f a, d, h => ⟨Tm.vars_mono (by simp only [Tm.enc, List.length_cons, List.length_append]; omega) (Tm.vars_put hu (t := f) (d := d) h.1), Tm.vars_mono (by simp only [Tm.enc, List.length_cons, List.length_append]; omega) (Tm.vars_put hu (t := a) (d := d) h.2)⟩
theorem fits_of {t : Tm} (h : t.vars 1000000) (l : t.enc.length ≤ 1000) : fitsV t.enc = true := by
  unfold fitsV
  rw [ok_vars h, decide_eq_true l]
  rfl
/-! ### terms whose abstractions have names of their own -/
inductive Nm where
  | bound (m : Nat)
  | free (n : Nat)
  | lam (m : Nat) (b : Nm)
  | app (f a : Nm)
def Tm.lams : Tm → Nat
  | .var _ => 0
  | .lam b => b.lams + 1
  | .app f a => f.lams + a.lams
def Tm.tall : Tm → Nat
  | .var _ => 0
  | .lam b => b.tall + 1
  | .app f a => max f.tall a.tall + 1
theorem Tm.tall_lt : ∀ t : Tm, t.tall < t.enc.length
  | .var _ => by simp [Tm.tall, Tm.enc]
  | .lam b => by
    have := Tm.tall_lt b
    simp only [Tm.tall, Tm.enc, List.length_cons]
    omega
  | .app f a => by
    have h1 := Tm.tall_lt f
    have h2 := Tm.tall_lt a
    simp only [Tm.tall, Tm.enc, List.length_cons, List.length_append]
    omega
def nest : List Nat → Nat → Tm → Nm
  | ms, _, .var n => if n < ms.length then .bound (ms.getD (ms.length - 1 - n) 0) else .free (n - ms.length)
  | ms, c, .lam b => .lam (c + 1) (nest (ms ++ [c + 1]) (c + 1) b)
  | ms, c, .app f a => .app (nest ms c f) (nest ms (c + f.lams) a)
def Nm.put (v : Nm) : Nm → Nm
  | .bound m => .bound m
  | .free n => if n = 0 then v else .free (n - 1)
  | .lam m b => .lam m (Nm.put v b)
  | .app f a => .app (Nm.put v f) (Nm.put v a)
/-- what the last place of m below i, seen from the end, is -/
def fnd (s : List Nat) (m : Nat) : Nat → Nat
  | 0 => 0
  | i + 1 => if s[i]? = some m then s.length - 1 - i else fnd s m i
def Nm.flat : List Nat → Nm → List V
  | s, .bound m => [.int (fnd s m s.length : Nat)]
  | s, .free n => [.int ((s.length : Nat) + (n : Nat) : Int)]
  | s, .lam m b => .str "lam" :: Nm.flat (s ++ [m]) b
  | s, .app f a => .str "app" :: (Nm.flat s f ++ Nm.flat s a)
theorem fnd_at {s : List Nat} {m j : Nat} (h : s[j]? = some m) : ∀ i, j < i → (∀ k, j < k → k < i → s[k]? ≠ some m) → fnd s m i = s.length - 1 - j
  | 0, hj, _ => by omega
  | i + 1, hj, hn => by
    by_cases e : j = i
    · subst e
      show (if s[j]? = some m then _ else _) = _
      rw [if_pos h]
    · show (if s[i]? = some m then _ else _) = _
      rw [if_neg (hn i (by omega) (by omega))]
      exact fnd_at h i (by omega) fun k h1 h2 => hn k h1 (by omega)
/-- ascending, none above c -/
def Up (c : Nat) (ms : List Nat) : Prop := ms.Pairwise (· < ·) ∧ ∀ m ∈ ms, m ≤ c
theorem Up.push {c : Nat} {ms : List Nat} (h : Up c ms) : Up (c + 1) (ms ++ [c + 1]) := by
  refine ⟨List.pairwise_append.mpr ⟨h.1, List.pairwise_singleton .., fun a ha b hb => ?_⟩, fun m hm => ?_⟩
  · rw [List.mem_singleton.mp hb]
    exact Nat.lt_succ_of_le (h.2 a ha)
  · rcases List.mem_append.mp hm with hm | hm
    · exact Nat.le_succ_of_le (h.2 m hm)
    · rw [List.mem_singleton.mp hm]
      exact Nat.le_refl _
theorem Up.more {c d : Nat} {ms : List Nat} (h : Up c ms) (l : c ≤ d) : Up d ms := ⟨h.1, fun m hm => Nat.le_trans (h.2 m hm) l⟩
theorem Up.nil (c : Nat) : Up c [] := ⟨.nil, fun m hm => absurd hm (by simp)⟩
/-- where a bound variable finds its name -/
theorem fnd_up {c : Nat} {ns ms : List Nat} (h : Up c ns) {n : Nat} (hn : n < ns.length) : fnd (ms ++ ns) (ns.getD (ns.length - 1 - n) 0) (ms ++ ns).length = n := by
  have hj : ns.length - 1 - n < ns.length := by omega
  have e : ns.getD (ns.length - 1 - n) 0 = ns[ns.length - 1 - n] := by rw [List.getD_eq_getElem?_getD, List.getElem?_eq_getElem hj]; rfl
  have at1 : (ms ++ ns)[ms.length + (ns.length - 1 - n)]? = some (ns.getD (ns.length - 1 - n) 0) := by
    rw [List.getElem?_append_right (by omega), show ms.length + (ns.length - 1 - n) - ms.length = ns.length - 1 - n by omega, List.getElem?_eq_getElem hj, e]
  rw [fnd_at at1 (ms ++ ns).length (by rw [List.length_append]; omega) fun k h1 h2 hk => ?_]
  · rw [List.length_append]
    omega
  · rw [List.length_append] at h2
    rw [List.getElem?_append_right (by omega), List.getElem?_eq_getElem (by omega), e] at hk
    have lt := List.pairwise_iff_getElem.mp h.1 (ns.length - 1 - n) (k - ms.length) hj (by omega) (by omega)
    rw [Option.some.inj hk] at lt
    exact Nat.lt_irrefl _ lt
theorem flat_nest (ms : List Nat) : ∀ (u : Tm) (ns : List Nat) (c : Nat), Up c ns → Nm.flat (ms ++ ns) (nest ns c u) = (u.vmap (lif ms.length) ns.length).enc
  | .var n, ns, c, h => by
    simp only [nest, Tm.vmap, lif]
    by_cases hn : n < ns.length
    · rw [if_pos hn, if_neg (by omega)]
      simp only [Nm.flat, Tm.enc]
      rw [fnd_up h hn]
    · rw [if_neg hn, if_pos (by omega)]
      simp only [Nm.flat, Tm.enc, List.length_append]
      congr 2
      omega
  | .lam b, ns, c, h => by
    have ih := flat_nest ms b (ns ++ [c + 1]) (c + 1) h.push
    simp only [nest, Nm.flat, Tm.vmap, Tm.enc]
    rw [List.append_assoc, ih, List.length_append, List.length_singleton]
  | .app f a, ns, c, h => by
    simp only [nest, Nm.flat, Tm.vmap, Tm.enc]
    rw [flat_nest ms f ns c h, flat_nest ms a ns (c + f.lams) (h.more (by omega))]
/-- putting with names is putting -/
theorem flat_put (u : Tm) (cu : Nat) : ∀ (t : Tm) (ms : List Nat) (c : Nat), Up c ms → Nm.flat ms (Nm.put (nest [] cu u) (nest ms c t)) = (Tm.put u ms.length t).enc
  | .var n, ms, c, h => by
    simp only [nest, Tm.put]
    by_cases hn : n < ms.length
    · rw [if_pos hn, if_pos hn]
      simp only [Nm.put, Nm.flat, Tm.enc]
      have e := fnd_up (ms := []) h hn
      simp only [List.nil_append] at e
      rw [e]
    · rw [if_neg hn, if_neg hn]
      simp only [Nm.put]
      by_cases h0 : n = ms.length
      · rw [if_pos (by omega), if_pos h0]
        have e := flat_nest ms u [] cu (Up.nil cu)
        rw [List.append_nil] at e
        exact e
      · rw [if_neg (by omega), if_neg h0]
        simp only [Nm.flat, Tm.enc]
        congr 2
        omega
  | .lam b, ms, c, h => by
    have ih := flat_put u cu b (ms ++ [c + 1]) (c + 1) h.push
    simp only [nest, Nm.put, Nm.flat, Tm.put, Tm.enc]
    rw [ih, List.length_append, List.length_singleton]
  | .app f a, ms, c, h => by
    simp only [nest, Nm.put, Nm.flat, Tm.put, Tm.enc]
    rw [flat_put u cu f ms c h, flat_put u cu a ms (c + f.lams) (h.more (by omega))]
section
end
end Ly
set_option Elab.async false
set_option linter.all false
set_option maxRecDepth 100000
set_option maxHeartbeats 8000000
namespace Ly
open PySem PySem.Spec PyProof.Rows L2 Evl
local macro_rules | `(tactic| walk_at "ne") => `(tactic| first
  | assumption
  | ((refine' Ne.symm ?hq); (case hq => assumption))
  | ((refine' ne_of_none ?nh1 ?nh2); (case nh2 => assumption); (case nh1 => walk_at "hp"))
  | ((refine' Ne.symm (ne_of_none ?nh1 ?nh2)); (case nh2 => assumption); (case nh1 => walk_at "hp")))
local macro_rules | `(tactic| walk_at "hp") => `(tactic| first
  | assumption
  | exact upd_same
  | ((refine' SqL.of ?hq); (case hq => walk_at "hp"))
  | ((refine' SqT.of ?hq); (case hq => walk_at "hp"))
  | ((refine' (upd_ne ?hne).trans ?hrest); (case hne => walk_at "ne"); (case hrest => walk_at "hp"))
  | ((refine' ly_at ?hex ?hh); (case hex => assumption); (case hh => walk_at "hp"))
  | ((refine' ly_atF ?hex ?hnn ?hh); (case hex => assumption); (case hh => walk_at "hp"); (case hnn => walk_at "ne"))
  | ((refine' ex_t ?hex ?hh); (case hh => assumption); (case hex => walk_at "ex"))
  | ((refine' ex_l ?hex ?hh); (case hh => assumption); (case hex => walk_at "ex")))
local macro_rules | `(tactic| walk_at "ex") => `(tactic| first
  | assumption
  | exact Ex.refl _
  | ((refine' ex_new ?xa ?xb); (case xb => assumption); (case xa => walk_at "ex"))
  | ((refine' ex_upd ?xa ?xb); (case xb => walk_at "free"); (case xa => walk_at "ex"))
  | ((refine' Ex.trans ?xa ?xb); (case xb => assumption); (case xa => walk_at "ex")))
local macro_rules | `(tactic| walk_at "free") => `(tactic| first
  | assumption
  | ((refine' fresh_back ?xa ?xb); (case xb => assumption); (case xa => walk_at "ex")))
local macro_rules | `(tactic| walk_at "fr") => `(tactic| first
  | assumption
  | exact Fr.refl _ _
  | ((refine' Fr.own ?hq); (case hq => walk_at "fr"))
  | ((refine' Fr.new ?xa ?xb); (case xb => assumption); (case xa => walk_at "fr"))
  | ((refine' Fr.mut ?xa ?xb); (case xb => assumption); (case xa => walk_at "fr"))
  | ((refine' Fr.trans ?xa ?xb); (case xb => assumption); (case xa => walk_at "fr"))
  | ((refine' Fr.trans ?xa (Fr.ex ?xb)); (case xb => assumption); (case xa => walk_at "fr")))
local macro_rules | `(tactic| walk_at "go1") => `(tactic| first
  | (with_reducible refine' w_seq ?_)
  | (with_reducible refine' w_asg ?_)
  | (with_reducible refine' w_ret ?_)
  | (with_reducible refine' w_drop ?_)
  | (with_reducible refine' w_if ?_)
  | (with_reducible refine' w_next ?_)
  | (with_reducible refine' w_name ?_)
  | (with_reducible refine' w_sub ?_)
  | ((with_reducible refine' w_var ?hv ?_); (case hv => exact rfl))
  | (with_reducible refine' w_c ?_)
  | (with_reducible refine' w_op ?_)
  | (with_reducible refine' w_un ?_)
  | (with_reducible refine' w_ch ?_)
  | (with_reducible refine' w_I0 ?_)
  | ((with_reducible refine' w_I ?hc ?_); (case hc => first | (exact ly_mulL (by decide) (by decide)) | (exact ly_mulR (by decide) (by decide)) | (exact ly_mulL (by omega) (by omega)) | (show (_ : Int) ≠ 0; decide) | (show (_ : Int) ≠ 0; omega) | (exact ⟨by decide, by decide⟩) | (exact ⟨by omega, by omega⟩)))
  | (with_reducible refine' w_U ?_)
  | ((with_reducible refine' w_eq ?hs ?_); (case hs => exact rfl))
  | ((with_reducible refine' w_ne ?hs ?_); (case hs => exact rfl))
  | (with_reducible refine' w_isB ?_)
  | (with_reducible refine' w_notB ?_)
  | (with_reducible refine' w_nil ?_)
  | (with_reducible refine' w_cons ?_)
  | (with_reducible refine' w_tup ?_)
  | (with_reducible refine' w_lst ?_)
  | (with_reducible refine' w_cb ?_)
  | (with_reducible refine' w_call ?_)
  | (with_reducible refine' w_bm ?_)
  | (with_reducible refine' w_bm0 ?_)
  | ((with_reducible refine' w_app ?hh ?hz ?_); (case hh => walk_at "hp"); (case hz => first | exact sz_lt (by omega) | exact sz_lt (by simp only [List.length_append, List.length_map, List.length_cons, List.length_nil]; omega)))
  | ((with_reducible refine' w_popA ?hh ?_); (case hh => walk_at "hp"))
  | ((with_reducible refine' w_ext ?hh ?hh2 ?hz ?_); (case hh => walk_at "hp"); (case hh2 => walk_at "hp"))
  | ((with_reducible refine' w_ixL ?hh ?ha ?_); (case hh => walk_at "hp"); (case ha => first | exact rfl | exact at_map (by omega) | exact atI_last _ _ | ((refine' at_of ?ae ?ah); (case ah => assumption); (case ae => omega))))
  | ((with_reducible refine' w_ixT ?hh ?ha ?_); (case hh => walk_at "hp"); (case ha => first | exact rfl | exact at_map (by omega) | exact atI_last _ _ | ((refine' at_of ?ae ?ah); (case ah => assumption); (case ae => omega))))
  | ((with_reducible refine' w_cat ?hh ?hh2 ?hz ?_); (case hh => walk_at "hp"); (case hh2 => walk_at "hp"))
  | ((with_reducible refine' w_setL ?hh ?ha ?_); (case hh => walk_at "hp"); (case ha => exact rfl))
  | (with_reducible refine' w_test ?_)
  | (with_reducible refine' w_tB ?_)
  | (with_reducible refine' w_bl ?_)
  | (with_reducible refine' w_and ?_)
  | (with_reducible refine' w_or ?_)
  | (with_reducible refine' w_not ?_)
  | (with_reducible refine' w_andV ?_)
  | (with_reducible refine' w_orV ?_)
  | (with_reducible refine' w_notV ?_)
  | (with_reducible refine' w_ifE ?_)
  | (with_reducible refine' w_for ?_)
  | ((with_reducible refine' w_nin ?hh ?_); (case hh => walk_at "hp"))
  | ((with_reducible refine' w_sorted ?hh ?_); (case hh => walk_at "hp"))
  | (with_reducible refine' w_tsadd ?_)
  | ((with_reducible refine' w_tsadd1 ?hh ?_); (case hh => walk_at "hp"))
  | ((with_reducible refine' w_sadd ?hh ?hr ?_); (case hh => walk_at "hp"); (case hr => omega))
  | (with_reducible refine' w_iZ ?_)
  | ((with_reducible refine' w_iZ1 ?hh ?hh2 ?_); (case hh => walk_at "hp"); (case hh2 => walk_at "hp"))
  | (with_reducible refine' w_iS ?_)
  | (with_reducible refine' w_iS1 ?_)
  | ((with_reducible refine' w_gtup ?hh ?hn ?_); (case hh => walk_at "hp"); (case hn => exact rfl))
  | (with_reducible refine' w_gcons ?_)
  | (with_reducible refine' w_gnil ?_)
  | (with_reducible refine' w_js ?_)
  | (with_reducible refine' w_jsn ?_)
  | ((with_reducible refine' w_js1 ?hl ?_); (case hl => decide +kernel))
  | (with_reducible refine' w_fmt ?_)
  | ((with_reducible refine' w_fmt1 ?hl ?_); (case hl => decide +kernel))
  | (with_reducible refine' w_callS ?_)
  | ((with_reducible refine' w_truL ?hh ?_); (case hh => walk_at "hp"))
  | (with_reducible refine' w_lc ?_)
  | (with_reducible refine' w_yes ?_)
  | ((with_reducible refine' w_wipe ?he ?_); (case he => exact rfl))
  | (with_reducible refine' w_iL ?_)
  | (with_reducible refine' w_iT ?_)
  | (with_reducible refine' w_iR ?_)
  | ((with_reducible refine' w_iL1 ?hh ?_); (case hh => walk_at "hp"))
  | ((with_reducible refine' w_iT1 ?hh ?_); (case hh => walk_at "hp"))
  | ((with_reducible refine' w_iR1 ?h1 ?h2 ?_); (case h1 => omega); (case h2 => omega))
  | ((with_reducible refine' w_aug ?hv ?_); (case hv => exact rfl))
  | (with_reducible refine' w_ipI ?_)
  | ((with_reducible refine' w_isi ?hy ?hk ?_); (case hy => walk_at "ty"); (case hk => walk_at "kit"))
  | ((with_reducible refine' w_int ?_))
  | ((with_reducible refine' w_intB ?_))
  | ((with_reducible refine' w_abs ?_))
  | ((with_reducible refine' w_lenL ?hh ?_); (case hh => walk_at "hp"))
  | ((with_reducible refine' w_lenT ?hh ?_); (case hh => walk_at "hp"))
  | ((with_reducible refine' w_tupL ?hh ?_); (case hh => walk_at "hp"))
  | ((with_reducible refine' w_tupT ?hh ?_); (case hh => walk_at "hp"))
  | ((with_reducible refine' w_catA ?hh ?hh2 ?hz ?_); (case hh => walk_at "hp"); (case hh2 => walk_at "hp"); (case hz => walk_at "len"))
  | ((with_reducible refine' w_repB ?hh ?hne ?h2 ?h3 ?hz ?_); (case hh => walk_at "hp"); (case hne => simp); (case h2 => omega); (case h3 => omega); (case hz => exact Nat.le_of_ble_eq_true rfl))
  | ((with_reducible refine' w_eqN ?hh ?hh2 ?n1 ?n2 ?_); (case hh => walk_at "hp"); (case hh2 => walk_at "hp"); (case n1 => walk_at "nd"); (case n2 => walk_at "nd"))
  | ((with_reducible refine' w_neN ?hh ?hh2 ?n1 ?n2 ?_); (case hh => walk_at "hp"); (case hh2 => walk_at "hp"); (case n1 => walk_at "nd"); (case n2 => walk_at "nd"))
  | ((with_reducible refine' w_eqL ?hh ?hh2 ?n1 ?n2 ?_); (case hh => walk_at "hp"); (case hh2 => walk_at "hp"); (case n1 => walk_at "nd"); (case n2 => walk_at "nd"))
  | ((with_reducible refine' w_neL ?hh ?hh2 ?n1 ?n2 ?_); (case hh => walk_at "hp"); (case hh2 => walk_at "hp"); (case n1 => walk_at "nd"); (case n2 => walk_at "nd"))
  | ((with_reducible refine' w_neNon ?hh2 ?n2 ?_); (case hh2 => walk_at "hp"); (case n2 => walk_at "nd"))
  | ((with_reducible refine' w_eqNon ?hh2 ?n2 ?_); (case hh2 => walk_at "hp"); (case n2 => walk_at "nd"))
  | ((with_reducible refine' w_slA ?hh ?_); (case hh => walk_at "hp"))
  | ((with_reducible refine' w_disp ?hz ?_); (case hz => exact sz_of (Nat.le_of_ble_eq_true rfl)))
  | ((with_reducible refine' w_tyL ?hh ?_); (case hh => walk_at "hp"))
  | (with_reducible refine' iteT ?_)
  | (with_reducible refine' iteF ?_)
  | (with_reducible refine' w_nT ?_)
  | (with_reducible refine' w_nn ?_)
  | (with_reducible refine' w_nnT ?_)
  | (with_reducible refine' w_nnR ?_)
  | (with_reducible refine' w_neG ?_)
  | (with_reducible refine' w_eqG ?_)
  | (with_reducible refine' w_neS ?_)
  | (with_reducible refine' w_eqS ?_)
  | (with_reducible refine' w_neSb ?_)
  | (with_reducible refine' w_eqSb ?_)
  | (with_reducible refine' w_deIS ?_)
  | (with_reducible refine' w_deSI ?_)
  | (with_reducible refine' w_deISn ?_)
  | ((with_reducible refine' w_deST ?he ?_); (case he => decide +kernel))
  | ((with_reducible refine' w_deSF ?he ?_); (case he => decide +kernel))
  | ((with_reducible refine' w_deSTn ?he ?_); (case he => decide +kernel))
  | ((with_reducible refine' w_deSFn ?he ?_); (case he => decide +kernel))
  | (with_reducible refine' w_nF ?_)
  | dsimp only [Bool.not_true, Bool.not_false])
local macro_rules | `(tactic| walk_at "ty") => `(tactic| first
  | exact .base (.int _) | exact .base (.str _) | exact .base (.bl _) | exact .base .non
  | ((refine' tyx_t ?hq); (case hq => walk_at "hp")) | ((refine' tyx_l ?hq); (case hq => walk_at "hp")) | ((refine' .base (.tup ?hq)); (case hq => walk_at "hp")) | assumption)
local macro_rules | `(tactic| walk_at "go") => `(tactic| repeat walk_at "go1")
local macro_rules | `(tactic| walk_at "st") => `(tactic| try dsimp only [cxOf, Cx.nox, Cx.wish])
local macro_rules | `(tactic| walk_at "kit") => `(tactic| with_reducible first | exact kit_int_int | exact kit_int_str | exact kit_int_bool | exact kit_int_tuple | exact kit_int_list | exact kit_str_int | exact kit_str_str | exact kit_str_bool | exact kit_str_tuple | exact kit_str_list | exact kit_bool_int | exact kit_bool_str | exact kit_bool_bool | exact kit_bool_tuple | exact kit_bool_list | exact kit_NoneType_int | exact kit_NoneType_str | exact kit_NoneType_bool | exact kit_NoneType_tuple | exact kit_NoneType_list | exact kit_list_int | exact kit_list_str | exact kit_list_bool | exact kit_list_tuple | exact kit_list_list | exact kit_tuple_int | exact kit_tuple_str | exact kit_tuple_bool | exact kit_tuple_tuple | exact kit_tuple_list)
local macro_rules | `(tactic| walk_at "nd") => `(tactic| first
  | assumption
  | exact Tm.nds _
  | exact Nds.nil
  | exact Nds.ofInts _
  | ((refine' Nds.cons ?na ?nb); (case na => first | exact Nds.I _ | exact Nds.L | exact Nds.A); (case nb => walk_at "nd"))
  | ((refine' Nds.app ?na ?nb); (case na => walk_at "nd"); (case nb => walk_at "nd"))
  | ((refine' Nds.rep ?na _); (case na => walk_at "nd")))
local macro_rules | `(tactic| walk_at "len") => `(tactic| first
  | exact ly_sz (by omega)
  | ((simp only [List.length_append, List.length_cons, List.length_nil, List.length_map, PyProof.Rows.lm_len_rep_flat]); exact ly_sz (by omega)))
/-! ### such terms in the heap -/
inductive NRep (H : Hp) : Addr → Nm → Prop
  | bound {p : Addr} {m : Nat} (h : H p = some (.tup [.str "bound", .int (m : Int)])) : NRep H p (.bound m)
  | free {p : Addr} {n : Nat} (h : H p = some (.tup [.str "free", .int (n : Int)])) : NRep H p (.free n)
  | lam {p q : Addr} {m : Nat} {b : Nm} (h : H p = some (.tup [.str "lam", .int (m : Int), .ref q])) (hb : NRep H q b) : NRep H p (.lam m b)
  | app {p q r : Addr} {f a : Nm} (h : H p = some (.tup [.str "app", .ref q, .ref r])) (hf : NRep H q f) (ha : NRep H r a) : NRep H p (.app f a)
theorem NRep.mono {H H' : Hp} {p : Addr} {t : Nm} (h : NRep H p t) (e : ∀ a xs, H a = some (.tup xs) → H' a = some (.tup xs)) : NRep H' p t := by
  induction h with
  | bound h => exact .bound (e _ _ h)
  | free h => exact .free (e _ _ h)
  | lam h _ ih => exact .lam (e _ _ h) ih
  | app h _ _ i1 i2 => exact .app (e _ _ h) i1 i2
theorem NRep.ex {H H' : Hp} {p : Addr} {t : Nm} (h : NRep H p t) (e : Ex H H') : NRep H' p t := h.mono fun a xs z => e a _ z
theorem NRep.fr {H H' : Hp} {p s : Addr} {t : Nm} {ys : List V} (h : NRep H p t) (e : Fr s H H') (hs : H s = some (.lst ys)) : NRep H' p t := h.mono fun a xs z => e a _ (fun q => by rw [q, hs] at z; cases z) z
def Nm.tall : Nm → Nat
  | .bound _ => 0
  | .free _ => 0
  | .lam _ b => b.tall + 1
  | .app f a => max f.tall a.tall + 1
theorem nest_tall : ∀ (t : Tm) (ms : List Nat) (c : Nat), (nest ms c t).tall = t.tall
  | .var n, ms, c => by
    simp only [nest]
    split <;> rfl
  | .lam b, ms, c => by simp only [nest, Nm.tall, Tm.tall, nest_tall b]
  | .app f a, ms, c => by simp only [nest, Nm.tall, Tm.tall, nest_tall f, nest_tall a]
theorem put_tall (v : Nm) : ∀ t : Nm, (Nm.put v t).tall ≤ t.tall + v.tall
  | .bound m => by simp [Nm.put, Nm.tall]
  | .free n => by
    simp only [Nm.put]
    split
    · omega
    · simp [Nm.tall]
  | .lam m b => by
    have := put_tall v b
    simp only [Nm.put, Nm.tall]
    omega
  | .app f a => by
    have h1 := put_tall v f
    have h2 := put_tall v a
    simp only [Nm.put, Nm.tall]
    omega
theorem Tm.lams_le : ∀ t : Tm, t.lams ≤ t.enc.length
  | .var _ => Nat.zero_le _
  | .lam b => by
    have := Tm.lams_le b
    simp only [Tm.lams, Tm.enc, List.length_cons]
    omega
  | .app f a => by
    have h1 := Tm.lams_le f
    have h2 := Tm.lams_le a
    simp only [Tm.lams, Tm.enc, List.length_cons, List.length_append]
    omega
theorem at_drop {xs r : List V} {i : Nat} {v : V} (h : xs.drop i = v :: r) : xs[i]? = some v ∧ xs.drop (i + 1) = r := by
  constructor
  · have := congrArg (fun l => l[0]?) h
    simpa using this
  · have := congrArg List.tail h
    simpa using this
section
variable {P : Program} {w : World} {K : PySem.W.Frag} {mg : Str → Option Value} {base : Heap} {tk : Nat → Tok} {cl : Nat → Addr}
def spNest (K : PySem.W.Frag) (n : Nat) : Sp := fun vs H Q _ => ∃ (a sc ct : Addr) (i : Nat) (xs post zs : List V) (ms : List Nat) (t : Tm), vs = [.ref a, .int (i : Int), .ref sc, .ref ct] ∧ t.tall < n ∧ SqT K H a xs ∧ xs.drop i = t.enc ++ post ∧ xs.length ≤ 1000 ∧
  H sc = some (.lst (nums ms)) ∧ ms.length + t.enc.length ≤ 1000 ∧ H ct = some (.lst zs) ∧ zs.length + t.enc.length ≤ 2000 ∧ sc ≠ ct ∧
  ∀ H' p q zs', Fr ct H H' → H' ct = some (.lst zs') → zs'.length = zs.length + t.lams → H' p = some (.tup [.ref q, .int ((i + t.enc.length : Nat) : Int)]) → NRep H' q (nest ms zs.length t) → Q (.ref p) H'
theorem ok_nest {f : Addr} {fd : FuncData} (F : Fun K "_law_nest" "_law_nest" s_law_nest f fd) (T : Txt K mg tk cl) (g_law_nest : mg "_law_nest" = some (.ref f)) (kp_law_nest : PySem.W.keepIn K (.ref f) = true) (b_law_nest : Binds K fd ["term", "at", "scope", "count"] []) :
    ∀ n, FnOk P w K mg base CX0 n f fd ["term", "at", "scope", "count"] (spNest K n) := by
  intro n
  induction n with
  | zero =>
    refine ⟨fun vs H Q E h => ?_, fun A outer s H args us vs Q E _ _ _ _ h => ?_⟩
    · obtain ⟨_, _, _, _, _, _, _, _, t, _, h, _⟩ := h
      exact absurd h (Nat.not_lt_zero _)
    · obtain ⟨_, _, _, _, _, _, _, _, t, _, h, _⟩ := h
      exact absurd h (Nat.not_lt_zero _)
  | succ n G_law_nest =>
    refine F.ok sc_law_nest (fun vs H Q E h => ?_) (fun cdv A outer s H vs Q E hr h => ?_)
    · obtain ⟨_, _, _, _, _, _, _, _, _, rfl, _⟩ := h
      rfl
    · obtain ⟨a, sc, ct, i, xs, post, zs, ms, t, rfl, ht, hS, hdr, hxl, hsc, hml, hct, hzl, hne, q⟩ := h
      refine ⟨_, (pss_cons (ps_set (i := 4) sc_law_nest.nd rfl (.inl rfl) (pe_ix ix_tup (pv 0) (pv 1) (fun _ _ => rfl))) (pss_cons (ps_if (pt_cmpR op_eq (pv 4) pe_str (nomark _)) (pss_cons (ps_expr (pe_bm PySem.F.plainAttrs_list PySem.F.slot_list_append PySem.F.type_list_append mt_append (pv 3) (pa_cons pe_int pa_nil))) (pss_cons (ps_set (i := 5) sc_law_nest.nd rfl (.inl rfl) (pe_callB call_len_seq (by rfl) T.n_len (by decide +kernel) (pa_cons (pv 3) pa_nil))) (pss_cons (ps_asg (pe_call G_law_nest (hr.mono (Nat.le_refl _)) (by rfl) g_law_nest kp_law_nest b_law_nest .nil pass0 (pa_cons (pv 0) (pa_cons (pe_op op_add (pv 1) pe_int) (pa_cons (pe_op op_cat (pv 2) (pe_lst (pa_cons (pv 5) pa_nil))) (pa_cons (pv 3) pa_nil))))) (pg_tup (by rfl) (pgs_cons (pg_name (i := 6) sc_law_nest.nd rfl (.inl rfl)) (pgs_cons (pg_name (i := 7) sc_law_nest.nd rfl (.inl rfl)) pgs_nil)))) (pss_one (ps_ret (pe_tup (pa_cons (pe_tup (pa_cons pe_str (pa_cons (pv 5) (pa_cons (pv 6) pa_nil)))) (pa_cons (pv 7) pa_nil)))))))) pss_nil) (pss_cons (ps_if (pt_cmpR op_eq (pv 4) pe_str (nomark _)) (pss_cons (ps_asg (pe_call G_law_nest (hr.mono (Nat.le_refl _)) (by rfl) g_law_nest kp_law_nest b_law_nest .nil pass0 (pa_cons (pv 0) (pa_cons (pe_op op_add (pv 1) pe_int) (pa_cons (pv 2) (pa_cons (pv 3) pa_nil))))) (pg_tup (by rfl) (pgs_cons (pg_name (i := 8) sc_law_nest.nd rfl (.inl rfl)) (pgs_cons (pg_name (i := 9) sc_law_nest.nd rfl (.inl rfl)) pgs_nil)))) (pss_cons (ps_asg (pe_call G_law_nest (hr.mono (Nat.le_refl _)) (by rfl) g_law_nest kp_law_nest b_law_nest .nil pass0 (pa_cons (pv 0) (pa_cons (pv 9) (pa_cons (pv 2) (pa_cons (pv 3) pa_nil))))) (pg_tup (by rfl) (pgs_cons (pg_name (i := 10) sc_law_nest.nd rfl (.inl rfl)) (pgs_cons (pg_name (i := 7) sc_law_nest.nd rfl (.inl rfl)) pgs_nil)))) (pss_one (ps_ret (pe_tup (pa_cons (pe_tup (pa_cons pe_str (pa_cons (pv 8) (pa_cons (pv 10) pa_nil)))) (pa_cons (pv 7) pa_nil))))))) pss_nil) (pss_cons (ps_if (pt_cmpR op_lt (pv 4) (pe_callB call_len_seq (by rfl) T.n_len (by decide +kernel) (pa_cons (pv 2) pa_nil)) (nomark _)) (pss_one (ps_ret (pe_tup (pa_cons (pe_tup (pa_cons pe_str (pa_cons (pe_ix ix_list (pv 2) (pe_op op_sub (pe_op op_sub (pe_callB call_len_seq (by rfl) T.n_len (by decide +kernel) (pa_cons (pv 2) pa_nil)) pe_int) (pv 4)) (fun _ _ => rfl)) pa_nil))) (pa_cons (pe_op op_add (pv 1) pe_int) pa_nil))))) pss_nil) (pss_one (ps_ret (pe_tup (pa_cons (pe_tup (pa_cons pe_str (pa_cons (pe_op op_sub (pv 4) (pe_callB call_len_seq (by rfl) T.n_len (by decide +kernel) (pa_cons (pv 2) pa_nil))) pa_nil))) (pa_cons (pe_op op_add (pv 1) pe_int) pa_nil))))))))), ?_⟩
      refine sl_of (σ2 := [some _, some _, some _, some _, none, none, none, none, none, none, none]) rfl ?_
      walk_at "st"
      have hll : (nums ms).length = ms.length := List.length_map _
      cases t with
      | var k =>
        have hd : xs.drop i = V.int (k : Int) :: post := hdr
        obtain ⟨h1, h2⟩ := at_drop hd
        walk_at "go"
        rw [hll]
        refine w_br (fun h3 => ?_) (fun h3 => ?_)
        · have h4 : k < ms.length := by omega
          walk_at "go"
          have hx : (nums ms)[ms.length - 1 - k]? = some (.int ((ms.getD (ms.length - 1 - k) 0 : Nat) : Int)) := by
            rw [List.getElem?_map, List.getD_eq_getElem?_getD, List.getElem?_eq_getElem (by omega)]
            rfl
          refine w_ixL (SqL.of hsc) (at_of (j := ms.length - 1 - k) (by rw [hll]; omega) hx) ?_
          walk_at "go"
          intro p1 hp1
          walk_at "go"
          intro p2 hp2
          walk_at "go"
          refine q _ p2 p1 zs (by walk_at "fr") (by walk_at "hp") rfl ?_ ?_
          · rw [upd_same]
            rfl
          · have e : nest ms zs.length (.var k) = .bound (ms.getD (ms.length - 1 - k) 0) := if_pos h4
            rw [e]
            exact .bound (by walk_at "hp")
        · have h4 : ¬ k < ms.length := by omega
          walk_at "go"
          intro p1 hp1
          walk_at "go"
          intro p2 hp2
          walk_at "go"
          refine q _ p2 p1 zs (by walk_at "fr") (by walk_at "hp") rfl ?_ ?_
          · rw [upd_same]
            rfl
          · have e : nest ms zs.length (.var k) = .free (k - ms.length) := if_neg h4
            rw [e]
            refine .free ?_
            have e2 : ((k - ms.length : Nat) : Int) = (k : Int) - ((nums ms).length : Int) := by rw [hll]; omega
            rw [e2]
            walk_at "hp"
      | lam b =>
        have hd : xs.drop i = V.str "lam" :: (b.enc ++ post) := hdr
        obtain ⟨h1, h2⟩ := at_drop hd
        have hbl : (Tm.lam b).enc.length = b.enc.length + 1 := rfl
        have hbt : b.tall < n := Nat.lt_of_succ_lt_succ ht
        rw [hbl] at hml hzl
        walk_at "go"
        have hsc1 : upd H ct (.lst (zs ++ [V.int 0])) sc = some (.lst (nums ms)) := by walk_at "hp"
        intro l1 hl1
        walk_at "go"
        · exact ly_sz (by rw [hll]; simp; omega)
        intro l2 hl2
        walk_at "go"
        have hl1c : l1 ≠ ct := (ne_of_none upd_same hl1).symm
        have hl2c : l2 ≠ ct := by
          refine (ne_of_none (H := upd (upd H ct (.lst (zs ++ [V.int 0]))) l1 (.lst [V.int ((zs ++ [V.int 0]).length : Int)])) (b := l2) (o := .lst (zs ++ [V.int 0])) ?_ hl2).symm
          walk_at "hp"
        have em : nums ms ++ [V.int ((zs ++ [V.int 0]).length : Int)] = nums (ms ++ [zs.length + 1]) := by simp [nums]
        rw [em]
        refine ⟨a, l2, ct, i + 1, xs, post, zs ++ [V.int 0], ms ++ [zs.length + 1], b, rfl, hbt, fr_t (by walk_at "fr") hct hS, h2, hxl, upd_same, by simp; omega, by walk_at "hp", by simp; omega, hl2c, fun H1 p q1 zs1 fr1 hct1 hzs1 hp hq => ?_⟩
        have frA : Fr ct H H1 := Fr.trans (by walk_at "fr") fr1
        walk_at "go"
        intro p1 hp1
        walk_at "go"
        intro p2 hp2
        walk_at "go"
        have hp2c : p2 ≠ ct := by
          refine (ne_of_none (H := upd H1 p1 (.tup [V.str "lam", V.int ((zs ++ [V.int 0]).length : Int), V.ref q1])) (b := p2) (o := .lst zs1) ?_ hp2).symm
          walk_at "hp"
        have em2 : (zs ++ [V.int 0]).length = zs.length + 1 := by simp
        rw [em2] at hzs1 hq
        refine q _ p2 p1 zs1 (by walk_at "fr") (by walk_at "hp") (by rw [hzs1]; simp only [Tm.lams]; omega) ?_ ?_
        · rw [upd_same, hbl]
          congr 5
          omega
        · refine .lam (m := zs.length + 1) (q := q1) ?_ (hq.ex ((Ex.new hp1).trans (Ex.new hp2)))
          rw [em2]
          walk_at "hp"
      | app f1 a1 =>
        have hd : xs.drop i = V.str "app" :: (f1.enc ++ a1.enc ++ post) := hdr
        obtain ⟨h1, h2⟩ := at_drop hd
        have hbl : (Tm.app f1 a1).enc.length = f1.enc.length + a1.enc.length + 1 := by simp [Tm.enc]
        have ht1 : f1.tall < n := by simp only [Tm.tall] at ht; omega
        have ht2 : a1.tall < n := by simp only [Tm.tall] at ht; omega
        have lf := Tm.lams_le f1
        rw [hbl] at hml hzl
        walk_at "go"
        refine ⟨a, sc, ct, i + 1, xs, a1.enc ++ post, zs, ms, f1, rfl, ht1, hS, by rw [h2, List.append_assoc], hxl, hsc, by omega, hct, by omega, hne, fun H1 p q1 zs1 fr1 hct1 hzs1 hp hq => ?_⟩
        walk_at "go"
        have hdr2 : xs.drop (i + 1 + f1.enc.length) = a1.enc ++ post := by
          rw [← List.drop_drop, h2, List.append_assoc, List.drop_left]
        refine ⟨a, sc, ct, i + 1 + f1.enc.length, xs, post, zs1, ms, a1, rfl, ht2, fr_t fr1 hct hS, hdr2, hxl, fr1 _ _ hne hsc, by omega, hct1, by omega, hne, fun H2 p2 q2 zs2 fr2 hct2 hzs2 hp2 hq2 => ?_⟩
        walk_at "go"
        intro p3 hp3
        walk_at "go"
        intro p4 hp4
        walk_at "go"
        refine q _ p4 p3 zs2 (by walk_at "fr") (by walk_at "hp") (by rw [hzs2, hzs1]; simp only [Tm.lams]; omega) ?_ ?_
        · rw [upd_same, hbl]
          congr 5
          omega
        · refine .app (q := q1) (r := q2) (by walk_at "hp") ((hq.fr fr2 hct1).ex ((Ex.new hp3).trans (Ex.new hp4))) ?_
          rw [hzs1] at hq2
          exact hq2.ex ((Ex.new hp3).trans (Ex.new hp4))
def spNput (n : Nat) : Sp := fun vs H Q _ => ∃ (p v : Addr) (t u : Nm), vs = [.ref p, .ref v] ∧ t.tall < n ∧ NRep H p t ∧ NRep H v u ∧ ∀ H' r, Ex H H' → NRep H' r (Nm.put u t) → Q (.ref r) H'
theorem ok_nput {f : Addr} {fd : FuncData} (F : Fun K "_law_named_put" "_law_named_put" s_law_named_put f fd) (T : Txt K mg tk cl) (g_law_named_put : mg "_law_named_put" = some (.ref f)) (kp_law_named_put : PySem.W.keepIn K (.ref f) = true) (b_law_named_put : Binds K fd ["tree", "value"] []) :
    ∀ n, FnOk P w K mg base CX0 n f fd ["tree", "value"] (spNput n) := by
  intro n
  induction n with
  | zero =>
    refine ⟨fun vs H Q E h => ?_, fun A outer s H args us vs Q E _ _ _ _ h => ?_⟩
    · obtain ⟨_, _, t, _, _, h, _⟩ := h
      exact absurd h (Nat.not_lt_zero _)
    · obtain ⟨_, _, t, _, _, h, _⟩ := h
      exact absurd h (Nat.not_lt_zero _)
  | succ n G_law_named_put =>
    refine F.ok sc_law_named_put (fun vs H Q E h => ?_) (fun cdv A outer s H vs Q E hr h => ?_)
    · obtain ⟨_, _, _, _, rfl, _⟩ := h
      rfl
    · obtain ⟨p, v, t, u, rfl, ht, hp, hv, q⟩ := h
      refine ⟨_, (pss_cons (ps_if (pt_cmpR op_eq (pe_ix ix_tup (pv 0) pe_int (fun _ _ => rfl)) pe_str (nomark _)) (pss_one (ps_ret (pe_tup (pa_cons pe_str (pa_cons (pe_ix ix_tup (pv 0) pe_int (fun _ _ => rfl)) (pa_cons (pe_call G_law_named_put (hr.mono (Nat.le_refl _)) (by rfl) g_law_named_put kp_law_named_put b_law_named_put .nil pass0 (pa_cons (pe_ix ix_tup (pv 0) pe_int (fun _ _ => rfl)) (pa_cons (pv 1) pa_nil))) pa_nil)))))) pss_nil) (pss_cons (ps_if (pt_cmpR op_eq (pe_ix ix_tup (pv 0) pe_int (fun _ _ => rfl)) pe_str (nomark _)) (pss_one (ps_ret (pe_tup (pa_cons pe_str (pa_cons (pe_call G_law_named_put (hr.mono (Nat.le_refl _)) (by rfl) g_law_named_put kp_law_named_put b_law_named_put .nil pass0 (pa_cons (pe_ix ix_tup (pv 0) pe_int (fun _ _ => rfl)) (pa_cons (pv 1) pa_nil))) (pa_cons (pe_call G_law_named_put (hr.mono (Nat.le_refl _)) (by rfl) g_law_named_put kp_law_named_put b_law_named_put .nil pass0 (pa_cons (pe_ix ix_tup (pv 0) pe_int (fun _ _ => rfl)) (pa_cons (pv 1) pa_nil))) pa_nil)))))) pss_nil) (pss_cons (ps_if (pt_cmpR op_eq (pe_ix ix_tup (pv 0) pe_int (fun _ _ => rfl)) pe_str (nomark _)) (pss_one (ps_ret (pv 0))) pss_nil) (pss_cons (ps_if (pt_cmpR op_eq (pe_ix ix_tup (pv 0) pe_int (fun _ _ => rfl)) pe_int (nomark _)) (pss_one (ps_ret (pv 1))) pss_nil) (pss_one (ps_ret (pe_tup (pa_cons pe_str (pa_cons (pe_op op_sub (pe_ix ix_tup (pv 0) pe_int (fun _ _ => rfl)) pe_int) pa_nil))))))))), ?_⟩
      refine sl_of (σ2 := [some _, some _]) rfl ?_
      walk_at "st"
      cases hp with
      | bound h1 =>
        walk_at "go"
        exact q _ p (Ex.refl _) (.bound h1)
      | @free p k h1 =>
        walk_at "go"
        refine w_brI (fun h3 => ?_) (fun h3 => ?_)
        · have h4 : k = 0 := by omega
          subst h4
          walk_at "go"
          exact q _ v (Ex.refl _) hv
        · have e : Nm.put u (.free k) = .free (k - 1) := if_neg (by omega)
          rw [e] at q
          walk_at "go"
          intro p1 hp1
          walk_at "go"
          refine q _ p1 (by walk_at "ex") (.free ?_)
          have e2 : ((k - 1 : Nat) : Int) = (k : Int) - 1 := by omega
          rw [upd_same, e2]
      | @lam p q1 m b h1 hb =>
        have ht1 : b.tall < n := Nat.lt_of_succ_lt_succ ht
        walk_at "go"
        refine ⟨q1, v, b, u, rfl, ht1, hb, hv, fun H1 r e1 hr1 => ?_⟩
        walk_at "go"
        intro p1 hp1
        walk_at "go"
        exact q _ p1 (by walk_at "ex") (.lam upd_same (hr1.ex (Ex.new hp1)))
      | @app p q1 q2 f1 a1 h1 hf ha =>
        have ht1 : f1.tall < n := by simp only [Nm.tall] at ht; omega
        have ht2 : a1.tall < n := by simp only [Nm.tall] at ht; omega
        walk_at "go"
        refine ⟨q1, v, f1, u, rfl, ht1, hf, hv, fun H1 r e1 hr1 => ?_⟩
        walk_at "go"
        refine ⟨q2, v, a1, u, rfl, ht2, ha.ex e1, hv.ex e1, fun H2 r2 e2 hr2 => ?_⟩
        walk_at "go"
        intro p1 hp1
        walk_at "go"
        exact q _ p1 ((e1.trans e2).trans (Ex.new hp1)) (.app upd_same ((hr1.ex e2).ex (Ex.new hp1)) (hr2.ex (Ex.new hp1)))
def spFlat (K : PySem.W.Frag) (n : Nat) : Sp := fun vs H Q _ => ∃ (p sc : Addr) (t : Nm) (ms : List Nat), vs = [.ref p, .ref sc] ∧ t.tall < n ∧ NRep H p t ∧ H sc = some (.lst (nums ms)) ∧ ms.length + n ≤ 1000 ∧ (Nm.flat ms t).length ≤ 3000 ∧
  ∀ H' r, Ex H H' → SqT K H' r (Nm.flat ms t) → Q (.ref r) H'
theorem ok_flat {f : Addr} {fd : FuncData} (F : Fun K "_law_flat" "_law_flat" s_law_flat f fd) (T : Txt K mg tk cl) (g_law_flat : mg "_law_flat" = some (.ref f)) (kp_law_flat : PySem.W.keepIn K (.ref f) = true) (b_law_flat : Binds K fd ["tree", "scope"] []) :
    ∀ n, FnOk P w K mg base CX0 n f fd ["tree", "scope"] (spFlat K n) := by
  intro n
  induction n with
  | zero =>
    refine ⟨fun vs H Q E h => ?_, fun A outer s H args us vs Q E _ _ _ _ h => ?_⟩
    · obtain ⟨_, _, t, _, _, h, _⟩ := h
      exact absurd h (Nat.not_lt_zero _)
    · obtain ⟨_, _, t, _, _, h, _⟩ := h
      exact absurd h (Nat.not_lt_zero _)
  | succ n G_law_flat =>
    refine F.ok sc_law_flat (fun vs H Q E h => ?_) (fun cdv A outer s H vs Q E hr h => ?_)
    · obtain ⟨_, _, _, _, rfl, _⟩ := h
      rfl
    · obtain ⟨p, sc, t, ms, rfl, ht, hp, hsc, hml, hfl, q⟩ := h
      have hll : (nums ms).length = ms.length := List.length_map _
      refine ⟨_, (pss_cons (ps_if (pt_cmpR op_eq (pe_ix ix_tup (pv 0) pe_int (fun _ _ => rfl)) pe_str (nomark _)) (pss_one (ps_ret (pe_op op_catA (pe_tup (pa_cons pe_str pa_nil)) (pe_call G_law_flat (hr.mono (Nat.le_refl _)) (by rfl) g_law_flat kp_law_flat b_law_flat .nil pass0 (pa_cons (pe_ix ix_tup (pv 0) pe_int (fun _ _ => rfl)) (pa_cons (pe_op op_cat (pv 1) (pe_lst (pa_cons (pe_ix ix_tup (pv 0) pe_int (fun _ _ => rfl)) pa_nil))) pa_nil)))))) pss_nil) (pss_cons (ps_if (pt_cmpR op_eq (pe_ix ix_tup (pv 0) pe_int (fun _ _ => rfl)) pe_str (nomark _)) (pss_one (ps_ret (pe_op op_catA (pe_op op_catA (pe_tup (pa_cons pe_str pa_nil)) (pe_call G_law_flat (hr.mono (Nat.le_refl _)) (by rfl) g_law_flat kp_law_flat b_law_flat .nil pass0 (pa_cons (pe_ix ix_tup (pv 0) pe_int (fun _ _ => rfl)) (pa_cons (pv 1) pa_nil)))) (pe_call G_law_flat (hr.mono (Nat.le_refl _)) (by rfl) g_law_flat kp_law_flat b_law_flat .nil pass0 (pa_cons (pe_ix ix_tup (pv 0) pe_int (fun _ _ => rfl)) (pa_cons (pv 1) pa_nil)))))) pss_nil) (pss_cons (ps_if (pt_cmpR op_eq (pe_ix ix_tup (pv 0) pe_int (fun _ _ => rfl)) pe_str (nomark _)) (pss_one (ps_ret (pe_tup (pa_cons (pe_op op_add (pe_callB call_len_seq (by rfl) T.n_len (by decide +kernel) (pa_cons (pv 1) pa_nil)) (pe_ix ix_tup (pv 0) pe_int (fun _ _ => rfl))) pa_nil)))) pss_nil) (pss_cons (ps_set (i := 2) sc_law_flat.nd rfl (.inl rfl) pe_int) (pss_cons (ps_for PassesOwn.never rfl (pi_range1 (by rfl) T.n_range (pa_cons (pe_callB call_len_seq (by rfl) T.n_len (by decide +kernel) (pa_cons (pv 1) pa_nil)) pa_nil)) (pg_name (i := 3) sc_law_flat.nd rfl (.inl rfl)) (pss_one (ps_if (pt_cmpR op_eq (pe_ix ix_list (pv 1) (pv 3) (fun _ _ => rfl)) (pe_ix ix_tup (pv 0) pe_int (fun _ _ => rfl)) (nomark _)) (pss_one (ps_set (i := 2) sc_law_flat.nd rfl (.inl rfl) (pe_op op_sub (pe_op op_sub (pe_callB call_len_seq (by rfl) T.n_len (by decide +kernel) (pa_cons (pv 1) pa_nil)) pe_int) (pv 3)))) pss_nil))) (pss_one (ps_ret (pe_tup (pa_cons (pv 2) pa_nil))))))))), ?_⟩
      refine sl_of (σ2 := [some _, some _, none, none]) rfl ?_
      walk_at "st"
      cases hp with
      | @bound p m h1 =>
        walk_at "go"
        refine for_range (lo := 0) (n := ((nums ms).length : Int).toNat) (fun i σ H' => ∃ y, σ = [some (.ref p), some (.ref sc), some (.int (fnd ms m i : Nat)), y] ∧ H' = H) ⟨none, rfl, rfl⟩ ?_ ?_
        · rintro i σ H2 hi ⟨y, rfl, rfl⟩
          have hil : i < ms.length := by omega
          have hx : (nums ms)[i]? = some (.int ((ms[i] : Nat) : Int)) := by
            rw [List.getElem?_map, List.getElem?_eq_getElem hil]
            rfl
          walk_at "go"
          refine w_brI (fun h3 => ?_) (fun h3 => ?_)
          · walk_at "go"
            have e : fnd ms m (i + 1) = ms.length - 1 - i := if_pos (by rw [List.getElem?_eq_getElem hil]; congr 1; omega)
            have e2 : ((ms.length - 1 - i : Nat) : Int) = ((nums ms).length : Int) - 1 - (0 + i) := by rw [hll]; omega
            rw [e, e2]
            exact ⟨_, rfl, rfl⟩
          · walk_at "go"
            have e : fnd ms m (i + 1) = fnd ms m i := if_neg (by rw [List.getElem?_eq_getElem hil]; intro z; exact h3 (by rw [Option.some.inj z]))
            rw [e]
            exact ⟨_, rfl, rfl⟩
        · rintro σ H2 ⟨y, rfl, rfl⟩
          walk_at "go"
          intro p1 hp1
          walk_at "go"
          refine q _ p1 (by walk_at "ex") (SqT.of ?_)
          rw [upd_same]
          simp only [Nm.flat]
          rw [hll]
          rfl
      | @free p k h1 =>
        walk_at "go"
        intro p1 hp1
        walk_at "go"
        refine q _ p1 (by walk_at "ex") (SqT.of ?_)
        rw [upd_same, hll]
        rfl
      | @lam p q1 m b h1 hb =>
        have ht1 : b.tall < n := Nat.lt_of_succ_lt_succ ht
        have hfl1 : (Nm.flat (ms ++ [m]) b).length + 1 ≤ 3000 := hfl
        walk_at "go"
        intro p1 hp1
        walk_at "go"
        intro l1 hl1
        walk_at "go"
        · exact ly_sz (by rw [hll]; simp; omega)
        intro l2 hl2
        walk_at "go"
        have em : nums ms ++ [V.int (m : Int)] = nums (ms ++ [m]) := by simp [nums]
        rw [em]
        refine ⟨q1, l2, b, ms ++ [m], rfl, ht1, ((hb.ex (Ex.new hp1)).ex (Ex.new hl1)).ex (Ex.new hl2), upd_same, by simp; omega, by omega, fun H1 r e1 hr1 => ?_⟩
        walk_at "go"
        intro x H2 e2 hx
        walk_at "go"
        exact q _ x ((((Ex.new hp1).trans (Ex.new hl1)).trans (Ex.new hl2)).trans (e1.trans e2)) hx
      | @app p q1 q2 f1 a1 h1 hf ha =>
        have ht1 : f1.tall < n := by simp only [Nm.tall] at ht; omega
        have ht2 : a1.tall < n := by simp only [Nm.tall] at ht; omega
        have hfl1 : (Nm.flat ms f1).length + (Nm.flat ms a1).length + 1 ≤ 3000 := by simpa [Nm.flat] using hfl
        walk_at "go"
        intro p1 hp1
        walk_at "go"
        refine ⟨q1, sc, f1, ms, rfl, ht1, hf.ex (Ex.new hp1), Ex.new hp1 _ _ hsc, by omega, by omega, fun H1 r e1 hr1 => ?_⟩
        walk_at "go"
        intro x H2 e2 hx
        walk_at "go"
        have ee : Ex H H2 := (Ex.new hp1).trans (e1.trans e2)
        refine ⟨q2, sc, a1, ms, rfl, ht2, ha.ex ee, ee _ _ hsc, by omega, by omega, fun H3 r3 e3 hr3 => ?_⟩
        walk_at "go"
        intro y H4 e4 hy
        walk_at "go"
        exact q _ y (ee.trans (e3.trans e4)) hy
end
end Ly
set_option Elab.async false
set_option linter.all false
set_option maxRecDepth 100000
set_option maxHeartbeats 8000000
namespace Ly
open PySem PySem.Spec PyProof.Rows L2 Evl
local macro_rules | `(tactic| walk_at "ne") => `(tactic| first
  | assumption
  | ((refine' Ne.symm ?hq); (case hq => assumption))
  | ((refine' ne_of_none ?nh1 ?nh2); (case nh2 => assumption); (case nh1 => walk_at "hp"))
  | ((refine' Ne.symm (ne_of_none ?nh1 ?nh2)); (case nh2 => assumption); (case nh1 => walk_at "hp")))
local macro_rules | `(tactic| walk_at "hp") => `(tactic| first
  | assumption
  | exact upd_same
  | ((refine' SqL.of ?hq); (case hq => walk_at "hp"))
  | ((refine' SqT.of ?hq); (case hq => walk_at "hp"))
  | ((refine' (upd_ne ?hne).trans ?hrest); (case hne => walk_at "ne"); (case hrest => walk_at "hp"))
  | ((refine' ly_at ?hex ?hh); (case hex => assumption); (case hh => walk_at "hp"))
  | ((refine' ly_atF ?hex ?hnn ?hh); (case hex => assumption); (case hh => walk_at "hp"); (case hnn => walk_at "ne"))
  | ((refine' ex_t ?hex ?hh); (case hh => assumption); (case hex => walk_at "ex"))
  | ((refine' ex_l ?hex ?hh); (case hh => assumption); (case hex => walk_at "ex")))
local macro_rules | `(tactic| walk_at "ex") => `(tactic| first
  | assumption
  | exact Ex.refl _
  | ((refine' ex_new ?xa ?xb); (case xb => assumption); (case xa => walk_at "ex"))
  | ((refine' ex_upd ?xa ?xb); (case xb => walk_at "free"); (case xa => walk_at "ex"))
  | ((refine' Ex.trans ?xa ?xb); (case xb => assumption); (case xa => walk_at "ex")))
local macro_rules | `(tactic| walk_at "free") => `(tactic| first
  | assumption
  | ((refine' fresh_back ?xa ?xb); (case xb => assumption); (case xa => walk_at "ex")))
local macro_rules | `(tactic| walk_at "fr") => `(tactic| first
  | assumption
  | exact Fr.refl _ _
  | ((refine' Fr.own ?hq); (case hq => walk_at "fr"))
  | ((refine' Fr.new ?xa ?xb); (case xb => assumption); (case xa => walk_at "fr"))
  | ((refine' Fr.mut ?xa ?xb); (case xb => assumption); (case xa => walk_at "fr"))
  | ((refine' Fr.trans ?xa ?xb); (case xb => assumption); (case xa => walk_at "fr"))
  | ((refine' Fr.trans ?xa (Fr.ex ?xb)); (case xb => assumption); (case xa => walk_at "fr")))
local macro_rules | `(tactic| walk_at "go1") => `(tactic| first
  | (with_reducible refine' w_seq ?_)
  | (with_reducible refine' w_asg ?_)
  | (with_reducible refine' w_ret ?_)
  | (with_reducible refine' w_drop ?_)
  | (with_reducible refine' w_if ?_)
  | (with_reducible refine' w_next ?_)
  | (with_reducible refine' w_name ?_)
  | (with_reducible refine' w_sub ?_)
  | ((with_reducible refine' w_var ?hv ?_); (case hv => exact rfl))
  | (with_reducible refine' w_c ?_)
  | (with_reducible refine' w_op ?_)
  | (with_reducible refine' w_un ?_)
  | (with_reducible refine' w_ch ?_)
  | (with_reducible refine' w_I0 ?_)
  | ((with_reducible refine' w_I ?hc ?_); (case hc => first | (exact ly_mulL (by decide) (by decide)) | (exact ly_mulR (by decide) (by decide)) | (exact ly_mulL (by omega) (by omega)) | (show (_ : Int) ≠ 0; decide) | (show (_ : Int) ≠ 0; omega) | (exact ⟨by decide, by decide⟩) | (exact ⟨by omega, by omega⟩)))
  | (with_reducible refine' w_U ?_)
  | ((with_reducible refine' w_eq ?hs ?_); (case hs => exact rfl))
  | ((with_reducible refine' w_ne ?hs ?_); (case hs => exact rfl))
  | (with_reducible refine' w_isB ?_)
  | (with_reducible refine' w_notB ?_)
  | (with_reducible refine' w_nil ?_)
  | (with_reducible refine' w_cons ?_)
  | (with_reducible refine' w_tup ?_)
  | (with_reducible refine' w_lst ?_)
  | (with_reducible refine' w_cb ?_)
  | (with_reducible refine' w_call ?_)
  | (with_reducible refine' w_bm ?_)
  | (with_reducible refine' w_bm0 ?_)
  | ((with_reducible refine' w_app ?hh ?hz ?_); (case hh => walk_at "hp"); (case hz => first | exact sz_lt (by omega) | exact sz_lt (by simp only [List.length_append, List.length_map, List.length_cons, List.length_nil]; omega)))
  | ((with_reducible refine' w_popA ?hh ?_); (case hh => walk_at "hp"))
  | ((with_reducible refine' w_ext ?hh ?hh2 ?hz ?_); (case hh => walk_at "hp"); (case hh2 => walk_at "hp"))
  | ((with_reducible refine' w_ixL ?hh ?ha ?_); (case hh => walk_at "hp"); (case ha => first | exact rfl | exact at_map (by omega) | exact atI_last _ _ | ((refine' at_of ?ae ?ah); (case ah => assumption); (case ae => omega))))
  | ((with_reducible refine' w_ixT ?hh ?ha ?_); (case hh => walk_at "hp"); (case ha => first | exact rfl | exact at_map (by omega) | exact atI_last _ _ | ((refine' at_of ?ae ?ah); (case ah => assumption); (case ae => omega))))
  | ((with_reducible refine' w_cat ?hh ?hh2 ?hz ?_); (case hh => walk_at "hp"); (case hh2 => walk_at "hp"))
  | ((with_reducible refine' w_setL ?hh ?ha ?_); (case hh => walk_at "hp"); (case ha => exact rfl))
  | (with_reducible refine' w_test ?_)
  | (with_reducible refine' w_tB ?_)
  | (with_reducible refine' w_bl ?_)
  | (with_reducible refine' w_and ?_)
  | (with_reducible refine' w_or ?_)
  | (with_reducible refine' w_not ?_)
  | (with_reducible refine' w_andV ?_)
  | (with_reducible refine' w_orV ?_)
  | (with_reducible refine' w_notV ?_)
  | (with_reducible refine' w_ifE ?_)
  | (with_reducible refine' w_for ?_)
  | ((with_reducible refine' w_nin ?hh ?_); (case hh => walk_at "hp"))
  | ((with_reducible refine' w_sorted ?hh ?_); (case hh => walk_at "hp"))
  | (with_reducible refine' w_tsadd ?_)
  | ((with_reducible refine' w_tsadd1 ?hh ?_); (case hh => walk_at "hp"))
  | ((with_reducible refine' w_sadd ?hh ?hr ?_); (case hh => walk_at "hp"); (case hr => omega))
  | (with_reducible refine' w_iZ ?_)
  | ((with_reducible refine' w_iZ1 ?hh ?hh2 ?_); (case hh => walk_at "hp"); (case hh2 => walk_at "hp"))
  | (with_reducible refine' w_iS ?_)
  | (with_reducible refine' w_iS1 ?_)
  | ((with_reducible refine' w_gtup ?hh ?hn ?_); (case hh => walk_at "hp"); (case hn => exact rfl))
  | (with_reducible refine' w_gcons ?_)
  | (with_reducible refine' w_gnil ?_)
  | (with_reducible refine' w_js ?_)
  | (with_reducible refine' w_jsn ?_)
  | ((with_reducible refine' w_js1 ?hl ?_); (case hl => decide +kernel))
  | (with_reducible refine' w_fmt ?_)
  | ((with_reducible refine' w_fmt1 ?hl ?_); (case hl => decide +kernel))
  | (with_reducible refine' w_callS ?_)
  | ((with_reducible refine' w_truL ?hh ?_); (case hh => walk_at "hp"))
  | (with_reducible refine' w_lc ?_)
  | (with_reducible refine' w_yes ?_)
  | ((with_reducible refine' w_wipe ?he ?_); (case he => exact rfl))
  | (with_reducible refine' w_iL ?_)
  | (with_reducible refine' w_iT ?_)
  | (with_reducible refine' w_iR ?_)
  | ((with_reducible refine' w_iL1 ?hh ?_); (case hh => walk_at "hp"))
  | ((with_reducible refine' w_iT1 ?hh ?_); (case hh => walk_at "hp"))
  | ((with_reducible refine' w_iR1 ?h1 ?h2 ?_); (case h1 => omega); (case h2 => omega))
  | ((with_reducible refine' w_aug ?hv ?_); (case hv => exact rfl))
  | (with_reducible refine' w_ipI ?_)
  | ((with_reducible refine' w_isi ?hy ?hk ?_); (case hy => walk_at "ty"); (case hk => walk_at "kit"))
  | ((with_reducible refine' w_int ?_))
  | ((with_reducible refine' w_intB ?_))
  | ((with_reducible refine' w_abs ?_))
  | ((with_reducible refine' w_lenL ?hh ?_); (case hh => walk_at "hp"))
  | ((with_reducible refine' w_lenT ?hh ?_); (case hh => walk_at "hp"))
  | ((with_reducible refine' w_tupL ?hh ?_); (case hh => walk_at "hp"))
  | ((with_reducible refine' w_tupT ?hh ?_); (case hh => walk_at "hp"))
  | ((with_reducible refine' w_catA ?hh ?hh2 ?hz ?_); (case hh => walk_at "hp"); (case hh2 => walk_at "hp"); (case hz => walk_at "len"))
  | ((with_reducible refine' w_repB ?hh ?hne ?h2 ?h3 ?hz ?_); (case hh => walk_at "hp"); (case hne => simp); (case h2 => omega); (case h3 => omega); (case hz => exact Nat.le_of_ble_eq_true rfl))
  | ((with_reducible refine' w_eqN ?hh ?hh2 ?n1 ?n2 ?_); (case hh => walk_at "hp"); (case hh2 => walk_at "hp"); (case n1 => walk_at "nd"); (case n2 => walk_at "nd"))
  | ((with_reducible refine' w_neN ?hh ?hh2 ?n1 ?n2 ?_); (case hh => walk_at "hp"); (case hh2 => walk_at "hp"); (case n1 => walk_at "nd"); (case n2 => walk_at "nd"))
  | ((with_reducible refine' w_eqL ?hh ?hh2 ?n1 ?n2 ?_); (case hh => walk_at "hp"); (case hh2 => walk_at "hp"); (case n1 => walk_at "nd"); (case n2 => walk_at "nd"))
  | ((with_reducible refine' w_neL ?hh ?hh2 ?n1 ?n2 ?_); (case hh => walk_at "hp"); (case hh2 => walk_at "hp"); (case n1 => walk_at "nd"); (case n2 => walk_at "nd"))
  | ((with_reducible refine' w_neNon ?hh2 ?n2 ?_); (case hh2 => walk_at "hp"); (case n2 => walk_at "nd"))
  | ((with_reducible refine' w_eqNon ?hh2 ?n2 ?_); (case hh2 => walk_at "hp"); (case n2 => walk_at "nd"))
  | ((with_reducible refine' w_slA ?hh ?_); (case hh => walk_at "hp"))
  | ((with_reducible refine' w_disp ?hz ?_); (case hz => exact sz_of (Nat.le_of_ble_eq_true rfl)))
  | ((with_reducible refine' w_tyL ?hh ?_); (case hh => walk_at "hp"))
  | (with_reducible refine' iteT ?_)
  | (with_reducible refine' iteF ?_)
  | (with_reducible refine' w_nT ?_)
  | (with_reducible refine' w_nn ?_)
  | (with_reducible refine' w_nnT ?_)
  | (with_reducible refine' w_nnR ?_)
  | (with_reducible refine' w_neG ?_)
  | (with_reducible refine' w_eqG ?_)
  | (with_reducible refine' w_neS ?_)
  | (with_reducible refine' w_eqS ?_)
  | (with_reducible refine' w_neSb ?_)
  | (with_reducible refine' w_eqSb ?_)
  | (with_reducible refine' w_deIS ?_)
  | (with_reducible refine' w_deSI ?_)
  | (with_reducible refine' w_deISn ?_)
  | ((with_reducible refine' w_deST ?he ?_); (case he => decide +kernel))
  | ((with_reducible refine' w_deSF ?he ?_); (case he => decide +kernel))
  | ((with_reducible refine' w_deSTn ?he ?_); (case he => decide +kernel))
  | ((with_reducible refine' w_deSFn ?he ?_); (case he => decide +kernel))
  | (with_reducible refine' w_nF ?_)
  | dsimp only [Bool.not_true, Bool.not_false])
local macro_rules | `(tactic| walk_at "ty") => `(tactic| first
  | exact .base (.int _) | exact .base (.str _) | exact .base (.bl _) | exact .base .non
  | ((refine' tyx_t ?hq); (case hq => walk_at "hp")) | ((refine' tyx_l ?hq); (case hq => walk_at "hp")) | ((refine' .base (.tup ?hq)); (case hq => walk_at "hp")) | assumption)
local macro_rules | `(tactic| walk_at "go") => `(tactic| repeat walk_at "go1")
local macro_rules | `(tactic| walk_at "st") => `(tactic| try dsimp only [cxOf, Cx.nox, Cx.wish])
local macro_rules | `(tactic| walk_at "kit") => `(tactic| with_reducible first | exact kit_int_int | exact kit_int_str | exact kit_int_bool | exact kit_int_tuple | exact kit_int_list | exact kit_str_int | exact kit_str_str | exact kit_str_bool | exact kit_str_tuple | exact kit_str_list | exact kit_bool_int | exact kit_bool_str | exact kit_bool_bool | exact kit_bool_tuple | exact kit_bool_list | exact kit_NoneType_int | exact kit_NoneType_str | exact kit_NoneType_bool | exact kit_NoneType_tuple | exact kit_NoneType_list | exact kit_list_int | exact kit_list_str | exact kit_list_bool | exact kit_list_tuple | exact kit_list_list | exact kit_tuple_int | exact kit_tuple_str | exact kit_tuple_bool | exact kit_tuple_tuple | exact kit_tuple_list)
local macro_rules | `(tactic| walk_at "nd") => `(tactic| first
  | assumption
  | exact Tm.nds _
  | exact Nds.nil
  | exact Nds.ofInts _
  | ((refine' Nds.cons ?na ?nb); (case na => first | exact Nds.I _ | exact Nds.L | exact Nds.A); (case nb => walk_at "nd"))
  | ((refine' Nds.app ?na ?nb); (case na => walk_at "nd"); (case nb => walk_at "nd"))
  | ((refine' Nds.rep ?na _); (case na => walk_at "nd")))
local macro_rules | `(tactic| walk_at "len") => `(tactic| first
  | exact ly_sz (by omega)
  | ((simp only [List.length_append, List.length_cons, List.length_nil, List.length_map, PyProof.Rows.lm_len_rep_flat]); exact ly_sz (by omega)))
theorem w_sl {r : V → Option Int → Option Int → Hp → VK → Prop} {te : TE} {tl th : TO} {σ : L2.St} {H : Hp} {Q : VK} (h : te σ H fun x H1 => tl σ H1 fun l H2 => th σ H2 fun u H3 => r x l u H3 Q) : L2.tSl r te tl th σ H Q := h
theorem w_noP {σ : L2.St} {H : Hp} {Q : Option Int → Hp → Prop} (h : Q none H) : tNoPart σ H Q := h
theorem w_part {t : TE} {σ : L2.St} {H : Hp} {Q : Option Int → Hp → Prop} (h : t σ H fun x H1 => ∃ i, x = .int i ∧ Q (some i) H1) : tPart t σ H Q := h
theorem w_some {A : Int → Prop} {i : Int} (h : A i) : ∃ j, V.int i = .int j ∧ A j := ⟨i, rfl, h⟩
local macro_rules | `(tactic| walk_at "go1") => `(tactic| first
  | (with_reducible refine' w_sl ?_)
  | (with_reducible refine' w_noP ?_)
  | (with_reducible refine' w_part ?_)
  | (with_reducible refine' w_some ?_))
theorem cut_one {x : V} {r : List V} : cutV (x :: r) none (some 1) = [x] := by
  simp [cutV, HT.sIx]
theorem cut_rest {x : V} {r : List V} : cutV (x :: r) (some 1) none = r := by
  simp [cutV, HT.sIx]
section
variable {P : Program} {w : World} {K : PySem.W.Frag} {mg : Str → Option Value} {base : Heap} {tk : Nat → Tok} {cl : Nat → Addr}
def spLaw (K : PySem.W.Frag) : Sp := fun vs H Q _ => ∃ (a : Addr) (ns : List Int), vs = [.ref a] ∧ SqL K H a (ns.map V.int) ∧ ns.length ≤ 63 ∧ ∀ H', Q (.bl true) H'
theorem ok_law {f : Addr} {fd : FuncData} (F : Fun K "law" "law" s_law f fd) (T : Txt K mg tk cl)
    (D1 : Def P w K mg base CX0 1 "_law_stream" ["script"] (spStream K)) (D2 : Def P w K mg base CX0 1 "_law_draw" ["stream", "many"] spDraw) (D3 : Def P w K mg base CX0 2 "_law_term" ["stream", "size", "loose"] spTerm)
    (D4 : Def P w K mg base CX0 30 "_law_nest" ["term", "at", "scope", "count"] (spNest K 30)) (D5 : Def P w K mg base CX0 30 "_law_named_put" ["tree", "value"] (spNput 30)) (D6 : Def P w K mg base CX0 30 "_law_flat" ["tree", "scope"] (spFlat K 30))
    (D7 : Def P w K mg base (L2.CX P w) 3 "put" ["term", "value"] (spPut K (cl 1))) (D8 : Def P w K mg base (L2.CX P w) 3 "lift" ["term", "count"] (spLift K (cl 1))) : FnOk P w K mg base (L2.CX P w) 31 f fd ["script"] (spLaw K) := by
  obtain ⟨f1, fd1, g_law_stream, kp_law_stream, b_law_stream, G_law_stream⟩ := D1
  obtain ⟨f2, fd2, g_law_draw, kp_law_draw, b_law_draw, G_law_draw⟩ := D2
  obtain ⟨f3, fd3, g_law_term, kp_law_term, b_law_term, G_law_term⟩ := D3
  obtain ⟨f4, fd4, g_law_nest, kp_law_nest, b_law_nest, G_law_nest⟩ := D4
  obtain ⟨f5, fd5, g_law_named_put, kp_law_named_put, b_law_named_put, G_law_named_put⟩ := D5
  obtain ⟨f6, fd6, g_law_flat, kp_law_flat, b_law_flat, G_law_flat⟩ := D6
  obtain ⟨f7, fd7, g_put, kp_put, b_put, G_put⟩ := D7
  obtain ⟨f8, fd8, g_lift, kp_lift, b_lift, G_lift⟩ := D8
  refine F.okX sc_law (fun vs H Q E h => ?_) (fun cdv A outer s H vs Q E hr h => ?_)
  · obtain ⟨a, ns, rfl, _⟩ := h
    rfl
  · obtain ⟨a, ns, rfl, hS, hlen, q⟩ := h
    refine ⟨_, (pss_cons (ps_set (i := 1) sc_law.nd rfl (.inl rfl) (pe_call G_law_stream (hr.mono (by decide)) (by rfl) g_law_stream kp_law_stream b_law_stream .nil pass0 (pa_cons (pv 0) pa_nil))) (pss_cons (ps_set (i := 2) sc_law.nd rfl (.inl rfl) (pe_call G_law_term (hr.mono (by decide)) (by rfl) g_law_term kp_law_term b_law_term .nil pass0 (pa_cons (pv 1) (pa_cons (pe_op op_add pe_int (pe_call G_law_draw (hr.mono (by decide)) (by rfl) g_law_draw kp_law_draw b_law_draw .nil pass0 (pa_cons (pv 1) (pa_cons pe_int pa_nil)))) (pa_cons pe_int pa_nil))))) (pss_cons (ps_set (i := 3) sc_law.nd rfl (.inl rfl) (pe_call G_law_term (hr.mono (by decide)) (by rfl) g_law_term kp_law_term b_law_term .nil pass0 (pa_cons (pv 1) (pa_cons (pe_op op_add pe_int (pe_call G_law_draw (hr.mono (by decide)) (by rfl) g_law_draw kp_law_draw b_law_draw .nil pass0 (pa_cons (pv 1) (pa_cons pe_int pa_nil)))) (pa_cons pe_int pa_nil))))) (pss_cons (ps_set (i := 4) sc_law.nd rfl (.inl rfl) (pe_call G_law_term (hr.mono (by decide)) (by rfl) g_law_term kp_law_term b_law_term .nil pass0 (pa_cons (pv 1) (pa_cons (pe_op op_add pe_int (pe_call G_law_draw (hr.mono (by decide)) (by rfl) g_law_draw kp_law_draw b_law_draw .nil pass0 (pa_cons (pv 1) (pa_cons pe_int pa_nil)))) (pa_cons pe_int pa_nil))))) (pss_cons (ps_set (i := 5) sc_law.nd rfl (.inl rfl) (pe_lst pa_nil)) (pss_cons (ps_set (i := 6) sc_law.nd rfl (.inl rfl) (pe_ix ix_tup (pe_call G_law_nest (hr.mono (by decide)) (by rfl) g_law_nest kp_law_nest b_law_nest .nil pass0 (pa_cons (pv 2) (pa_cons pe_int (pa_cons (pe_lst pa_nil) (pa_cons (pv 5) pa_nil))))) pe_int (fun _ _ => rfl))) (pss_cons (ps_set (i := 7) sc_law.nd rfl (.inl rfl) (pe_ix ix_tup (pe_call G_law_nest (hr.mono (by decide)) (by rfl) g_law_nest kp_law_nest b_law_nest .nil pass0 (pa_cons (pv 3) (pa_cons pe_int (pa_cons (pe_lst pa_nil) (pa_cons (pv 5) pa_nil))))) pe_int (fun _ _ => rfl))) (pss_cons (ps_if (pt_cmpR (op_neD hr.units) (pe_call G_put (hr.mono (by decide)) (by rfl) g_put kp_put b_put .nil (passes_call (takes_of rfl rfl rfl rfl) (fun _ _ _ _ h => h)) (pa_cons (pv 2) (pa_cons (pv 3) pa_nil))) (pe_call G_law_flat (hr.mono (by decide)) (by rfl) g_law_flat kp_law_flat b_law_flat .nil pass0 (pa_cons (pe_call G_law_named_put (hr.mono (by decide)) (by rfl) g_law_named_put kp_law_named_put b_law_named_put .nil pass0 (pa_cons (pv 6) (pa_cons (pv 7) pa_nil))) (pa_cons (pe_lst pa_nil) pa_nil))) (nomark _)) (pss_one (ps_ret pe_bl)) pss_nil) (pss_cons (ps_if (PW.pt (pw_or (pt_cmpR (op_neD hr.units) (pe_call G_put (hr.mono (by decide)) (by rfl) g_put kp_put b_put .nil (passes_call (takes_of rfl rfl rfl rfl) (fun _ _ _ _ h => h)) (pa_cons (pe_call G_lift (hr.mono (by decide)) (by rfl) g_lift kp_lift b_lift .nil (passes_call (takes_of rfl rfl rfl rfl) (fun _ _ _ _ h => h)) (pa_cons (pv 2) (pa_cons pe_int pa_nil))) (pa_cons (pv 3) pa_nil))) (pv 2) (nomark _)) (pw_or1 (pt_cmpR (op_neD hr.units) (pe_call G_put (hr.mono (by decide)) (by rfl) g_put kp_put b_put .nil (passes_call (takes_of rfl rfl rfl rfl) (fun _ _ _ _ h => h)) (pa_cons (pe_call G_lift (hr.mono (by decide)) (by rfl) g_lift kp_lift b_lift .nil (passes_call (takes_of rfl rfl rfl rfl) (fun _ _ _ _ h => h)) (pa_cons (pv 3) (pa_cons pe_int pa_nil))) (pa_cons (pv 4) pa_nil))) (pv 3) (nomark _))))) (pss_one (ps_ret pe_bl)) pss_nil) (pss_cons (ps_set (i := 8) sc_law.nd rfl (.inl rfl) (pe_call G_put (hr.mono (by decide)) (by rfl) g_put kp_put b_put .nil (passes_call (takes_of rfl rfl rfl rfl) (fun _ _ _ _ h => h)) (pa_cons (pe_op op_catA (pe_tup (pa_cons pe_str pa_nil)) (pv 2)) (pa_cons (pv 4) pa_nil)))) (pss_cons (ps_if (pt_cmpR (op_neD hr.units) (pe_slice sl_tupA (pv 8) po_none (po_some pe_int)) (pe_tup (pa_cons pe_str pa_nil)) (nomark _)) (pss_one (ps_ret pe_bl)) pss_nil) (pss_one (ps_ret (pe_cmpR (op_eqD hr.units) (pe_call G_put (hr.mono (by decide)) (by rfl) g_put kp_put b_put .nil (passes_call (takes_of rfl rfl rfl rfl) (fun _ _ _ _ h => h)) (pa_cons (pe_call G_put (hr.mono (by decide)) (by rfl) g_put kp_put b_put .nil (passes_call (takes_of rfl rfl rfl rfl) (fun _ _ _ _ h => h)) (pa_cons (pv 2) (pa_cons (pv 3) pa_nil))) (pa_cons (pv 4) pa_nil))) (pe_call G_put (hr.mono (by decide)) (by rfl) g_put kp_put b_put .nil (passes_call (takes_of rfl rfl rfl rfl) (fun _ _ _ _ h => h)) (pa_cons (pe_slice sl_tupA (pv 8) (po_some pe_int) po_none) (pa_cons (pe_call G_put (hr.mono (by decide)) (by rfl) g_put kp_put b_put .nil (passes_call (takes_of rfl rfl rfl rfl) (fun _ _ _ _ h => h)) (pa_cons (pv 3) (pa_cons (pv 4) pa_nil))) pa_nil))) (nomark _))))))))))))))), ?_⟩
    refine sl_of (σ2 := [some _, none, none, none, none, none, none, none, none]) rfl ?_
    walk_at "st"
    walk_at "go"
    refine ⟨a, ns, rfl, hS, hlen, fun H1 s1 l e1 hs1 st1 => ?_⟩
    generalize (⟨l, ns, 0, 0, mixOf ns⟩ : Stm) = m0 at *
    walk_at "go"
    refine ⟨s1, m0, 12, rfl, st1, by decide, by decide, fun H2 fr2 st2 => ?_⟩
    have v2 := m0.val_lt (n := 12) (by decide)
    generalize m0.val 12 = n1 at *
    generalize m0.next 12 = m1 at *
    walk_at "go"
    refine ⟨s1, m1, (1 + n1).toNat, 4, by rw [Int.toNat_of_nonneg (by omega)]; rfl, st2, by omega, by omega, by omega, fun H3 p1 m2 t1 fr3 st3 fol3 hpn1 hp1 hw1 hl1 hr1 => ?_⟩
    have hp1 : SqT K H3 p1 t1.enc := SqT.of hp1
    walk_at "go"
    refine ⟨s1, m2, 12, rfl, st3, by decide, by decide, fun H4 fr4 st4 => ?_⟩
    have v4 := m2.val_lt (n := 12) (by decide)
    have hp1 : SqT K H4 p1 t1.enc := fr_t fr4 st3.2.1 hp1
    generalize m2.val 12 = n2 at *
    generalize m2.next 12 = m3 at *
    walk_at "go"
    refine ⟨s1, m3, (1 + n2).toNat, 4, by rw [Int.toNat_of_nonneg (by omega)]; rfl, st4, by omega, by omega, by omega, fun H5 p2 m4 t2 fr5 st5 fol5 hpn2 hp2 hw2 hl2 hr2 => ?_⟩
    have hp1 : SqT K H5 p1 t1.enc := fr_t fr5 st4.2.1 hp1
    have hp2 : SqT K H5 p2 t2.enc := SqT.of hp2
    walk_at "go"
    refine ⟨s1, m4, 8, rfl, st5, by decide, by decide, fun H6 fr6 st6 => ?_⟩
    have v6 := m4.val_lt (n := 8) (by decide)
    have hp1 : SqT K H6 p1 t1.enc := fr_t fr6 st5.2.1 hp1
    have hp2 : SqT K H6 p2 t2.enc := fr_t fr6 st5.2.1 hp2
    generalize m4.val 8 = n3 at *
    generalize m4.next 8 = m5 at *
    walk_at "go"
    refine ⟨s1, m5, (1 + n3).toNat, 3, by rw [Int.toNat_of_nonneg (by omega)]; rfl, st6, by omega, by omega, by omega, fun H7 p3 m6 t3 fr7 st7 fol7 hpn3 hp3 hw3 hl3 hr3 => ?_⟩
    have hp1 : SqT K H7 p1 t1.enc := fr_t fr7 st6.2.1 hp1
    have hp2 : SqT K H7 p2 t2.enc := fr_t fr7 st6.2.1 hp2
    have hp3 : SqT K H7 p3 t3.enc := SqT.of hp3
    have b1 : t1.enc.length ≤ 12 := by have := hr1 (by omega); omega
    have b2 : t2.enc.length ≤ 12 := by have := hr2 (by omega); omega
    have b3 : t3.enc.length ≤ 8 := by have := hr3 (by omega); omega
    have w1 : t1.vars 16 := Tm.vars_mono (by omega) (Tm.vars_wf hw1)
    have w2 : t2.vars 16 := Tm.vars_mono (by omega) (Tm.vars_wf hw2)
    have w3 : t3.vars 16 := Tm.vars_mono (by omega) (Tm.vars_wf hw3)
    clear fr2 fr3 fr4 fr5 fr6 fr7 st1 st2 st3 st4 st5 st6 st7 hr1 hr2 hr3 hl1 hl2 hl3 hw1 hw2 hw3 fol3 fol5 fol7 hS e1 hs1 hpn1 hpn2 hpn3
    -- sizes
    have k1 := t1.tall_lt
    have k2 := t2.tall_lt
    have g1 := t1.lams_le
    have z12 : (Tm.put t2 0 t1).enc.length ≤ 83 := by
      have h := Tm.put_size t2 t1 0
      have h2 : (t1.enc.length + 1) * (t2.enc.length - 1) ≤ 13 * 11 := Nat.mul_le_mul (by omega) (by omega)
      omega
    have z123 : (Tm.put t3 0 (Tm.put t2 0 t1)).enc.length ≤ 377 := by
      have h := Tm.put_size t3 (Tm.put t2 0 t1) 0
      have h2 : ((Tm.put t2 0 t1).enc.length + 1) * (t3.enc.length - 1) ≤ 84 * 7 := Nat.mul_le_mul (by omega) (by omega)
      omega
    have zl3 : (Tm.put t3 0 (Tm.lam t1)).enc.length ≤ 62 := by
      have h := Tm.put_size t3 (Tm.lam t1) 0
      have e : (Tm.lam t1).enc.length = t1.enc.length + 1 := rfl
      have h2 : ((Tm.lam t1).enc.length + 1) * (t3.enc.length - 1) ≤ 14 * 7 := Nat.mul_le_mul (by omega) (by omega)
      omega
    have z23 : (Tm.put t3 0 t2).enc.length ≤ 57 := by
      have h := Tm.put_size t3 t2 0
      have h2 : (t2.enc.length + 1) * (t3.enc.length - 1) ≤ 13 * 7 := Nat.mul_le_mul (by omega) (by omega)
      omega
    have f1 : fitsV t1.enc = true := fits_of (Tm.vars_mono (by omega) w1) (by omega)
    have f2 : fitsV t2.enc = true := fits_of (Tm.vars_mono (by omega) w2) (by omega)
    have v12 := Tm.vars_put (d := 0) w2 w1
    have f12 : fitsV (Tm.put t2 0 t1).enc = true := fits_of (Tm.vars_mono (by omega) v12) (by omega)
    have f123 : fitsV (Tm.put t3 0 (Tm.put t2 0 t1)).enc = true := fits_of (Tm.vars_mono (by omega) (Tm.vars_put (d := 0) w3 v12)) (by omega)
    have fl3 : fitsV (Tm.put t3 0 (Tm.lam t1)).enc = true := fits_of (Tm.vars_mono (by simp [Tm.enc]; omega) (Tm.vars_put (d := 0) w3 (t := .lam t1) w1)) (by omega)
    have f23 : fitsV (Tm.put t3 0 t2).enc = true := fits_of (Tm.vars_mono (by omega) (Tm.vars_put (d := 0) w3 w2)) (by omega)
    have fu1 : fitsV (t1.vmap (lif 1) 0).enc = true := fits_of (Tm.vars_mono (by omega) (Tm.vars_lif (c := 1) (d := 0) w1)) (by rw [Tm.vmap_len]; omega)
    have fu2 : fitsV (t2.vmap (lif 1) 0).enc = true := fits_of (Tm.vars_mono (by omega) (Tm.vars_lif (c := 1) (d := 0) w2)) (by rw [Tm.vmap_len]; omega)
    walk_at "go"
    intro ct hct
    walk_at "go"
    intro sc hsc
    walk_at "go"
    have hct1 : upd (upd H7 ct (.lst [])) sc (.lst []) ct = some (.lst []) := by walk_at "hp"
    have nsc : sc ≠ ct := (ne_of_none upd_same hsc).symm
    refine ⟨p1, sc, ct, 0, t1.enc, [], [], [], t1, rfl, by omega, by walk_at "hp", by simp, by omega, upd_same, by simp; omega, hct1, by simp; omega, nsc, fun H8 pa q1 zs1 fr8 hct8 hzs8 hpa hq1 => ?_⟩
    have frA : Fr ct H7 H8 := Fr.trans (by walk_at "fr") fr8
    have hct7 : ∀ {x : Addr} {xs : List V}, SqT K H7 x xs → SqT K H8 x xs := fun {x xs} hx => fr_t fr8 hct1 (by walk_at "hp")
    have hp1 := hct7 hp1
    have hp2 := hct7 hp2
    have hp3 := hct7 hp3
    refine w_ixT (SqT.of hpa) (at_of (j := 0) rfl rfl) ?_
    walk_at "go"
    intro sd hsd
    walk_at "go"
    have nsd : sd ≠ ct := (ne_of_none hct8 hsd).symm
    have hct9 : upd H8 sd (.lst []) ct = some (.lst zs1) := by walk_at "hp"
    have hzs : zs1.length ≤ 12 := by rw [hzs8]; simp; omega
    refine ⟨p2, sd, ct, 0, t2.enc, [], zs1, [], t2, rfl, by omega, by walk_at "hp", by simp, by omega, upd_same, by simp; omega, hct9, by omega, nsd, fun H9 pb q2 zs2 fr9 hct10 hzs9 hpb hq2 => ?_⟩
    have hq1 : NRep H9 q1 (nest [] 0 t1) := (hq1.ex (Ex.new hsd)).fr fr9 hct9
    have hp1 : SqT K H9 p1 t1.enc := fr_t fr9 hct9 (by walk_at "hp")
    have hp2 : SqT K H9 p2 t2.enc := fr_t fr9 hct9 (by walk_at "hp")
    have hp3 : SqT K H9 p3 t3.enc := fr_t fr9 hct9 (by walk_at "hp")
    refine w_ixT (SqT.of hpb) (at_of (j := 0) rfl rfl) ?_
    clear frA hct7 hct1 hct8 hct9 fr8 fr9
    walk_at "go"
    refine ⟨p1, p2, t1, t2, rfl, hp1, hp2, by omega, by omega, fun _ pc H10 e10 hpc => ?_, fun z => by rw [f12] at z; cases z⟩
    have hp1 := ex_t e10 hp1
    have hp2 := ex_t e10 hp2
    have hp3 := ex_t e10 hp3
    have hq1 := hq1.ex e10
    have hq2 := hq2.ex e10
    walk_at "go"
    have y1 : (nest [] 0 t1).tall < 30 := by rw [nest_tall]; omega
    refine ⟨q1, q2, _, _, rfl, y1, hq1, hq2, fun H11 q3 e11 hq3 => ?_⟩
    have hp1 := ex_t e11 hp1
    have hp2 := ex_t e11 hp2
    have hp3 := ex_t e11 hp3
    have hpc := ex_t e11 hpc
    walk_at "go"
    intro se hse
    walk_at "go"
    have y2 : (Nm.put (nest [] zs1.length t2) (nest [] 0 t1)).tall < 30 := by
      have h := put_tall (nest [] zs1.length t2) (nest [] 0 t1)
      rw [nest_tall, nest_tall] at h
      omega
    have same := flat_put t2 zs1.length t1 [] 0 (Up.nil 0)
    refine ⟨q3, se, _, [], rfl, y2, hq3.ex (Ex.new hse), upd_same, by simp, ?_, fun H12 pd e12 hpd => ?_⟩
    · rw [same]
      exact Nat.le_trans z12 (by decide)
    rw [same] at hpd
    have e12 : Ex H11 H12 := (Ex.new hse).trans e12
    have hp1 := ex_t e12 hp1
    have hp2 := ex_t e12 hp2
    have hp3 := ex_t e12 hp3
    have hpc := ex_t e12 hpc
    have hpd : SqT K H12 pd (Tm.put t2 0 t1).enc := hpd
    walk_at "go"
    refine ⟨p1, t1, 1, rfl, hp1, by omega, fun _ pe H13 e13 hpe => ?_, fun z => by rw [fu1] at z; cases z⟩
    have hp1 := ex_t e13 hp1
    have hp2 := ex_t e13 hp2
    have hp3 := ex_t e13 hp3
    walk_at "go"
    have l1 := Tm.vmap_len (lif 1) t1 0
    have pl1 := Tm.put_lift t2 t1
    refine ⟨pe, p2, _, t2, rfl, hpe, hp2, by omega, by omega, fun _ pf H14 e14 hpf => ?_, fun z => by rw [pl1, f1] at z; cases z⟩
    rw [pl1] at hpf
    have hp1 := ex_t e14 hp1
    have hp2 := ex_t e14 hp2
    have hp3 := ex_t e14 hp3
    walk_at "go"
    refine ⟨p2, t2, 1, rfl, hp2, by omega, fun _ pg H15 e15 hpg => ?_, fun z => by rw [fu2] at z; cases z⟩
    have hp1 := ex_t e15 hp1
    have hp2 := ex_t e15 hp2
    have hp3 := ex_t e15 hp3
    walk_at "go"
    have l2 := Tm.vmap_len (lif 1) t2 0
    have pl2 := Tm.put_lift t3 t2
    refine ⟨pg, p3, _, t3, rfl, hpg, hp3, by omega, by omega, fun _ ph H16 e16 hph => ?_, fun z => by rw [pl2, f2] at z; cases z⟩
    rw [pl2] at hph
    have hp1 := ex_t e16 hp1
    have hp2 := ex_t e16 hp2
    have hp3 := ex_t e16 hp3
    walk_at "go"
    intro x1 hx1
    walk_at "go"
    intro x2 H17 e17 hx2
    have e17 : Ex H16 H17 := (Ex.new hx1).trans e17
    have hp1 := ex_t e17 hp1
    have hp2 := ex_t e17 hp2
    have hp3 := ex_t e17 hp3
    have ll : (Tm.lam t1).enc.length = t1.enc.length + 1 := rfl
    walk_at "go"
    refine ⟨x2, p3, .lam t1, t3, rfl, hx2, hp3, by omega, by omega, fun _ pw H18 e18 hpw => ?_, fun z => by rw [fl3] at z; cases z⟩
    have hp1 := ex_t e18 hp1
    have hp2 := ex_t e18 hp2
    have hp3 := ex_t e18 hp3
    have hpw : SqT K H18 pw (V.str "lam" :: (Tm.put t3 1 t1).enc) := hpw
    walk_at "go"
    intro y1 H19 e19 hy1
    rw [cut_one] at hy1
    have hp1 := ex_t e19 hp1
    have hp2 := ex_t e19 hp2
    have hp3 := ex_t e19 hp3
    have hpw := ex_t e19 hpw
    walk_at "go"
    intro y2 hy2
    have hp1 := ex_t (Ex.new hy2 (o := .tup [V.str "lam"])) hp1
    have hp2 := ex_t (Ex.new hy2 (o := .tup [V.str "lam"])) hp2
    have hp3 := ex_t (Ex.new hy2 (o := .tup [V.str "lam"])) hp3
    have hpw := ex_t (Ex.new hy2 (o := .tup [V.str "lam"])) hpw
    walk_at "go"
    refine ⟨p1, p2, t1, t2, rfl, hp1, hp2, by omega, by omega, fun _ c1 H20 e20 hc1 => ?_, fun z => by rw [f12] at z; cases z⟩
    have hp2 := ex_t e20 hp2
    have hp3 := ex_t e20 hp3
    have hpw := ex_t e20 hpw
    walk_at "go"
    refine ⟨c1, p3, _, t3, rfl, hc1, hp3, by omega, by omega, fun _ c2 H21 e21 hc2 => ?_, fun z => by rw [f123] at z; cases z⟩
    have hp2 := ex_t e21 hp2
    have hp3 := ex_t e21 hp3
    have hpw := ex_t e21 hpw
    walk_at "go"
    intro c3 H22 e22 hc3
    rw [cut_rest] at hc3
    have hp2 := ex_t e22 hp2
    have hp3 := ex_t e22 hp3
    have hc2 := ex_t e22 hc2
    walk_at "go"
    refine ⟨p2, p3, t2, t3, rfl, hp2, hp3, by omega, by omega, fun _ c4 H23 e23 hc4 => ?_, fun z => by rw [f23] at z; cases z⟩
    have hc2 := ex_t e23 hc2
    have hc3 := ex_t e23 hc3
    walk_at "go"
    have sub := Tm.put_put t2 t3 t1 0
    have z31 : (Tm.put t3 1 t1).enc.length ≤ 62 := by
      have e : (Tm.put t3 0 (Tm.lam t1)).enc.length = (Tm.put t3 1 t1).enc.length + 1 := rfl
      omega
    refine ⟨c3, c4, Tm.put t3 1 t1, _, rfl, hc3, hc4, by omega, by omega, fun _ c5 H24 e24 hc5 => ?_, fun z => by rw [← sub, f123] at z; cases z⟩
    rw [← sub] at hc5
    have hc2 := ex_t e24 hc2
    walk_at "go"
    rw [decide_eq_true rfl]
    exact q _
end
end Ly
set_option Elab.async false
set_option linter.all false
set_option maxRecDepth 100000
namespace Ly
open PySem PySem.Spec PyProof.Rows L2 Evl
-- endR _law_nest ok_nest 30
-- endR _law_named_put ok_nput 30
-- endR _law_flat ok_flat 30
/-! ### what the top has left; the head -/
theorem all_mk {l : PySem.W.OpenLaw} {w : World} {K : PySem.W.Frag} {h : Heap} {mg : Str → Option Value} {fa f1 f2 f3 f4 f5 f6 f7 f8 f9 f10 f11 f12 f13 f14 cc1 : Addr} (X : K.In h) (G : h.Ns mainGlobals mg) (hfa : mg "law" = some (.ref fa))
    {od1 an1 od2 an2 od3 an3 od4 an4 od5 an5 od6 an6 od7 an7 od8 an8 od9 an9 od10 an10 od11 an11 od12 an12 od13 an13 od14 an14 : Option Addr} {sl1 sl2 sl3 sl4 sl5 sl6 sl7 sl8 sl9 sl10 sl11 sl12 sl13 sl14 : Array (Option Value)} {oc1 kV1 dc1 pm1 cd1 ct1 oc2 kV2 dc2 pm2 cd2 ct2 oc3 kV3 dc3 pm3 cd3 ct3 oc4 kV4 dc4 pm4 cd4 ct4 oc5 kV5 dc5 pm5 cd5 ct5 oc6 kV6 dc6 pm6 cd6 ct6 oc7 kV7 dc7 pm7 cd7 ct7 oc8 kV8 dc8 pm8 cd8 ct8 oc9 kV9 dc9 pm9 cd9 ct9 oc10 kV10 dc10 pm10 cd10 ct10 oc11 kV11 dc11 pm11 cd11 ct11 oc12 kV12 dc12 pm12 cd12 ct12 oc13 kV13 dc13 pm13 cd13 ct13 oc14 kV14 dc14 pm14 cd14 ct14 : Value} {t0 t1 : Tok}
    (a1 : PySem.W.nsIn K mainGlobals "_law_draw" = some (some (.ref f1))) (l1 : K.lookup f1 = some ⟨oc1, od1, .func (PySem.W.fnOf "_law_draw" "_law_draw" (defArgs s_law_draw) (defBody s_law_draw) (defScope s_law_draw) .none kV1 dc1 pm1 an1 cd1 ct1), sl1⟩) (c1 : PySem.W.codeIn K cd1 "_law_draw" = true) (k1 : PySem.W.keepIn K (.ref f1) = true)
    (a2 : PySem.W.nsIn K mainGlobals "_law_stream" = some (some (.ref f2))) (l2 : K.lookup f2 = some ⟨oc2, od2, .func (PySem.W.fnOf "_law_stream" "_law_stream" (defArgs s_law_stream) (defBody s_law_stream) (defScope s_law_stream) .none kV2 dc2 pm2 an2 cd2 ct2), sl2⟩) (c2 : PySem.W.codeIn K cd2 "_law_stream" = true) (k2 : PySem.W.keepIn K (.ref f2) = true)
    (a3 : PySem.W.nsIn K mainGlobals "_law_term" = some (some (.ref f3))) (l3 : K.lookup f3 = some ⟨oc3, od3, .func (PySem.W.fnOf "_law_term" "_law_term" (defArgs s_law_term) (defBody s_law_term) (defScope s_law_term) .none kV3 dc3 pm3 an3 cd3 ct3), sl3⟩) (c3 : PySem.W.codeIn K cd3 "_law_term" = true) (k3 : PySem.W.keepIn K (.ref f3) = true)
    (a4 : PySem.W.nsIn K mainGlobals "check_size" = some (some (.ref f4))) (l4 : K.lookup f4 = some ⟨oc4, od4, .func (PySem.W.fnOf "check_size" "check_size" (defArgs s_check_size) (defBody s_check_size) (defScope s_check_size) .none kV4 dc4 pm4 an4 cd4 ct4), sl4⟩) (c4 : PySem.W.codeIn K cd4 "check_size" = true) (k4 : PySem.W.keepIn K (.ref f4) = true)
    (a5 : PySem.W.nsIn K mainGlobals "checked" = some (some (.ref f5))) (l5 : K.lookup f5 = some ⟨oc5, od5, .func (PySem.W.fnOf "checked" "checked" (defArgs s_checked) (defBody s_checked) (defScope s_checked) .none kV5 dc5 pm5 an5 cd5 ct5), sl5⟩) (c5 : PySem.W.codeIn K cd5 "checked" = true) (k5 : PySem.W.keepIn K (.ref f5) = true)
    (a6 : PySem.W.nsIn K mainGlobals "depths" = some (some (.ref f6))) (l6 : K.lookup f6 = some ⟨oc6, od6, .func (PySem.W.fnOf "depths" "depths" (defArgs s_depths) (defBody s_depths) (defScope s_depths) .none kV6 dc6 pm6 an6 cd6 ct6), sl6⟩) (c6 : PySem.W.codeIn K cd6 "depths" = true) (k6 : PySem.W.keepIn K (.ref f6) = true)
    (a7 : PySem.W.nsIn K mainGlobals "stands_free" = some (some (.ref f7))) (l7 : K.lookup f7 = some ⟨oc7, od7, .func (PySem.W.fnOf "stands_free" "stands_free" (defArgs s_stands_free) (defBody s_stands_free) (defScope s_stands_free) .none kV7 dc7 pm7 an7 cd7 ct7), sl7⟩) (c7 : PySem.W.codeIn K cd7 "stands_free" = true) (k7 : PySem.W.keepIn K (.ref f7) = true)
    (a8 : PySem.W.nsIn K mainGlobals "lifted_nodes" = some (some (.ref f8))) (l8 : K.lookup f8 = some ⟨oc8, od8, .func (PySem.W.fnOf "lifted_nodes" "lifted_nodes" (defArgs s_lifted_nodes) (defBody s_lifted_nodes) (defScope s_lifted_nodes) .none kV8 dc8 pm8 an8 cd8 ct8), sl8⟩) (c8 : PySem.W.codeIn K cd8 "lifted_nodes" = true) (k8 : PySem.W.keepIn K (.ref f8) = true)
    (a9 : PySem.W.nsIn K mainGlobals "lift" = some (some (.ref f9))) (l9 : K.lookup f9 = some ⟨oc9, od9, .func (PySem.W.fnOf "lift" "lift" (defArgs s_lift) (defBody s_lift) (defScope s_lift) .none kV9 dc9 pm9 an9 cd9 ct9), sl9⟩) (c9 : PySem.W.codeIn K cd9 "lift" = true) (k9 : PySem.W.keepIn K (.ref f9) = true)
    (a10 : PySem.W.nsIn K mainGlobals "put" = some (some (.ref f10))) (l10 : K.lookup f10 = some ⟨oc10, od10, .func (PySem.W.fnOf "put" "put" (defArgs s_put) (defBody s_put) (defScope s_put) .none kV10 dc10 pm10 an10 cd10 ct10), sl10⟩) (c10 : PySem.W.codeIn K cd10 "put" = true) (k10 : PySem.W.keepIn K (.ref f10) = true)
    (a11 : PySem.W.nsIn K mainGlobals "_law_nest" = some (some (.ref f11))) (l11 : K.lookup f11 = some ⟨oc11, od11, .func (PySem.W.fnOf "_law_nest" "_law_nest" (defArgs s_law_nest) (defBody s_law_nest) (defScope s_law_nest) .none kV11 dc11 pm11 an11 cd11 ct11), sl11⟩) (c11 : PySem.W.codeIn K cd11 "_law_nest" = true) (k11 : PySem.W.keepIn K (.ref f11) = true)
    (a12 : PySem.W.nsIn K mainGlobals "_law_named_put" = some (some (.ref f12))) (l12 : K.lookup f12 = some ⟨oc12, od12, .func (PySem.W.fnOf "_law_named_put" "_law_named_put" (defArgs s_law_named_put) (defBody s_law_named_put) (defScope s_law_named_put) .none kV12 dc12 pm12 an12 cd12 ct12), sl12⟩) (c12 : PySem.W.codeIn K cd12 "_law_named_put" = true) (k12 : PySem.W.keepIn K (.ref f12) = true)
    (a13 : PySem.W.nsIn K mainGlobals "_law_flat" = some (some (.ref f13))) (l13 : K.lookup f13 = some ⟨oc13, od13, .func (PySem.W.fnOf "_law_flat" "_law_flat" (defArgs s_law_flat) (defBody s_law_flat) (defScope s_law_flat) .none kV13 dc13 pm13 an13 cd13 ct13), sl13⟩) (c13 : PySem.W.codeIn K cd13 "_law_flat" = true) (k13 : PySem.W.keepIn K (.ref f13) = true)
    (a14 : PySem.W.nsIn K mainGlobals "law" = some (some (.ref f14))) (l14 : K.lookup f14 = some ⟨oc14, od14, .func (PySem.W.fnOf "law" "law" (defArgs s_law) (defBody s_law) (defScope s_law) .none kV14 dc14 pm14 an14 cd14 ct14), sl14⟩) (c14 : PySem.W.codeIn K cd14 "law" = true) (k14 : PySem.W.keepIn K (.ref f14) = true)
    (z_int : PySem.W.nsIn K mainGlobals "int" = some none)
    (z_list : PySem.W.nsIn K mainGlobals "list" = some none)
    (z_len : PySem.W.nsIn K mainGlobals "len" = some none)
    (z_abs : PySem.W.nsIn K mainGlobals "abs" = some none)
    (z_isinstance : PySem.W.nsIn K mainGlobals "isinstance" = some none)
    (z_tuple : PySem.W.nsIn K mainGlobals "tuple" = some none)
    (z_range : PySem.W.nsIn K mainGlobals "range" = some none)
    (z_zip : PySem.W.nsIn K mainGlobals "zip" = some none)
    (z_ValueError : PySem.W.nsIn K mainGlobals "ValueError" = some none)
    (g_MOST_NODES : PySem.W.nsIn K mainGlobals "MOST_NODES" = some (some (.int 1000 t0)))
    (g_MOST_VARIABLE : PySem.W.nsIn K mainGlobals "MOST_VARIABLE" = some (some (.int 1000000 t1)))
    (e_TooLarge : PySem.W.nsIn K mainGlobals "TooLarge" = some (some (.ref cc1)))
    (y_x_TooLarge : PySem.W.excIn K cc1 [.type "ValueError", .type "Exception", .type "BaseException", .type "object"] "ValueError.__new__" = true)
    (y_k_TooLarge : PySem.W.keepIn K (.ref cc1) = true)
    (y_b_TooLarge : PySem.W.subIn K (.ref cc1) (.type "BaseException") = some true)
    (y_t_TooLarge : PySem.W.typeIn K (.ref cc1) = some (.type "type"))
    (y_s1_TooLarge : PySem.W.subIn K (.ref cc1) (.ref cc1) = some true)
    (y_h1_TooLarge : PySem.W.findIn K (.ref cc1) "__getattribute__" = some (some (.builtin "BaseException.__getattribute__")))
    (y_h2_TooLarge : PySem.W.findIn K (.ref cc1) "__getattr__" = some none)
    (y_h3_TooLarge : PySem.W.hasDictIn K cc1 = true)
    (y_h4_TooLarge : PySem.W.findIn K (.ref cc1) "__class__" = some (some (.builtin "object.__class__")))
    (y_h5_TooLarge : PySem.W.specialIn K (.builtin "object.__class__") "__get__" = some (some (.builtin "getset_descriptor.__get__")))
    (y_h6_TooLarge : PySem.W.takesIn K (.builtin "object.__class__") = some true)
    (y_h7_TooLarge : PySem.W.mroIn K cc1 (.type "object") = some true)
    : ∃ fd : FuncData, (∀ (s : Shared) (v : Value), BindsTo s fd ⟨[v], []⟩ [("script", v)]) ∧ ∀ base : Heap, K.In base → base.Ns mainGlobals mg → FnOk l.prog w K mg base (L2.CX l.prog w) 31 fa fd ["script"] (spLaw K) := by
  have e := hfa.symm.trans (PySem.W.mg_of X G a14)
  cases e
  have T : Txt K mg (fun n => match n with | 0 => t0 | _ => t1) (fun n => match n with  | _ => cc1) := ⟨PySem.W.mg_none_of X G z_int, PySem.W.mg_none_of X G z_list, PySem.W.mg_none_of X G z_len, PySem.W.mg_none_of X G z_abs, PySem.W.mg_none_of X G z_isinstance, PySem.W.mg_none_of X G z_tuple, PySem.W.mg_none_of X G z_range, PySem.W.mg_none_of X G z_zip, PySem.W.mg_of X G g_MOST_NODES, PySem.W.mg_of X G g_MOST_VARIABLE, PySem.W.mg_none_of X G z_ValueError, PySem.W.mg_of X G e_TooLarge, y_x_TooLarge, y_k_TooLarge, y_b_TooLarge, y_t_TooLarge, y_s1_TooLarge, y_h1_TooLarge, y_h2_TooLarge, y_h3_TooLarge, y_h4_TooLarge, y_h5_TooLarge, y_h6_TooLarge, y_h7_TooLarge⟩
  exact ⟨PySem.W.fnOf "law" "law" (defArgs s_law) (defBody s_law) (defScope s_law) .none kV14 dc14 pm14 an14 cd14 ct14, fun s v => .of_eq rfl, fun base _ _ => by
    have F1 := fun_mk (st := s_law_draw) l1 c1 k1
    have D1 := Def.of (P := l.prog) (w := w) (base := base) (k := 1) (PySem.W.mg_of X G a1) k1 (F1.binds (ps := ["stream", "many"]) fun _ _ _ _ _ _ us hl => match us, hl with | [_, _], _ => rfl) (ok_draw F1 T)
    have F2 := fun_mk (st := s_law_stream) l2 c2 k2
    have D2 := Def.of (P := l.prog) (w := w) (base := base) (k := 1) (PySem.W.mg_of X G a2) k2 (F2.binds (ps := ["script"]) fun _ _ _ _ _ _ us hl => match us, hl with | [_], _ => rfl) (ok_stream F2 T)
    have F3 := fun_mk (st := s_law_term) l3 c3 k3
    have D3 := Def.of (P := l.prog) (w := w) (base := base) (k := 2) (PySem.W.mg_of X G a3) k3 (F3.binds (ps := ["stream", "size", "loose"]) fun _ _ _ _ _ _ us hl => match us, hl with | [_, _, _], _ => rfl) (ok_term F3 T D1)
    have F4 := fun_mk (st := s_check_size) l4 c4 k4
    have D4 := Def.of (P := l.prog) (w := w) (base := base) (k := 1) (PySem.W.mg_of X G a4) k4 (F4.binds (ps := ["size"]) fun _ _ _ _ _ _ us hl => match us, hl with | [_], _ => rfl) (ok_check_size F4 T)
    have F5 := fun_mk (st := s_checked) l5 c5 k5
    have D5 := Def.of (P := l.prog) (w := w) (base := base) (k := 2) (PySem.W.mg_of X G a5) k5 (F5.binds (ps := ["term"]) fun _ _ _ _ _ _ us hl => match us, hl with | [_], _ => rfl) (ok_checked F5 T D4)
    have F6 := fun_mk (st := s_depths) l6 c6 k6
    have D6 := Def.of (P := l.prog) (w := w) (base := base) (k := 1) (PySem.W.mg_of X G a6) k6 (F6.binds (ps := ["term"]) fun _ _ _ _ _ _ us hl => match us, hl with | [_], _ => rfl) (ok_depths F6 T)
    have F7 := fun_mk (st := s_stands_free) l7 c7 k7
    have D7 := Def.of (P := l.prog) (w := w) (base := base) (k := 1) (PySem.W.mg_of X G a7) k7 (F7.binds (ps := ["node", "depth"]) fun _ _ _ _ _ _ us hl => match us, hl with | [_, _], _ => rfl) (ok_stands_free F7 T)
    have F8 := fun_mk (st := s_lifted_nodes) l8 c8 k8
    have D8 := Def.of (P := l.prog) (w := w) (base := base) (k := 2) (PySem.W.mg_of X G a8) k8 (F8.binds (ps := ["term", "count"]) fun _ _ _ _ _ _ us hl => match us, hl with | [_, _], _ => rfl) (ok_lifted F8 T D6 D7)
    have F9 := fun_mk (st := s_lift) l9 c9 k9
    have D9 := Def.of (P := l.prog) (w := w) (base := base) (k := 3) (PySem.W.mg_of X G a9) k9 (F9.binds (ps := ["term", "count"]) fun _ _ _ _ _ _ us hl => match us, hl with | [_, _], _ => rfl) (ok_lift F9 T D8 D5)
    have F10 := fun_mk (st := s_put) l10 c10 k10
    have D10 := Def.of (P := l.prog) (w := w) (base := base) (k := 3) (PySem.W.mg_of X G a10) k10 (F10.binds (ps := ["term", "value"]) fun _ _ _ _ _ _ us hl => match us, hl with | [_, _], _ => rfl) (ok_put F10 T D6 D7 D8 D4 D5)
    have F11 := fun_mk (st := s_law_nest) l11 c11 k11
    have D11 := Def.of (P := l.prog) (w := w) (base := base) (k := 30) (PySem.W.mg_of X G a11) k11 (F11.binds (ps := ["term", "at", "scope", "count"]) fun _ _ _ _ _ _ us hl => match us, hl with | [_, _, _, _], _ => rfl) (ok_nest F11 T (PySem.W.mg_of X G a11) k11 (F11.binds (ps := ["term", "at", "scope", "count"]) fun _ _ _ _ _ _ us hl => match us, hl with | [_, _, _, _], _ => rfl) 30)
    have F12 := fun_mk (st := s_law_named_put) l12 c12 k12
    have D12 := Def.of (P := l.prog) (w := w) (base := base) (k := 30) (PySem.W.mg_of X G a12) k12 (F12.binds (ps := ["tree", "value"]) fun _ _ _ _ _ _ us hl => match us, hl with | [_, _], _ => rfl) (ok_nput F12 T (PySem.W.mg_of X G a12) k12 (F12.binds (ps := ["tree", "value"]) fun _ _ _ _ _ _ us hl => match us, hl with | [_, _], _ => rfl) 30)
    have F13 := fun_mk (st := s_law_flat) l13 c13 k13
    have D13 := Def.of (P := l.prog) (w := w) (base := base) (k := 30) (PySem.W.mg_of X G a13) k13 (F13.binds (ps := ["tree", "scope"]) fun _ _ _ _ _ _ us hl => match us, hl with | [_, _], _ => rfl) (ok_flat F13 T (PySem.W.mg_of X G a13) k13 (F13.binds (ps := ["tree", "scope"]) fun _ _ _ _ _ _ us hl => match us, hl with | [_, _], _ => rfl) 30)
    have F14 := fun_mk (st := s_law) l14 c14 k14
    exact ok_law F14 T D2 D1 D3 D11 D12 D13 D10 D9⟩
theorem walk {l : PySem.W.OpenLaw} {q : Program} {loose : List Str} {XP : (Str → Option Value) → Heap → Prop} {YP : World → Heap → Prop} {d : DefRec} {K : Params → PySem.W.Frag} (hn : l.most = some 63) (hdf : d.params.defaults = [])
    (hY : ∀ (w : World) (h : Heap), YP w h → (K w.params).In h)
    (F : ∀ (w : World) (mg : Str → Option Value) (fa : Addr) (h : Heap), (K w.params).In h → h.Ns mainGlobals mg → mg d.name = some (.ref fa) →
      ∃ fd : FuncData, (∀ (s : Shared) (u : Value), BindsTo s fd ⟨[u], []⟩ [("script", u)]) ∧ ∀ base : Heap, (K w.params).In base → base.Ns mainGlobals mg → FnOk l.prog w (K w.params) mg base (L2.CX l.prog w) 31 fa fd ["script"] (spLaw (K w.params))) :
    PySem.W.WalkO q loose XP YP l.row.toRowW d [] (fun f vs => PySem.call f vs) :=
  L2.walk_of (n := 63) (k := 31) (x := "script") (CX := fun w => L2.CX l.prog w) (sp := fun w => spLaw (K w.params)) hn (by decide) hdf ⟨rfl, by decide, by decide⟩ hY F (fun _ _ a ns hl _ hS => ⟨a, ns, rfl, hS, hl, fun _ => rfl⟩) fun _ _ _ _ _ z => (match z with | ⟨_, _, _, _, _, _, _, _, _, _, _, _, e⟩ => e)
end Ly
open PySem PySem.W PyProof.Rows in
set_option maxRecDepth 100000 in
set_option maxHeartbeats 0 in
theorem PySem.Challenge.cw_lydite_k06_whole_putting_holds : PySem.Challenge.rw_lydite_k06_whole_putting.Holds := by
  w_on; o_law; k_head; (case hw => w_witness2)
  k_fill
  refine Ly.walk (l := PySem.Challenge.rw_lydite_k06_whole_putting) rfl rfl (fun w h Y => PySem.W.kIn_of Y) ?F
  case F =>
    intro w mg fa h KX G hmg
    refine' Ly.all_mk KX G hmg ?a1 ?l1 ?c1 ?k1 ?a2 ?l2 ?c2 ?k2 ?a3 ?l3 ?c3 ?k3 ?a4 ?l4 ?c4 ?k4 ?a5 ?l5 ?c5 ?k5 ?a6 ?l6 ?c6 ?k6 ?a7 ?l7 ?c7 ?k7 ?a8 ?l8 ?c8 ?k8 ?a9 ?l9 ?c9 ?k9 ?a10 ?l10 ?c10 ?k10 ?a11 ?l11 ?c11 ?k11 ?a12 ?l12 ?c12 ?k12 ?a13 ?l13 ?c13 ?k13 ?a14 ?l14 ?c14 ?k14 ?z_int ?z_list ?z_len ?z_abs ?z_isinstance ?z_tuple ?z_range ?z_zip ?z_ValueError ?g_MOST_NODES ?g_MOST_VARIABLE ?e_TooLarge ?y_x_TooLarge ?y_k_TooLarge ?y_b_TooLarge ?y_t_TooLarge ?y_s1_TooLarge ?y_h1_TooLarge ?y_h2_TooLarge ?y_h3_TooLarge ?y_h4_TooLarge ?y_h5_TooLarge ?y_h6_TooLarge ?y_h7_TooLarge
    (case a1 => k_is)
    (case l1 => k_is)
    (case c1 => k_is)
    (case k1 => k_is)
    (case a2 => k_is)
    (case l2 => k_is)
    (case c2 => k_is)
    (case k2 => k_is)
    (case a3 => k_is)
    (case l3 => k_is)
    (case c3 => k_is)
    (case k3 => k_is)
    (case a4 => k_is)
    (case l4 => k_is)
    (case c4 => k_is)
    (case k4 => k_is)
    (case a5 => k_is)
    (case l5 => k_is)
    (case c5 => k_is)
    (case k5 => k_is)
    (case a6 => k_is)
    (case l6 => k_is)
    (case c6 => k_is)
    (case k6 => k_is)
    (case a7 => k_is)
    (case l7 => k_is)
    (case c7 => k_is)
    (case k7 => k_is)
    (case a8 => k_is)
    (case l8 => k_is)
    (case c8 => k_is)
    (case k8 => k_is)
    (case a9 => k_is)
    (case l9 => k_is)
    (case c9 => k_is)
    (case k9 => k_is)
    (case a10 => k_is)
    (case l10 => k_is)
    (case c10 => k_is)
    (case k10 => k_is)
    (case a11 => k_is)
    (case l11 => k_is)
    (case c11 => k_is)
    (case k11 => k_is)
    (case a12 => k_is)
    (case l12 => k_is)
    (case c12 => k_is)
    (case k12 => k_is)
    (case a13 => k_is)
    (case l13 => k_is)
    (case c13 => k_is)
    (case k13 => k_is)
    (case a14 => k_is)
    (case l14 => k_is)
    (case c14 => k_is)
    (case k14 => k_is)
    (case z_int => k_is)
    (case z_list => k_is)
    (case z_len => k_is)
    (case z_abs => k_is)
    (case z_isinstance => k_is)
    (case z_tuple => k_is)
    (case z_range => k_is)
    (case z_zip => k_is)
    (case z_ValueError => k_is)
    (case g_MOST_NODES => k_is)
    (case g_MOST_VARIABLE => k_is)
    (case e_TooLarge => k_is)
    (case y_x_TooLarge => k_exc)
    (case y_k_TooLarge => k_is)
    (case y_b_TooLarge => k_is)
    (case y_t_TooLarge => k_is)
    (case y_s1_TooLarge => k_is)
    (case y_h1_TooLarge => k_is)
    (case y_h2_TooLarge => k_is)
    (case y_h3_TooLarge => k_is)
    (case y_h4_TooLarge => k_is)
    (case y_h5_TooLarge => k_is)
    (case y_h6_TooLarge => k_is)
    (case y_h7_TooLarge => k_is)
