import PyProof.Rows.All
import Wide.All
import OpenK.AllK
import Wide.FinOn
import HandS.ForMost
import HandS.IsInst
import HandS.Style
import HandS.Walk
import HandS.TupMul
import HandS.TupAny
import HandS.Evl
import HandS.Strs
import HandS.SortInts
import PyProof.P3Eq
import HandS.ForExc
import HandS.ExcIs
import HandS.FStr
import HandS.RaiseMore
import HandS.Dict
import HandS.More
import HandS.Iter
import HandS.CallLocal
import KE.GoesMore
import KE.GoesEnum
import HandS.Rev
import HandS.Comp
import HandS.HotCalls
import HandS.ExcCtx
import HandS.SuiteRaise
import HandS.WordsExc
import HandS.TryMany
import HandS.RaiseFrom
import HandS.Conv
import HandS.Deep
import HandS.SetKeys
import HandS.List
import PySem.Challenge.RW_lydite_k97_whole_first_steps_end
set_option Elab.async false
set_option linter.all false
set_option maxRecDepth 100000
namespace Ly
open PySem PySem.Spec PyProof.Rows L2 Evl

section
variable {K : PySem.W.Frag} {σ : L2.St} {H H' H0 : Hp} {Q : VK} {D : Ends} {ta tb tc te to : TE} {tA : TA} {t u : TT} {s1 s2 : TS} {g : TG}
theorem w_var {i : Nat} {v : V} (h : σ[i]? = some (some v)) (q : Q v H) : tVar i σ H Q := ⟨v, h, q⟩
theorem w_c {v : V} (q : Q v H) : tC v σ H Q := q
theorem w_op {r : R2} (h : ta σ H fun x H1 => tb σ H1 fun y H2 => r x y H2 Q) : tOp r ta tb σ H Q := h
theorem w_un {r : V → Hp → VK → Prop} (h : ta σ H fun x H1 => r x H1 Q) : tUn r ta σ H Q := h
theorem w_I0 {f : Int → Int → V} {i j : Int} (q : Q (f i j) H) : rI0 f (.int i) (.int j) H Q := ⟨i, j, rfl, rfl, q⟩
theorem w_I {C : Int → Int → Prop} {f : Int → Int → V} {i j : Int} (c : C i j) (q : Q (f i j) H) : rI C f (.int i) (.int j) H Q := ⟨i, j, rfl, rfl, c, q⟩
theorem w_U {f : Int → V} {i : Int} (q : Q (f i) H) : rU f (.int i) H Q := ⟨i, rfl, q⟩
theorem w_eq {x y : V} (s : scal x y = true) (q : Q (.bl (decide (x = y))) H) : rEq x y H Q := ⟨s, q⟩
theorem w_ne {x y : V} (s : scal x y = true) (q : Q (.bl (!decide (x = y))) H) : rNe x y H Q := ⟨s, q⟩
theorem w_isB {a b : Bool} (q : Q (.bl (decide (a = b))) H) : rIsB (.bl a) (.bl b) H Q := ⟨a, b, rfl, rfl, q⟩
theorem w_notB {a b : Bool} (q : Q (.bl (!decide (a = b))) H) : rNotB (.bl a) (.bl b) H Q := ⟨a, b, rfl, rfl, q⟩
theorem w_nil {R : List V → Hp → Prop} (q : R [] H) : tNil σ H R := q
theorem w_cons {R : List V → Hp → Prop} {tr : TA} (h : ta σ H fun x H1 => tr σ H1 fun xs H2 => R (x :: xs) H2) : tCons ta tr σ H R := h
theorem w_tup (h : tA σ H fun xs H1 => xs.length ≤ sizeLine ∧ ∀ p, H1 p = none → Q (.ref p) (upd H1 p (.tup xs))) : tTup tA σ H Q := h
theorem w_lst (h : tA σ H fun xs H1 => xs.length ≤ sizeLine ∧ ∀ p, H1 p = none → Q (.ref p) (upd H1 p (.lst xs))) : tLst tA σ H Q := h
theorem w_cb {r : List V → Hp → VK → Prop} (h : tA σ H fun vs H1 => r vs H1 Q) : tCB r tA σ H Q := h
theorem w_call {sp : Sp} {dvs : List V} {E : XK} (h : tA σ H fun vs H1 => sp (vs ++ dvs) H1 Q E) : tCall sp dvs E tA σ H Q := h
theorem w_isi {x : V} {n : String} {t : Value} {b : Bool} (h : TyX K H x t) (k : PySem.W.kitOne K t (.type n) = some b) (q : Q (.bl b) H) : rIsi K [x, .ty n] H Q :=
  ⟨x, .ty n, t, .type n, b, rfl, .ty n, h, k, q⟩
theorem w_bm {T : String} {r : V → List V → Hp → VK → Prop} (h : to σ H fun x H1 => tyV K T x H1 ∧ tA σ H1 fun xs H2 => r x xs H2 Q) : tBM K T r to tA σ H Q := h
theorem w_bm0 {T : String} {r : V → List V → Hp → VK → Prop} (h : to σ H fun x H1 => tyV K T x H1 ∧ r x [] H1 Q) : tBM0 K T r to σ H Q := h
theorem w_app {l : Addr} {xs : List V} {y : V} (h : H l = some (.lst xs)) (z : xs.length < sizeLine) (q : Q .non (upd H l (.lst (xs ++ [y])))) : rAppend (.ref l) [y] H Q := ⟨l, xs, y, rfl, rfl, h, z, q⟩
theorem w_popA {l : Addr} {xs : List V} {y : V} (h : H l = some (.lst (xs ++ [y]))) (q : Q y (upd H l (.lst xs))) : rPop (.ref l) [] H Q :=
  ⟨l, xs ++ [y], y, rfl, rfl, h, by simp, by rw [List.dropLast_concat]; exact q⟩
theorem w_sadd {w : World} {a : Addr} {k : Int} {S : Int → Bool} {n : Nat} (h : H a = some (SetO w a S n)) (r : n + 1 < 4096) (q : Q .non (upd H a (SetO w a (fun j => S j || decide (j = k)) (if S k = true then n else n + 1)))) : rSAdd w (.ref a) [.int k] H Q := ⟨a, k, S, n, rfl, rfl, h, r, q⟩
theorem w_tsadd {w : World} (h : ta σ H fun x H1 => (∃ a S n, x = V.ref a ∧ H1 a = some (SetO w a S n)) ∧ tA σ H1 fun xs H2 => rSAdd w x xs H2 Q) : tSAdd w ta tA σ H Q := h
theorem w_tsadd1 {w : World} {a : Addr} {S : Int → Bool} {n : Nat} {B : Prop} (h : H a = some (SetO w a S n)) (q : B) : (∃ b S' n', V.ref a = V.ref b ∧ H b = some (SetO w b S' n')) ∧ B := ⟨⟨a, S, n, rfl, h⟩, q⟩
theorem w_ext {l b : Addr} {xs zs : List V} (h : H l = some (.lst xs)) (h2 : H b = some (.lst zs)) (z : xs.length + zs.length ≤ sizeLine) (q : Q .non (upd H l (.lst (xs ++ zs)))) : rExtend (.ref l) [.ref b] H Q := ⟨l, b, xs, zs, rfl, rfl, h, h2, z, q⟩
theorem w_ixL {p : Addr} {xs : List V} {i : Int} {v : V} (h : SqL K H p xs) (a : atI xs i = some v) (q : Q v H) : rIxL K (.ref p) (.int i) H Q := ⟨p, xs, i, v, rfl, rfl, h, a, q⟩
theorem w_ixT {p : Addr} {xs : List V} {i : Int} {v : V} (h : SqT K H p xs) (a : atI xs i = some v) (q : Q v H) : rIxT K (.ref p) (.int i) H Q := ⟨p, xs, i, v, rfl, rfl, h, a, q⟩
theorem w_cat {a b : Addr} {xs ys : List V} (h : H a = some (.lst xs)) (h2 : H b = some (.lst ys)) (z : xs.length + ys.length ≤ sizeLine) (q : ∀ p, H p = none → Q (.ref p) (upd H p (.lst (xs ++ ys)))) : rCat (.ref a) (.ref b) H Q := ⟨a, b, xs, ys, rfl, rfl, h, h2, z, q⟩
theorem w_test {R : Bool → Hp → Prop} (h : te σ H fun x H1 => ∃ k, x = .bl k ∧ R k H1) : tTest te σ H R := h
theorem w_tB {R : Bool → Hp → Prop} (h : te σ H fun x H1 => ∃ k, x = .bl k ∧ R k H1) : tB te σ H R := h
theorem w_bl {A : Bool → Prop} {k : Bool} (h : A k) : ∃ c, V.bl k = .bl c ∧ A c := ⟨k, rfl, h⟩
theorem w_and {R : Bool → Hp → Prop} (h : t σ H fun c H1 => if c = true then u σ H1 R else R false H1) : tAnd t u σ H R := h
theorem w_or {R : Bool → Hp → Prop} (h : t σ H fun c H1 => if c = true then R true H1 else u σ H1 R) : tOr t u σ H R := h
theorem w_not {R : Bool → Hp → Prop} (h : t σ H fun c H1 => R (!c) H1) : tNot t σ H R := h
theorem w_andV (h : ta σ H fun x H1 => ∃ c, x = .bl c ∧ if c = true then tb σ H1 Q else Q (.bl false) H1) : tAndV ta tb σ H Q := h
theorem w_orV (h : ta σ H fun x H1 => ∃ c, x = .bl c ∧ if c = true then Q (.bl true) H1 else tb σ H1 Q) : tOrV ta tb σ H Q := h
theorem w_notV (h : ta σ H fun x H1 => ∃ c, x = .bl c ∧ Q (.bl (!c)) H1) : tNotV ta σ H Q := h
theorem w_ifE (h : t σ H fun c H1 => if c = true then ta σ H1 Q else tb σ H1 Q) : tIf t ta tb σ H Q := h
theorem w_ch {r r' : R2} (h : ta σ H fun x H1 => tb σ H1 fun y H2 => r x y H2 fun z H3 => ∃ k, z = .bl k ∧ (if k = true then tc σ H3 fun w' H4 => r' y w' H4 Q else Q (.bl false) H3)) : tChain r r' ta tb tc σ H Q := h
-- statements
theorem sl_of {t : TS} {D : Ends} {σ σ2 : L2.St} {H : Hp} (e : σ = σ2) (h : t D σ2 H) : t D σ H := by
  rw [e]
  exact h
theorem w_seq (h : s1 { D with nx := s2 D } σ H) : tSeq s1 s2 D σ H := h
theorem w_cut {M : L2.St → Hp → Prop} (h : s1 { D with nx := M } σ H) (q : ∀ σ' H', M σ' H' → s2 D σ' H') : tCut s1 s2 D σ H := ⟨M, h, q⟩
theorem w_while (W : Nat → L2.St → Hp → Prop) (m0 : Nat) (h0 : W m0 σ H) (hs : ∀ m σ H, W m σ H → t σ H fun b H1 => if b = true then ∃ N : L2.St → Hp → Prop, (∀ σ' H', N σ' H' → ∃ m', m' < m ∧ W m' σ' H') ∧ s1 { D with nx := N, ct := N, bk := D.nx } σ H1 else D.nx σ H1) : tWhile t s1 D σ H := ⟨W, ⟨m0, h0⟩, hs⟩
theorem w_truL {l : Addr} {xs : List V} {A : Bool → Prop} (h : SqL K H l xs) (q : A (!xs.isEmpty)) : ∃ k, TruV K (.ref l) H k ∧ A k := ⟨_, .inl ⟨xs, h, rfl⟩, q⟩
theorem w_next (h : D.nx σ H) : tNext D σ H := h
theorem w_drop (h : te σ H fun _ H1 => D.nx σ H1) : tDrop te D σ H := h
theorem w_ret (h : te σ H D.rt) : tRet te D σ H := h
theorem w_asg (h : te σ H fun x H1 => g x σ H1 D.nx) : tAsg te g D σ H := h
theorem w_if (h : t σ H fun b H1 => if b = true then s1 D σ H1 else s2 D σ H1) : tIfS t s1 s2 D σ H := h
theorem w_name {v : V} {i : Nat} {R : L2.St → Hp → Prop} (h : R (σ.set i (some v)) H) : gName i v σ H R := h
theorem w_sub {v : V} {st : TSet} {R : L2.St → Hp → Prop} (h : ta σ H fun o H1 => tb σ H1 fun i H2 => st o i v H2 fun H3 => R σ H3) : gSub ta tb st v σ H R := h
theorem w_setL {R : Hp → Prop} {p : Addr} {xs : List V} {k : Int} {j : Nat} {v : V} (h : H p = some (.lst xs)) (a : ixN xs.length k = some j) (q : R (upd H p (.lst (xs.set j v)))) : rSetL (.ref p) (.int k) v H R := ⟨p, xs, k, j, rfl, rfl, h, a, q⟩
theorem w_aug {i : Nat} {x : V} {ti : TIp} (h : σ[i]? = some (some x)) (q : te σ H fun y H1 => ti x y H1 fun z H2 => D.nx (σ.set i (some z)) H2) : tAug i te ti D σ H := ⟨x, h, q⟩
theorem w_ipI {f : Int → Int → Int} {i j : Int} (q : Q (.int (f i j)) H) : ipI f (.int i) (.int j) H Q := ⟨i, j, rfl, rfl, q⟩
end

def ForB (J : It) (g : TG) (tb : TS) (D : Ends) (σ : L2.St) (H1 : Hp) : Prop := ∃ W : Nat → Nat → L2.St → Hp → Prop, (∃ m, W 0 m σ H1) ∧ ∀ i m σ H, W i m σ H →
  (J.stop i H ∧ D.nx σ H) ∨ (J.go i H ∧ ∃ N : L2.St → Hp → Prop, (∀ σ' H', N σ' H' → ∃ m', m' < m ∧ W (i + 1) m' σ' H') ∧ ∀ x H', J.yld i H x H' → g x σ H' fun σ2 H2 => tb { D with nx := N, ct := N, bk := D.nx } σ2 H2)
def LcB (J : It) (g : TG) (tt : TT) (te : TE) (vs : List Nat) (Q : VK) (σ : L2.St) (H1 : Hp) (Dl : Addr) : Prop := ∃ W : Nat → Nat → Hp → Prop, (∃ m, W 0 m (upd H1 Dl (.lst []))) ∧ ∀ i m H, W i m H →
  (J.stop i H ∧ Q (.ref Dl) H) ∨ (J.go i H ∧ ∃ Nx : Hp → Prop, (∀ H', Nx H' → ∃ m', m' < m ∧ W (i + 1) m' H') ∧ ∀ x H', J.yld i H x H' → g x (wipe σ vs) H' fun σ2 H2 => wipe σ2 vs = wipe σ vs ∧ tt σ2 H2 fun b H3 =>
    if b = true then te σ2 H3 fun y H4 => ∃ acc, H4 Dl = some (.lst acc) ∧ acc.length < sizeLine ∧ Nx (upd H4 Dl (.lst (acc ++ [y]))) else Nx H3)
section
variable {K : PySem.W.Frag} {σ : L2.St} {H : Hp} {D : Ends} {ta tb : TE} {tA : TA} {g : TG} {s1 : TS} {wi : TI} {R : It → Hp → Prop}
theorem w_for (h : wi σ H fun J H1 => ForB J g s1 D σ H1) : tFor wi g s1 D σ H := h
theorem w_iL (h : ta σ H fun x H1 => ∃ a, x = .ref a ∧ (∃ xs, SqL K H1 a xs) ∧ R (Itl K a) H1) : iList K ta σ H R := h
theorem w_iL1 {a : Addr} {xs : List V} {B : Addr → Prop} (h : SqL K H a xs) (q : B a) : ∃ b, V.ref a = .ref b ∧ (∃ ys, SqL K H b ys) ∧ B b := ⟨a, rfl, ⟨xs, h⟩, q⟩
theorem w_iT (h : ta σ H fun x H1 => ∃ a, x = .ref a ∧ (∃ xs, SqT K H1 a xs) ∧ R (Itt K a) H1) : iTup K ta σ H R := h
theorem w_iT1 {a : Addr} {xs : List V} {B : Addr → Prop} (h : SqT K H a xs) (q : B a) : ∃ b, V.ref a = .ref b ∧ (∃ ys, SqT K H b ys) ∧ B b := ⟨a, rfl, ⟨xs, h⟩, q⟩
theorem w_iR (h : tA σ H fun vs H1 => ∃ j : Int, vs = [.int j] ∧ -(2 ^ 62) ≤ j ∧ j < 2 ^ 62 ∧ R (Itr 0 j.toNat) H1) : iRng1 tA σ H R := h
theorem w_iR1 {j : Int} {B : Int → Prop} (h1 : -(2 ^ 62) ≤ j) (h2 : j < 2 ^ 62) (q : B j) : ∃ k, [V.int j] = [V.int k] ∧ -(2 ^ 62) ≤ k ∧ k < 2 ^ 62 ∧ B k := ⟨j, rfl, h1, h2, q⟩
theorem w_yes {R : Bool → Hp → Prop} (h : R true H) : tYes σ H R := h
theorem w_wipe {σ2 : L2.St} {vs : List Nat} {B : Prop} (e : wipe σ2 vs = wipe σ vs) (q : B) : wipe σ2 vs = wipe σ vs ∧ B := ⟨e, q⟩
theorem w_lc {tt : TT} {te : TE} {vs : List Nat} {Q : VK} (h : wi σ H fun J H1 => ∀ Dl, H1 Dl = none → LcB J g tt te vs Q σ H1 Dl) : tLc wi g tt te vs σ H Q := h
end

def Fr (s : Addr) (H H' : Hp) : Prop := ∀ a o, a ≠ s → H a = some o → H' a = some o
section
variable {K : PySem.W.Frag} {H H' H0 H1 H2 : Hp} {a p s : Addr} {o : HO} {xs ys : List V}
theorem Fr.refl (s : Addr) (H : Hp) : Fr s H H := fun _ _ _ h => h
theorem Fr.ex (e : Ex H H') : Fr s H H' := fun a o _ h => e a o h
theorem Fr.trans (a : Fr s H H1) (b : Fr s H1 H2) : Fr s H H2 := fun x o n h => b x o n (a x o n h)
theorem Fr.new (e : Fr s H H') (h : H' p = none) : Fr s H (upd H' p o) := fun x u n ha => by
  have q := e x u n ha
  rw [upd_ne (ne_of_none q h)]
  exact q
theorem Fr.mut (e : Fr s H H') (h : H p = none) : Fr s H (upd H' p o) := fun x u n ha => by
  rw [upd_ne (ne_of_none ha h)]
  exact e x u n ha
theorem Fr.own (e : Fr s H H') : Fr s H (upd H' s o) := fun x u n ha => by
  rw [upd_ne n]
  exact e x u n ha
theorem Fr.free (e : Fr s H H') (hs : H s = some o) (h : H' p = none) (h2 : p ≠ s) : H p = none := by
  cases q : H p with
  | none => rfl
  | some u =>
    rw [e p u h2 q] at h
    cases h
theorem fr_t (e : Fr s H H') (hs : H s = some (.lst ys)) (h : SqT K H a xs) : SqT K H' a xs := by
  rcases h with (h | ⟨ob, h⟩) | h
  · exact .inl (.inl (e a _ (fun z => by rw [z, hs] at h; cases h) h))
  · exact .inl (.inr ⟨ob, e a _ (fun z => by rw [z, hs] at h; cases h) h⟩)
  · exact .inr h
theorem ex_upd (e : Ex H H') (h : H p = none) : Ex H (upd H' p o) := e.mut h
theorem ex_new (e : Ex H H') (h : H' p = none) : Ex H (upd H' p o) := e.trans (Ex.new h)
theorem ly_at (e : Ex H H') (h : H a = some o) : H' a = some o := e a o h
theorem ly_atF (e : Fr s H H') (n : a ≠ s) (h : H a = some o) : H' a = some o := e a o n h
theorem ly_mulL {i j : Int} (h1 : -(2 ^ 64) < i) (h2 : i < 2 ^ 64) : CMul i j := .inl ⟨h1, h2⟩
theorem ly_mulR {i j : Int} (h1 : -(2 ^ 64) < j) (h2 : j < 2 ^ 64) : CMul i j := .inr ⟨h1, h2⟩
end
section
variable {K : PySem.W.Frag} {H : Hp} {Q : VK} {p : Addr} {xs : List V}
theorem w_int {i : Int} {A : Int → Prop} {B : Prop} (q : A i) : (∃ j, [V.int i] = [V.int j] ∧ A j) ∨ B := .inl ⟨i, rfl, q⟩
theorem w_intB {k : Bool} {A : Prop} {B : Bool → Prop} (q : B k) : A ∨ ∃ c, [V.bl k] = [V.bl c] ∧ B c := .inr ⟨k, rfl, q⟩
theorem w_abs {i : Int} {A : Int → Prop} (q : A i) : ∃ j, [V.int i] = [V.int j] ∧ A j := ⟨i, rfl, q⟩
theorem w_lenL {A : Addr → List V → Prop} (h : SqL K H p xs) (q : A p xs) : ∃ a ys, [V.ref p] = [V.ref a] ∧ (SqL K H a ys ∨ SqT K H a ys) ∧ A a ys := ⟨p, xs, rfl, .inl h, q⟩
theorem w_lenT {A : Addr → List V → Prop} (h : SqT K H p xs) (q : A p xs) : ∃ a ys, [V.ref p] = [V.ref a] ∧ (SqL K H a ys ∨ SqT K H a ys) ∧ A a ys := ⟨p, xs, rfl, .inr h, q⟩
theorem w_tupL {A B : Addr → List V → Prop} (h : SqL K H p xs) (q : A p xs) : ∃ a ys, [V.ref p] = [V.ref a] ∧ ((SqL K H a ys ∧ A a ys) ∨ (SqT K H a ys ∧ B a ys)) := ⟨p, xs, rfl, .inl ⟨h, q⟩⟩
theorem w_tupT {A B : Addr → List V → Prop} (h : SqT K H p xs) (q : B p xs) : ∃ a ys, [V.ref p] = [V.ref a] ∧ ((SqL K H a ys ∧ A a ys) ∨ (SqT K H a ys ∧ B a ys)) := ⟨p, xs, rfl, .inr ⟨h, q⟩⟩
theorem w_nT {A B : Prop} (h : B) : if (!true) = true then A else B := iteF h
theorem w_nF {A B : Prop} (h : A) : if (!false) = true then A else B := iteT h
theorem w_br {c A B : Prop} [Decidable c] (h1 : c → A) (h2 : ¬ c → B) : if decide c = true then A else B := ite2 (fun h => h1 (of_decide_eq_true h)) (fun h => h2 (fun z => h (decide_eq_true z)))
theorem w_deIS {i : Int} {x : Str} {A B : Prop} (h : B) : if decide (V.int i = V.str x) = true then A else B := iteF h
theorem w_deSI {i : Int} {x : Str} {A B : Prop} (h : B) : if decide (V.str x = V.int i) = true then A else B := iteF h
theorem w_deST {x y : Str} {A B : Prop} (e : x = y) (h : A) : if decide (V.str x = V.str y) = true then A else B := by
  rw [decide_eq_true (by rw [e])]
  exact iteT h
theorem w_deSF {x y : Str} {A B : Prop} (e : x ≠ y) (h : B) : if decide (V.str x = V.str y) = true then A else B := by
  rw [decide_eq_false (fun z => e (V.str.inj z))]
  exact iteF h
theorem w_deISn {i : Int} {x : Str} {A B : Prop} (h : A) : if (!decide (V.int i = V.str x)) = true then A else B := iteT h
theorem w_deSTn {x y : Str} {A B : Prop} (e : x = y) (h : B) : if (!decide (V.str x = V.str y)) = true then A else B := by
  rw [decide_eq_true (by rw [e])]
  exact iteF h
theorem w_deSFn {x y : Str} {A B : Prop} (e : x ≠ y) (h : A) : if (!decide (V.str x = V.str y)) = true then A else B := by
  rw [decide_eq_false (fun z => e (V.str.inj z))]
  exact iteT h
theorem w_neS {x : V} {A B : Prop} (h : B) : if (!decide (x = x)) = true then A else B := by
  rw [decide_eq_true rfl]
  exact iteF h
theorem w_eqS {x : V} {A B : Prop} (h : A) : if decide (x = x) = true then A else B := by
  rw [decide_eq_true rfl]
  exact iteT h
theorem w_neSb {x : Bool} {A B : Prop} (h : B) : if (!decide (x = x)) = true then A else B := by
  rw [decide_eq_true rfl]
  exact iteF h
theorem w_eqSb {x : Bool} {A B : Prop} (h : A) : if decide (x = x) = true then A else B := by
  rw [decide_eq_true rfl]
  exact iteT h
theorem w_neG {α : Type} {x : α} [Decidable (x = x)] {A B : Prop} (h : B) : if (!decide (x = x)) = true then A else B := by
  rw [decide_eq_true rfl]
  exact iteF h
theorem w_eqG {α : Type} {x : α} [Decidable (x = x)] {A B : Prop} (h : A) : if decide (x = x) = true then A else B := by
  rw [decide_eq_true rfl]
  exact iteT h
theorem w_nn {B : Prop} (q : B) : V.non = V.non ∧ B := ⟨rfl, q⟩
theorem w_nnT {A B : Prop} (h : B) : if (!decide (V.non = V.non)) = true then A else B := iteF h
theorem w_nnR {a : Addr} {A B : Prop} (h : A) : if (!decide (V.ref a = V.non)) = true then A else B := iteT h
theorem w_brI {i j : Int} {A B : Prop} (h1 : i = j → A) (h2 : i ≠ j → B) : if decide (V.int i = V.int j) = true then A else B := w_br (fun h => h1 (V.int.inj h)) (fun h => h2 (fun z => h (by rw [z])))
theorem w_disp {R : Addr → Prop} (z : xs.length ≤ sizeLine) (q : ∀ p, H p = none → R p) : xs.length ≤ sizeLine ∧ ∀ p, H p = none → R p := ⟨z, q⟩
theorem w_tyL {R : Prop} (h : SqL K H p xs) (q : R) : tyV K "list" (.ref p) H ∧ R := ⟨.inl ⟨rfl, xs, h⟩, q⟩
end
theorem kcls_mk {K : PySem.W.Frag} {t : Value} {C : Addr} {r : Bool} (d : PySem.W.hasDictIn K C = true) (ty : PySem.W.typeIn K (.ref C) = some (.type "type")) (s : PySem.W.subIn K t (.ref C) = some r) : PySem.W.kitCls K t (.ref C) = some r := by
  have h : ((PySem.W.clsIn K C).isSome && PySem.W.typeIn K (.ref C) == some (.type "type")) = true := by
    obtain ⟨cd, hc, _⟩ := PySem.W.any_some d
    rw [hc, ty]
    simp
  show (if ((PySem.W.clsIn K C).isSome && PySem.W.typeIn K (.ref C) == some (.type "type")) = true then PySem.W.subIn K t (.ref C) else none) = some r
  rw [if_pos h, s]
theorem exm_mk {K : PySem.W.Frag} {t : Value} {C : Addr} {r : Bool} (b : PySem.W.subIn K (.ref C) (.type "BaseException") = some true) (d : PySem.W.hasDictIn K C = true) (ty : PySem.W.typeIn K (.ref C) = some (.type "type")) (s : PySem.W.subIn K t (.ref C) = some r) : PySem.W.exmOne K t (.ref C) = some r := by
  unfold PySem.W.exmOne
  rw [b]
  simp [kcls_mk d ty s]
section
variable {K : PySem.W.Frag} {σ : L2.St} {H : Hp} {Q : VK} {te : TE} {tA : TA}
theorem w_js {ts : List TE} {acc : Str} {R : Str → Hp → Prop} (h : te σ H fun x H1 => ∃ y : Str, x = .str y ∧ (acc ++ y).length ≤ sizeLine ∧ tJs ts (acc ++ y) σ H1 R) : tJs (te :: ts) acc σ H R := h
theorem w_jsn {acc : Str} {R : Str → Hp → Prop} (h : R acc H) : tJs [] acc σ H R := h
theorem w_js1 {z acc : Str} {A : Str → Prop} (hl : (acc ++ z).length ≤ sizeLine) (q : A z) : ∃ y : Str, V.str z = .str y ∧ (acc ++ y).length ≤ sizeLine ∧ A y := ⟨z, rfl, hl, q⟩
theorem w_fmt (h : te σ H fun x H1 => (∃ y : Str, x = .str y ∧ y.length ≤ sizeLine ∧ Q (.str y) H1) ∨ ∃ i : Int, x = .int i ∧ i.natAbs.log2 < 1920 ∧ Q (.str (toString i)) H1) : tFmt te σ H Q := h
theorem w_fmt1 {i : Int} {A : Prop} {B : Int → Prop} (hl : i.natAbs.log2 < 1920) (q : B i) : A ∨ ∃ j : Int, V.int i = .int j ∧ j.natAbs.log2 < 1920 ∧ B j := .inr ⟨i, rfl, hl, q⟩
theorem w_callS {sp : Sp} {E : L2.St → XK} (h : tA σ H fun vs H1 => sp vs H1 Q (E σ)) : tCallS sp E tA σ H Q := h
end
section
variable {K : PySem.W.Frag} {H H' : Hp} {Q : VK} {a b p : Addr} {xs ys : List V}
theorem w_catA (h : SqT K H a xs) (h2 : SqT K H b ys) (z : xs.length + ys.length ≤ sizeLine) (q : ∀ p H', Ex H H' → SqT K H' p (xs ++ ys) → Q (.ref p) H') : rCatA K (.ref a) (.ref b) H Q :=
  ⟨a, b, xs, ys, rfl, rfl, h, h2, z, fun e => q b H (Ex.refl H) (by rw [e]; exact h2), fun _ e => q a H (Ex.refl H) (by rw [e, List.append_nil]; exact h), fun _ _ p hp => q p _ (Ex.new hp) (SqT.of upd_same)⟩
theorem w_slA {lo hi : Option Int} (h : SqT K H a xs) (q : ∀ p H', Ex H H' → SqT K H' p (cutV xs lo hi) → Q (.ref p) H') : rSlA K (.ref a) lo hi H Q := by
  refine ⟨a, xs, rfl, h, fun e => q a H (Ex.refl H) ?_, fun _ p hp => q p _ (Ex.new hp) (SqT.of upd_same)⟩
  unfold cutV
  rw [e.1, e.2]
  simpa using h
theorem tyx_t (h : SqT K H a xs) : TyX K H (.ref a) (.type "tuple") := by
  rcases h with (h | ⟨o, h⟩) | ⟨o, _, _, h, c, _⟩
  · exact .base (.tup h)
  · exact .fTuple h
  · exact .kTuple h c
theorem tyx_l (h : SqL K H a xs) : TyX K H (.ref a) (.type "list") := by
  rcases h with (h | ⟨o, h⟩) | ⟨o, _, _, h, c, _⟩
  · exact .base (.lst h)
  · exact .base (.frz h)
  · exact .kList h c
end
set_option maxHeartbeats 4000000 in
theorem mul_one_meets (l : Addr) (items : Array Value) (n : Nat) (di : Option Addr) (ss : Array (Option Value)) (u : Tok) :
    Meets (Builtin.«tuple.__mul__» ⟨[.ref l, .int 1 u], []⟩) (fun _ R s => s.heap.get? l = some { cls := .type "tuple", dict := di, data := .seq items n, slots := ss } ∧ R (.ok (.ret (Value.ref l))) s) :=
  .of_wp fun prog w A R s ⟨hl, h⟩ => by
    obtain ⟨hp, g, d, tk, os⟩ := s
    have idx := AutoSeq1.idx_int
    have c1 : (items.isEmpty || (1 : Int) == 1) = true := by simp
    have c0 : (decide ((1 : Int) < -(2 ^ 63)) || decide ((1 : Int) ≥ 2 ^ 63)) = false := by decide
    wp_walk using wpAny_loadPart' hl
    repeat (first
      | (refine wpAny_ite_false (decide_eq_false (fun z => by rw [c0] at z; cases z)) ?_; wp_walk using wpAny_loadPart' hl)
      | (refine wpAny_ite_true (decide_eq_true (by simp)) ?_; wp_walk using wpAny_loadPart' hl))
    exact ⟨_, rfl, h⟩
set_option maxHeartbeats 4000000 in
theorem mul_zero_meets (l : Addr) (items : Array Value) (n : Nat) (di : Option Addr) (ss : Array (Option Value)) (u : Tok) (em : items.isEmpty = false) :
    Meets (Builtin.«tuple.__mul__» ⟨[.ref l, .int 0 u], []⟩) (fun _ R s => s.heap.get? l = some { cls := .type "tuple", dict := di, data := .seq items n, slots := ss } ∧
      R (.ok (.ret (Value.ref s.heap.objs.size))) { s with heap := s.heap.push { cls := Value.type "tuple", data := Data.seq #[] }, toks := s.toks }) :=
  .of_wp fun prog w A R s ⟨hl, h⟩ => by
    obtain ⟨hp, g, d, tk, os⟩ := s
    have idx := AutoSeq1.idx_int
    have c1 : (items.isEmpty || (0 : Int) == 1) = false := by rw [em]; rfl
    have c2 : (decide ((0 : Int) ≤ 0) || items.isEmpty) = true := by simp
    have c0 : (decide ((0 : Int) < -(2 ^ 63)) || decide ((0 : Int) ≥ 2 ^ 63)) = false := by decide
    wp_walk using wpAny_loadPart' hl
    repeat (first
      | (refine wpAny_ite_false (decide_eq_false (fun z => by rw [c0] at z; cases z)) ?_; wp_walk using wpAny_loadPart' hl)
      | (refine wpAny_ite_false (decide_eq_false (fun z => by rw [c1] at z; cases z)) ?_; wp_walk using wpAny_loadPart' hl)
      | (refine wpAny_ite_true (decide_eq_true c2) ?_; wp_walk using wpAny_loadPart' hl))
    exact ⟨_, rfl, h⟩
def rRepB (K : PySem.W.Frag) : R2 := fun x y H Q => ∃ (l : Addr) (k : Int) (xs : List V), x = .ref l ∧ y = .int k ∧ SqT K H l xs ∧ xs ≠ [] ∧ 0 ≤ k ∧ k ≤ 3000 ∧ xs.length ≤ 1000 ∧ (k = 1 → Q (.ref l) H) ∧ (k ≠ 1 → ∀ p, H p = none → Q (.ref p) (upd H p (.tup (List.replicate k.toNat xs).flatten)))
theorem op_repB {X : Cx} : OpR X (binaryOp .Mult) (rRepB X.K) := by
  intro pins s σ H x y v u Q I rx ry ⟨l, k, xs, ex, ey, hT, hne, k0, k3, hz, q1, q⟩
  subst ex ey
  cases rx
  obtain ⟨tt, eu⟩ := ry
  subst eu
  obtain ⟨its, r, ⟨⟨cl, di, da, ss⟩, hob, hcl, n, hda⟩, _⟩ := I.tuple hT
  simp only at hcl hda
  subst hcl hda
  have el : its.length = xs.length := r.length.symm
  have es : its.toArray.size = xs.length := by rw [List.size_toArray, el]
  have pos : 0 < xs.length := List.length_pos_iff.mpr hne
  have em : its.toArray.isEmpty = false := by
    rw [Array.isEmpty_eq_false_iff_exists_mem]
    obtain ⟨a0, ha0⟩ := List.exists_mem_of_length_pos (l := its) (by omega)
    exact ⟨a0, by simpa using ha0⟩
  have big : k.toNat * xs.length ≤ 3000 * 1000 := Nat.mul_le_mul (by omega) hz
  have prod : ((its.toArray.size : Nat) : Int) * k = ((k.toNat * xs.length : Nat) : Int) := by
    rw [es, Int.natCast_mul, Int.toNat_of_nonneg (by omega), Int.mul_comm]
  have fl : (List.replicate k.toNat its).flatten.length = k.toNat * xs.length := by rw [PyProof.Rows.lm_len_rep_flat, el]
  have sl := sizeLine_eq
  have d0 : (decide (k < -(2 ^ 63)) || decide (k ≥ 2 ^ 63)) = false := by simp; omega
  refine wpAny_binaryOp_repeat_ref (T := "tuple") (U := "int") (by decide) ⟨_, hob, rfl⟩ (fun z => typeIs_int z k tt) noFill_tuple_mul F.fills_int_mul F.slot_int_rmul repeat_tuple F.slot_int_index.lookup (call_meets F.slot_int_rmul (typeIs_int s k tt) F.entry_int_rmul (F.args_int_rmul_2 _ _)
    (int_rmul_tuple k tt l its.toArray n di ss) ⟨hob, rfl, ⟨_, hob, rfl⟩, ?_⟩)
  have made : ∀ (xs2 : List V) (us : List Value), Vals xs2 us → xs2.length ≤ 3000000 → (∀ p, H p = none → Q (.ref p) (upd H p (.tup xs2))) → EP X pins σ Q (.ref s.heap.objs.size) { s with heap := s.heap.push { cls := Value.type "tuple", data := Data.seq us.toArray }, toks := s.toks } := fun xs2 us rv hlen q2 =>
    ⟨.ref s.heap.objs.size, _, I.laid (t' := s.toks) (o := .tup xs2) (fun _ _ z => Heap.get?_push_of_some _ z) (Nat.le_refl _) ⟨by omega, _, rv, IsTup.new _ _⟩, rfl, q2 _ (I.hok.fresh (Nat.le_refl _))⟩
  by_cases h1 : k = 1
  · subst h1
    exact call_meets F.slot_tuple_mul ⟨_, hob, rfl⟩ F.entry_tuple_mul (F.args_tuple_mul_2 _ _) (mul_one_meets l its.toArray n di ss tt) ⟨hob, .ref l, H, I, rfl, q1 rfl⟩
  · by_cases h2 : k = 0
    · subst h2
      exact call_meets F.slot_tuple_mul ⟨_, hob, rfl⟩ F.entry_tuple_mul (F.args_tuple_mul_2 _ _) (mul_zero_meets l its.toArray n di ss tt em) ⟨hob, made [] [] .nil (by simp) (q h1)⟩
    · have d1 : (its.toArray.isEmpty || k == 1) = false := by rw [em]; simp; omega
      have d2 : (decide (k ≤ 0) || its.toArray.isEmpty) = false := by rw [em]; simp; omega
      have d4 : Builtin.Tuple.tupleTooMany (((its.toArray.size : Nat) : Int) * k) = false := by
        rw [prod]
        unfold Builtin.Tuple.tupleTooMany
        exact decide_eq_false (by omega)
      have tm : Meets _ _ := tuple_mulW l its.toArray n di ss k tt d0 d1 d2 (by rw [prod]; omega) d4 (by rw [size_rep, List.size_toArray, fl]; omega)
      refine call_meets F.slot_tuple_mul ⟨_, hob, rfl⟩ F.entry_tuple_mul (F.args_tuple_mul_2 _ _) tm ⟨hob, ?_⟩
      rw [size_rep]
      exact made _ _ (r.rep k.toNat) (by rw [PyProof.Rows.lm_len_rep_flat]; omega) (q h1)
theorem w_repB {K : PySem.W.Frag} {H : Hp} {Q : VK} {l : Addr} {k : Int} {xs : List V} (h : SqT K H l xs) (hne : xs ≠ []) (h2 : 0 ≤ k) (h3 : k ≤ 3000) (hz : xs.length ≤ 1000) (q : ∀ p H', Ex H H' → SqT K H' p (List.replicate k.toNat xs).flatten → Q (.ref p) H') : rRepB K (.ref l) (.int k) H Q := by
  refine ⟨l, k, xs, rfl, rfl, h, hne, h2, h3, hz, fun e => q l H (Ex.refl H) ?_, fun _ p hp => q p _ (Ex.new hp) (SqT.of upd_same)⟩
  subst e
  simpa using h
section
variable {X : Cx} {K : PySem.W.Frag}
theorem ix_tupK (e : X.K = K) : IxR X (rIxT K) := by
  rw [← e]
  exact ix_tup
end
def Kp (H H' : Hp) : Prop := (∀ a xs, H a = some (.lst xs) → ∃ ys, H' a = some (.lst ys)) ∧ ∀ a xs, H a = some (.tup xs) → H' a = some (.tup xs)
section
variable {K : PySem.W.Frag} {H H' H1 : Hp} {a s l : Addr} {xs ys : List V}
theorem Kp.refl (H : Hp) : Kp H H := ⟨fun _ xs h => ⟨xs, h⟩, fun _ _ h => h⟩
theorem Kp.trans (e : Kp H H1) (f : Kp H1 H') : Kp H H' := ⟨fun a xs h => by
  obtain ⟨ys, h1⟩ := e.1 a xs h
  exact f.1 a ys h1, fun a xs h => f.2 a xs (e.2 a xs h)⟩
theorem Kp.ex (e : Ex H H') : Kp H H' := ⟨fun a xs h => ⟨xs, e a _ h⟩, fun a xs h => e a _ h⟩
theorem Kp.fr (e : Fr s H H') (h : H s = some (.lst xs)) (h2 : H' s = some (.lst ys)) : Kp H H' := ⟨fun a zs q => by
  by_cases z : a = s
  · rw [z]
    exact ⟨_, h2⟩
  · exact ⟨_, e a _ z q⟩, fun a zs q => e a _ (fun z => by rw [z, h] at q; cases q) q⟩
theorem Kp.put (h : H l = some (.lst xs)) : Kp H (upd H l (.lst ys)) := ⟨fun a zs q => by
  by_cases z : a = l
  · rw [z]
    exact ⟨_, upd_same⟩
  · exact ⟨zs, by rw [upd_ne z]; exact q⟩, fun a zs q => by
  rw [upd_ne (fun z => by rw [z, h] at q; cases q)]
  exact q⟩
/-- the values of the law that asks is_term -/
inductive Kd (H : Hp) : V → Prop
  | int (i : Int) : Kd H (.int i)
  | str (x : Str) : Kd H (.str x)
  | bl (b : Bool) : Kd H (.bl b)
  | non : Kd H .non
  | lst {a : Addr} {xs : List V} (h : H a = some (.lst xs)) : Kd H (.ref a)
  | tup {a : Addr} {xs : List V} (h : H a = some (.tup xs)) : Kd H (.ref a)
theorem Kd.mono {v : V} (h : Kd H v) (e : Kp H H') : Kd H' v := by
  cases h with
  | int i => exact .int i
  | str x => exact .str x
  | bl b => exact .bl b
  | non => exact .non
  | lst h =>
    obtain ⟨ys, h⟩ := e.1 _ _ h
    exact .lst h
  | tup h => exact .tup (e.2 _ _ h)
end
theorem Kd.ty {H : Hp} {v : V} (h : Kd H v) (K : PySem.W.Frag) : ∃ n, TyX K H v (.type n) ∧ n = (match v with | .int _ => "int" | .str _ => "str" | .bl _ => "bool" | .non => "NoneType" | _ => n) := by
  cases h with
  | int i => exact ⟨_, .base (.int i), rfl⟩
  | str i => exact ⟨_, .base (.str i), rfl⟩
  | bl i => exact ⟨_, .base (.bl i), rfl⟩
  | non => exact ⟨_, .base .non, rfl⟩
  | lst h => exact ⟨_, .base (.lst h), rfl⟩
  | tup h => exact ⟨_, .base (.tup h), rfl⟩
theorem all_cons {H : Hp} {v : V} {xs : List V} (h : Kd H v) (t : ∀ x ∈ xs, Kd H x) : ∀ x ∈ v :: xs, Kd H x := fun x hx => by
  rcases List.mem_cons.mp hx with e | e
  · rw [e]
    exact h
  · exact t x e
section
variable {K : PySem.W.Frag}
theorem kit_int_int : PySem.W.kitOne K (.type "int") (.type "int") = some true := kit_ty (by decide +kernel)
theorem kit_int_str : PySem.W.kitOne K (.type "int") (.type "str") = some false := kit_ty (by decide +kernel)
theorem kit_int_bool : PySem.W.kitOne K (.type "int") (.type "bool") = some false := kit_ty (by decide +kernel)
theorem kit_int_tuple : PySem.W.kitOne K (.type "int") (.type "tuple") = some false := kit_ty (by decide +kernel)
theorem kit_int_list : PySem.W.kitOne K (.type "int") (.type "list") = some false := kit_ty (by decide +kernel)
theorem kit_str_int : PySem.W.kitOne K (.type "str") (.type "int") = some false := kit_ty (by decide +kernel)
theorem kit_str_str : PySem.W.kitOne K (.type "str") (.type "str") = some true := kit_ty (by decide +kernel)
theorem kit_str_bool : PySem.W.kitOne K (.type "str") (.type "bool") = some false := kit_ty (by decide +kernel)
theorem kit_str_tuple : PySem.W.kitOne K (.type "str") (.type "tuple") = some false := kit_ty (by decide +kernel)
theorem kit_str_list : PySem.W.kitOne K (.type "str") (.type "list") = some false := kit_ty (by decide +kernel)
theorem kit_bool_int : PySem.W.kitOne K (.type "bool") (.type "int") = some true := kit_ty (by decide +kernel)
theorem kit_bool_str : PySem.W.kitOne K (.type "bool") (.type "str") = some false := kit_ty (by decide +kernel)
theorem kit_bool_bool : PySem.W.kitOne K (.type "bool") (.type "bool") = some true := kit_ty (by decide +kernel)
theorem kit_bool_tuple : PySem.W.kitOne K (.type "bool") (.type "tuple") = some false := kit_ty (by decide +kernel)
theorem kit_bool_list : PySem.W.kitOne K (.type "bool") (.type "list") = some false := kit_ty (by decide +kernel)
theorem kit_NoneType_int : PySem.W.kitOne K (.type "NoneType") (.type "int") = some false := kit_ty (by decide +kernel)
theorem kit_NoneType_str : PySem.W.kitOne K (.type "NoneType") (.type "str") = some false := kit_ty (by decide +kernel)
theorem kit_NoneType_bool : PySem.W.kitOne K (.type "NoneType") (.type "bool") = some false := kit_ty (by decide +kernel)
theorem kit_NoneType_tuple : PySem.W.kitOne K (.type "NoneType") (.type "tuple") = some false := kit_ty (by decide +kernel)
theorem kit_NoneType_list : PySem.W.kitOne K (.type "NoneType") (.type "list") = some false := kit_ty (by decide +kernel)
theorem kit_list_int : PySem.W.kitOne K (.type "list") (.type "int") = some false := kit_ty (by decide +kernel)
theorem kit_list_str : PySem.W.kitOne K (.type "list") (.type "str") = some false := kit_ty (by decide +kernel)
theorem kit_list_bool : PySem.W.kitOne K (.type "list") (.type "bool") = some false := kit_ty (by decide +kernel)
theorem kit_list_tuple : PySem.W.kitOne K (.type "list") (.type "tuple") = some false := kit_ty (by decide +kernel)
theorem kit_list_list : PySem.W.kitOne K (.type "list") (.type "list") = some true := kit_ty (by decide +kernel)
theorem kit_tuple_int : PySem.W.kitOne K (.type "tuple") (.type "int") = some false := kit_ty (by decide +kernel)
theorem kit_tuple_str : PySem.W.kitOne K (.type "tuple") (.type "str") = some false := kit_ty (by decide +kernel)
theorem kit_tuple_bool : PySem.W.kitOne K (.type "tuple") (.type "bool") = some false := kit_ty (by decide +kernel)
theorem kit_tuple_tuple : PySem.W.kitOne K (.type "tuple") (.type "tuple") = some true := kit_ty (by decide +kernel)
theorem kit_tuple_list : PySem.W.kitOne K (.type "tuple") (.type "list") = some false := kit_ty (by decide +kernel)
end
/-- a def that may be called by its name -/
def Def (P : Program) (w : World) (K : PySem.W.Frag) (mg : Str → Option Value) (base : Heap) (CX : CXT) (k : Nat) (x : Str) (ps : List Str) (sp : Sp) : Prop :=
  ∃ (f : Addr) (fd : FuncData), mg x = some (.ref f) ∧ PySem.W.keepIn K (.ref f) = true ∧ Binds K fd ps [] ∧ FnOk P w K mg base CX k f fd ps sp
theorem Def.of {P : Program} {w : World} {K : PySem.W.Frag} {mg : Str → Option Value} {base : Heap} {CX : CXT} {k : Nat} {x : Str} {ps : List Str} {sp : Sp} {f : Addr} {fd : FuncData} (g : mg x = some (.ref f)) (kp : PySem.W.keepIn K (.ref f) = true) (b : Binds K fd ps []) (G : FnOk P w K mg base CX k f fd ps sp) : Def P w K mg base CX k x ps sp := ⟨f, fd, g, kp, b, G⟩
theorem drop_at {α : Type} {xs : List α} {i : Nat} {x : α} (h : xs[i]? = some x) : xs.drop i = x :: xs.drop (i + 1) := by
  obtain ⟨h1, rfl⟩ := List.getElem?_eq_some_iff.mp h
  exact List.drop_eq_getElem_cons h1
inductive Tm where
  | var (n : Nat)
  | lam (b : Tm)
  | app (f a : Tm)
def Tm.enc : Tm → List V
  | .var n => [.int n]
  | .lam b => .str "lam" :: b.enc
  | .app f a => .str "app" :: (f.enc ++ a.enc)
/-- its free variables are below d -/
def Tm.wf : Nat → Tm → Prop
  | d, .var n => n < d
  | d, .lam b => b.wf (d + 1)
  | d, .app f a => f.wf d ∧ a.wf d
def encs (ts : List Tm) : List V := (ts.map Tm.enc).flatten
/-- whatever terms stand for what waits (the last one first), the whole is a term -/
def Comp (loose : Nat) (nodes : List V) (wait : List Nat) : Prop := ∀ ts : List Tm, ts.length = wait.length → (∀ p ∈ ts.zip wait.reverse, p.1.wf (p.2 + loose)) → ∃ t : Tm, t.wf loose ∧ t.enc = nodes ++ encs ts
theorem Comp.start (loose : Nat) : Comp loose [] [0] := fun ts hl hw => by
  match ts, hl with
  | [t], _ =>
    refine ⟨t, ?_, by simp [encs]⟩
    have := hw (t, 0) (by simp)
    simpa using this
theorem Comp.done {loose : Nat} {nodes : List V} (h : Comp loose nodes []) : ∃ t : Tm, t.wf loose ∧ t.enc = nodes := by
  obtain ⟨t, h1, h2⟩ := h [] rfl (by simp)
  exact ⟨t, h1, by rw [h2]; simp [encs]⟩
theorem Comp.var {loose : Nat} {nodes : List V} {wait : List Nat} {d n : Nat} (h : Comp loose nodes (wait ++ [d])) (hn : n < d + loose) : Comp loose (nodes ++ [.int n]) wait := fun ts hl hw => by
  obtain ⟨t, h1, h2⟩ := h (.var n :: ts) (by simp [hl]) (fun p hp => by
    rw [List.reverse_append] at hp
    rcases List.mem_cons.mp hp with e | e
    · subst e
      exact hn
    · exact hw p e)
  exact ⟨t, h1, by rw [h2]; simp [encs, Tm.enc]⟩
theorem Comp.lam {loose : Nat} {nodes : List V} {wait : List Nat} {d : Nat} (h : Comp loose nodes (wait ++ [d])) : Comp loose (nodes ++ [.str "lam"]) (wait ++ [d + 1]) := fun ts hl hw => by
  match ts, hl with
  | [], hl => simp at hl
  | b :: r, hl =>
    rw [List.reverse_append] at hw
    obtain ⟨t, h1, h2⟩ := h (.lam b :: r) (by simpa using hl) (fun p hp => by
      rw [List.reverse_append] at hp
      rcases List.mem_cons.mp hp with e | e
      · subst e
        have := hw (b, d + 1) (by simp)
        show b.wf (d + loose + 1)
        have e2 : d + loose + 1 = d + 1 + loose := by omega
        rw [e2]
        exact this
      · exact hw p (List.mem_cons_of_mem _ e))
    exact ⟨t, h1, by rw [h2]; simp [encs, Tm.enc]⟩
theorem Comp.app {loose : Nat} {nodes : List V} {wait : List Nat} {d : Nat} (h : Comp loose nodes (wait ++ [d])) : Comp loose (nodes ++ [.str "app"]) (wait ++ [d] ++ [d]) := fun ts hl hw => by
  match ts, hl with
  | [], hl => simp at hl
  | [_], hl => simp at hl
  | f :: a :: r, hl =>
    rw [List.reverse_append, List.reverse_append] at hw
    obtain ⟨t, h1, h2⟩ := h (.app f a :: r) (by simpa using hl) (fun p hp => by
      rw [List.reverse_append] at hp
      rcases List.mem_cons.mp hp with e | e
      · subst e
        exact ⟨hw (f, d) (by simp), hw (a, d) (by simp)⟩
      · exact hw p (List.mem_cons_of_mem _ (List.mem_cons_of_mem _ e)))
    exact ⟨t, h1, by rw [h2]; simp [encs, Tm.enc]⟩
def Flat (xs : List V) : Prop := ∀ x ∈ xs, (∃ i, x = .int i) ∨ ∃ s, x = .str s
theorem Flat.app {xs ys : List V} (h : Flat xs) (t : Flat ys) : Flat (xs ++ ys) := fun x hx => by
  rcases List.mem_append.mp hx with e | e
  · exact h x e
  · exact t x e
theorem Flat.rep {xs : List V} (h : Flat xs) (n : Nat) : Flat (List.replicate n xs).flatten := fun x hx => by
  obtain ⟨l, h1, h2⟩ := List.mem_flatten.mp hx
  rw [(List.mem_replicate.mp h1).2] at h2
  exact h x h2
theorem Flat.one (x : V) (h : (∃ i, x = .int i) ∨ ∃ s, x = .str s) : Flat [x] := fun y hy => by
  rw [List.mem_singleton.mp hy]
  exact h
theorem Flat.two (x z : V) (h : (∃ i, x = .int i) ∨ ∃ s, x = .str s) (h2 : (∃ i, z = .int i) ∨ ∃ s, z = .str s) : Flat [x, z] := fun y hy => by
  rcases List.mem_cons.mp hy with e | e
  · rw [e]
    exact h
  · rw [List.mem_singleton.mp e]
    exact h2
theorem Flat.cons {x : V} {xs : List V} (h : (∃ i, x = .int i) ∨ ∃ s, x = .str s) (t : Flat xs) : Flat (x :: xs) := fun y hy => by
  rcases List.mem_cons.mp hy with e | e
  · rw [e]
    exact h
  · exact t y e
theorem Flat.nil : Flat [] := fun x h => absurd h (by simp)
theorem Tm.flat : ∀ t : Tm, Flat t.enc
  | .var n => Flat.one _ (.inl ⟨_, rfl⟩)
  | .lam b => Flat.cons (.inr ⟨_, rfl⟩) b.flat
  | .app f a => Flat.cons (.inr ⟨_, rfl⟩) (f.flat.app a.flat)
/-- no variable too great -/
def okV : V → Bool
  | .int i => decide (i ≤ 1000000)
  | _ => true
def fitsV (xs : List V) : Bool := decide (xs.length ≤ 1000) && xs.all okV
def Nds (xs : List V) : Prop := ∀ x ∈ xs, (∃ i, x = .int i) ∨ x = .str "lam" ∨ x = .str "app"
theorem Nds.flat {xs : List V} (h : Nds xs) : Flat xs := fun x hx => by
  rcases h x hx with e | e | e
  · exact .inl e
  · exact .inr ⟨_, e⟩
  · exact .inr ⟨_, e⟩
theorem Nds.nil : Nds [] := fun x h => absurd h (by simp)
theorem Nds.app {xs ys : List V} (h : Nds xs) (t : Nds ys) : Nds (xs ++ ys) := fun x hx => by
  rcases List.mem_append.mp hx with e | e
  · exact h x e
  · exact t x e
theorem Nds.cons {x : V} {xs : List V} (h : (∃ i, x = .int i) ∨ x = .str "lam" ∨ x = .str "app") (t : Nds xs) : Nds (x :: xs) := fun y hy => by
  rcases List.mem_cons.mp hy with e | e
  · rw [e]
    exact h
  · exact t y e
theorem Nds.rep {xs : List V} (h : Nds xs) (n : Nat) : Nds (List.replicate n xs).flatten := fun x hx => by
  obtain ⟨l, h1, h2⟩ := List.mem_flatten.mp hx
  rw [(List.mem_replicate.mp h1).2] at h2
  exact h x h2
theorem Nds.tail {x : V} {xs : List V} (h : Nds (x :: xs)) : Nds xs := fun y hy => h y (List.mem_cons_of_mem _ hy)
theorem Nds.take {xs : List V} (h : Nds xs) (n : Nat) : Nds (xs.take n) := fun x hx => h x (List.mem_of_mem_take hx)
theorem Nds.drop {xs : List V} (h : Nds xs) (n : Nat) : Nds (xs.drop n) := fun x hx => h x (List.mem_of_mem_drop hx)
theorem Nds.I (i : Int) : (∃ j, V.int i = .int j) ∨ V.int i = .str "lam" ∨ V.int i = .str "app" := .inl ⟨i, rfl⟩
theorem Nds.L : (∃ j, V.str "lam" = .int j) ∨ V.str "lam" = .str "lam" ∨ V.str "lam" = .str "app" := .inr (.inl rfl)
theorem Nds.A : (∃ j, V.str "app" = .int j) ∨ V.str "app" = .str "lam" ∨ V.str "app" = .str "app" := .inr (.inr rfl)
theorem Tm.nds : ∀ t : Tm, Nds t.enc
  | .var n => Nds.cons (Nds.I _) Nds.nil
  | .lam b => Nds.cons Nds.L b.nds
  | .app f a => Nds.cons Nds.A (f.nds.app a.nds)
def dv : V → PyData
  | .int i => .int i
  | .str x => .str x
  | _ => .none
theorem eqv_nodes : ∀ {xs ys : List V}, Nds xs → Nds ys → PyData.eqvAll (xs.map dv) (ys.map dv) = decide (xs = ys)
  | [], [], _, _ => by simp [PyData.eqvAll]
  | [], _ :: _, _, _ => by simp [PyData.eqvAll]
  | _ :: _, [], _, _ => by simp [PyData.eqvAll]
  | x :: xs, y :: ys, h, k => by
    have ih := eqv_nodes h.tail k.tail
    have hxy : PyData.eqv (dv x) (dv y) = decide (x = y) := by
      rcases h x List.mem_cons_self with ⟨i, rfl⟩ | rfl | rfl <;> rcases k y List.mem_cons_self with ⟨j, rfl⟩ | rfl | rfl <;> simp [dv, PyData.eqv] <;> first | (rw [Bool.eq_iff_iff]; simp) | decide +kernel
    rw [List.map_cons, List.map_cons, PyData.eqvAll, ih, hxy]
    simp
theorem lay_nodes : ∀ {xs : List V}, Nds xs → PyData.canLayAll0 (xs.map dv) = true
  | [], _ => rfl
  | x :: xs, h => by
    have ih := lay_nodes h.tail
    have hx : (dv x).canLay0 = true := by
      rcases h x List.mem_cons_self with ⟨i, rfl⟩ | rfl | rfl
      · rfl
      · decide +kernel
      · decide +kernel
    rw [List.map_cons, PyData.canLayAll0, hx, ih]
    rfl
theorem dp_nodes {K : PySem.W.Frag} {H : Hp} : ∀ {xs : List V}, Nds xs → DpAll K H xs (xs.map dv)
  | [], _ => .nil
  | x :: xs, h => by
    refine .cons ?_ (dp_nodes h.tail)
    rcases h x List.mem_cons_self with ⟨i, rfl⟩ | rfl | rfl
    · exact .int i
    · exact .str _
    · exact .str _
theorem depth_atom (x : V) : (dv x).depth ≤ 1 := by
  cases x <;> simp [dv, PyData.depth]
theorem depth_all : ∀ xs : List V, PyData.depthAll (xs.map dv) ≤ 1
  | [] => by simp [PyData.depthAll]
  | x :: xs => by
    have h1 := depth_atom x
    have h2 := depth_all xs
    simp only [List.map_cons, PyData.depthAll]
    omega
theorem depth_nodes {xs : List V} : (PyData.tuple (xs.map dv)).depth ≤ 2 := by
  have h := depth_all xs
  simp only [PyData.depth]
  omega
theorem shaped_nodes {xs : List V} (h : Nds xs) : SeqAt.shaped (.tuple (xs.map dv)) = true := by
  have h1 : (PyData.tuple (xs.map dv)).canLay0 = true := lay_nodes h
  have h2 := depth_nodes (xs := xs)
  unfold SeqAt.shaped
  rw [h1, Bool.true_and]
  exact decide_eq_true (by omega)
section
variable {K : PySem.W.Frag} {H : Hp} {Q : VK} {a b : Addr} {xs ys : List V}
theorem w_eqN (h : SqT K H a xs) (k : SqT K H b ys) (n : Nds xs) (m : Nds ys) (q : Q (.bl (decide (xs = ys))) H) : rEqD K (.ref a) (.ref b) H Q :=
  ⟨_, _, .tup h (dp_nodes n), .tup k (dp_nodes m), shaped_nodes n, shaped_nodes m, by rw [PyData.eqv, eqv_nodes n m]; exact q⟩
theorem w_neN (h : SqT K H a xs) (k : SqT K H b ys) (n : Nds xs) (m : Nds ys) (q : Q (.bl (!decide (xs = ys))) H) : rNeD K (.ref a) (.ref b) H Q :=
  ⟨_, _, .tup h (dp_nodes n), .tup k (dp_nodes m), shaped_nodes n, shaped_nodes m, by rw [PyData.eqv, eqv_nodes n m]; exact q⟩
theorem w_neNon (k : SqT K H b ys) (m : Nds ys) (q : Q (.bl true) H) : rNeD K .non (.ref b) H Q :=
  ⟨_, _, .non, .tup k (dp_nodes m), by decide, shaped_nodes m, q⟩
theorem w_eqNon (k : SqT K H b ys) (m : Nds ys) (q : Q (.bl false) H) : rEqD K .non (.ref b) H Q :=
  ⟨_, _, .non, .tup k (dp_nodes m), by decide, shaped_nodes m, q⟩
end
theorem ly_lt {n : Nat} (h : n < 15000000) : n < sizeLine := by
  rw [sizeLine_eq]
  omega
theorem ly_sz {n : Nat} (h : n ≤ 16000000) : n ≤ sizeLine := by
  rw [sizeLine_eq]
  omega
def Tm.lamN : Nat → Tm → Tm
  | 0, t => t
  | n + 1, t => .lam (Tm.lamN n t)
theorem Tm.enc_lamN (n : Nat) (t : Tm) : (Tm.lamN n t).enc = (List.replicate n [V.str "lam"]).flatten ++ t.enc := by
  induction n with
  | zero => rfl
  | succ n ih =>
    show V.str "lam" :: (Tm.lamN n t).enc = _
    rw [ih, List.replicate_succ]
    rfl
/-- the greatest variable is at most M -/
def Tm.vars (M : Nat) : Tm → Prop
  | .var n => n ≤ M
  | .lam b => b.vars M
  | .app f a => f.vars M ∧ a.vars M
theorem Tm.vars_mono {M N : Nat} (hm : M ≤ N) : ∀ {t : Tm}, t.vars M → t.vars N
  | .var n, h => Nat.le_trans h hm
  | .lam b, h => Tm.vars_mono hm (t := b) h
  | .app f a, h => ⟨Tm.vars_mono hm (t := f) h.1, Tm.vars_mono hm (t := a) h.2⟩
theorem Tm.vars_wf : ∀ {t : Tm} {d : Nat}, t.wf d → t.vars (d + t.enc.length)
  | .var n, d, h => by
    show n ≤ d + 1
    have : n < d := h
    omega
  | .lam b, d, h => by
    have := Tm.vars_wf (t := b) (d := d + 1) h
    exact Tm.vars_mono (by simp [Tm.enc]; omega) this
  | .app f a, d, h => by
    have h1 := Tm.vars_wf (t := f) h.1
    have h2 := Tm.vars_wf (t := a) h.2
    exact ⟨Tm.vars_mono (by simp [Tm.enc]; omega) h1, Tm.vars_mono (by simp [Tm.enc]; omega) h2⟩
theorem ok_vars : ∀ {t : Tm}, t.vars 1000000 → t.enc.all okV = true
  | .var n, h => by
    have h : n ≤ 1000000 := h
    simp [Tm.enc, okV]
    omega
  | .lam b, h => by
    have := ok_vars (t := b) h
    simp only [Tm.enc, List.all_cons, this]
    rfl
  | .app f a, h => by
    have h1 := ok_vars (t := f) h.1
    have h2 := ok_vars (t := a) h.2
    simp only [Tm.enc, List.all_cons, List.all_append, h1, h2]
    rfl
def Tm.deps : Nat → Tm → List Nat
  | d, .var _ => [d]
  | d, .lam b => d :: b.deps (d + 1)
  | d, .app f a => d :: (f.deps d ++ a.deps d)
theorem Tm.deps_len : ∀ (t : Tm) (d : Nat), (t.deps d).length = t.enc.length
  | .var _, _ => rfl
  | .lam b, d => by simp [Tm.deps, Tm.enc, Tm.deps_len b]
  | .app f a, d => by simp [Tm.deps, Tm.enc, Tm.deps_len f, Tm.deps_len a]
theorem Tm.enc_ne : ∀ t : Tm, t.enc ≠ []
  | .var _ => by simp [Tm.enc]
  | .lam _ => by simp [Tm.enc]
  | .app _ _ => by simp [Tm.enc]
def depss : List Tm → List Nat → List Nat
  | t :: ts, d :: ds => t.deps d ++ depss ts ds
  | _, _ => []
theorem encs_cons (t : Tm) (ts : List Tm) : encs (t :: ts) = t.enc ++ encs ts := by simp [encs]
theorem encs_nil {ts : List Tm} (h : encs ts = []) : ts = [] := by
  cases ts with
  | nil => rfl
  | cons t r =>
    rw [encs_cons] at h
    exact absurd (List.append_eq_nil_iff.mp h).1 t.enc_ne
/-- in the midst of a walk over a term's nodes: what is left are the terms ts, whose depths wait (the last one first) -/
def DInv (t : Tm) (i : Nat) (found ds : List Nat) : Prop := ∃ ts : List Tm, t.enc.drop i = encs ts ∧ ts.length = ds.length ∧ t.deps 0 = found ++ depss ts ds.reverse
theorem DInv.start (t : Tm) : DInv t 0 [] [0] := ⟨[t], by simp [encs], rfl, by simp [depss]⟩
theorem DInv.done {t : Tm} {found ds : List Nat} (h : DInv t t.enc.length found ds) : found = t.deps 0 := by
  obtain ⟨ts, h1, h2, h3⟩ := h
  rw [List.drop_length] at h1
  have e := encs_nil h1.symm
  subst e
  rw [h3]
  simp [depss]
theorem DInv.step {t : Tm} {i : Nat} {found ds : List Nat} {v : V} (h : DInv t i found ds) (hv : t.enc[i]? = some v) : ∃ r d, ds = r ++ [d] ∧
    ((∃ n : Nat, v = .int n ∧ DInv t (i + 1) (found ++ [d]) r) ∨ (v = .str "lam" ∧ DInv t (i + 1) (found ++ [d]) (r ++ [d + 1])) ∨ (v = .str "app" ∧ DInv t (i + 1) (found ++ [d]) (r ++ [d] ++ [d]))) := by
  obtain ⟨ts, h1, h2, h3⟩ := h
  rw [drop_at hv] at h1
  match ts, h1, h2, h3 with
  | [], h1, _, _ => cases h1
  | t1 :: r1, h1, h2, h3 =>
    have hne : ds ≠ [] := fun e => by
      rw [e] at h2
      cases h2
    refine ⟨ds.dropLast, ds.getLast hne, (List.dropLast_concat_getLast hne).symm, ?_⟩
    generalize hr : ds.dropLast = r at *
    generalize hd : ds.getLast hne = d at *
    have hds : ds = r ++ [d] := by rw [← hr, ← hd]; exact (List.dropLast_concat_getLast hne).symm
    subst hds
    rw [List.reverse_append] at h3
    have h3 : t.deps 0 = found ++ (t1.deps d ++ depss r1 r.reverse) := h3
    have hl : r1.length = r.length := by simpa using h2
    rw [encs_cons] at h1
    cases t1 with
    | var n =>
      have h1 : v :: t.enc.drop (i + 1) = V.int n :: encs r1 := h1
      injection h1 with e1 e2
      exact .inl ⟨n, e1, r1, e2, hl, by rw [h3]; simp [Tm.deps]⟩
    | lam b =>
      have h1 : v :: t.enc.drop (i + 1) = V.str "lam" :: (b.enc ++ encs r1) := h1
      injection h1 with e1 e2
      exact .inr (.inl ⟨e1, b :: r1, by rw [e2, encs_cons], by simp [hl], by rw [h3, List.reverse_append]; simp [Tm.deps, depss]⟩)
    | app f a =>
      have h1 : v :: t.enc.drop (i + 1) = V.str "app" :: (f.enc ++ a.enc ++ encs r1) := h1
      injection h1 with e1 e2
      exact .inr (.inr ⟨e1, f :: a :: r1, by rw [e2, encs_cons, encs_cons, List.append_assoc], by simp [hl], by rw [h3, List.reverse_append, List.reverse_append]; simp [Tm.deps, depss]⟩)
def Tm.vmap (g : Nat → Nat → Nat) : Nat → Tm → Tm
  | d, .var n => .var (g d n)
  | d, .lam b => .lam (b.vmap g (d + 1))
  | d, .app f a => .app (f.vmap g d) (a.vmap g d)
def vm (g : Nat → Nat → Nat) (v : V) (d : Nat) : V := match v with
  | .int n => .int (g d n.toNat)
  | v => v
theorem Tm.deps_vmap (g : Nat → Nat → Nat) : ∀ (t : Tm) (d : Nat), (t.vmap g d).deps d = t.deps d
  | .var _, _ => rfl
  | .lam b, d => by simp [Tm.vmap, Tm.deps, Tm.deps_vmap g b]
  | .app f a, d => by simp [Tm.vmap, Tm.deps, Tm.deps_vmap g f, Tm.deps_vmap g a]
theorem Tm.enc_vmap (g : Nat → Nat → Nat) : ∀ (t : Tm) (d : Nat), (t.vmap g d).enc = List.zipWith (vm g) t.enc (t.deps d)
  | .var _, _ => rfl
  | .lam b, d => by simp [Tm.vmap, Tm.deps, Tm.enc, Tm.enc_vmap g b, vm]
  | .app f a, d => by
    have hl : f.enc.length = (f.deps d).length := (Tm.deps_len f d).symm
    simp only [Tm.vmap, Tm.deps, Tm.enc, List.zipWith_cons_cons, Tm.enc_vmap g f, Tm.enc_vmap g a, List.zipWith_append hl]
    rfl
theorem zip_take {α β γ : Type} {f : α → β → γ} {xs : List α} {ys : List β} {i : Nat} {x : α} {y : β} (hx : xs[i]? = some x) (hy : ys[i]? = some y) : (List.zipWith f xs ys).take (i + 1) = (List.zipWith f xs ys).take i ++ [f x y] := by
  rw [List.take_add_one, List.getElem?_zipWith, hx, hy]
  rfl
theorem Tm.int_nat : ∀ {t : Tm} {v : V}, v ∈ t.enc → (∃ n : Nat, v = .int n) ∨ v = .str "lam" ∨ v = .str "app"
  | .var n, v, h => .inl ⟨n, by simpa [Tm.enc] using h⟩
  | .lam b, v, h => by
    rcases List.mem_cons.mp h with e | e
    · exact .inr (.inl e)
    · exact Tm.int_nat (t := b) e
  | .app f a, v, h => by
    rcases List.mem_cons.mp h with e | e
    · exact .inr (.inr e)
    · rcases List.mem_append.mp e with e | e
      · exact Tm.int_nat (t := f) e
      · exact Tm.int_nat (t := a) e
section
variable {K : PySem.W.Frag} {H : Hp} {Q : VK} {a b : Addr} {xs ys : List V}
theorem shapedL_nodes {xs : List V} (h : Nds xs) : SeqAt.shaped (.list (xs.map dv)) = true := by
  have h1 : (PyData.list (xs.map dv)).canLay0 = true := lay_nodes h
  have h2 : (PyData.list (xs.map dv)).depth ≤ 2 := by
    have h := depth_all xs
    simp only [PyData.depth]
    omega
  unfold SeqAt.shaped
  rw [h1, Bool.true_and]
  exact decide_eq_true (by omega)
theorem w_eqL (h : SqL K H a xs) (k : SqL K H b ys) (n : Nds xs) (m : Nds ys) (q : Q (.bl (decide (xs = ys))) H) : rEqD K (.ref a) (.ref b) H Q :=
  ⟨_, _, .lst h (dp_nodes n), .lst k (dp_nodes m), shapedL_nodes n, shapedL_nodes m, by rw [PyData.eqv, eqv_nodes n m]; exact q⟩
theorem w_neL (h : SqL K H a xs) (k : SqL K H b ys) (n : Nds xs) (m : Nds ys) (q : Q (.bl (!decide (xs = ys))) H) : rNeD K (.ref a) (.ref b) H Q :=
  ⟨_, _, .lst h (dp_nodes n), .lst k (dp_nodes m), shapedL_nodes n, shapedL_nodes m, by rw [PyData.eqv, eqv_nodes n m]; exact q⟩
theorem Nds.ofInts (ns : List Int) : Nds (ns.map V.int) := fun x hx => by
  obtain ⟨i, _, e⟩ := List.mem_map.mp hx
  exact .inl ⟨i, e.symm⟩
theorem inV_ints (z : Int) : ∀ ms : List Int, inV (.int z) (ms.map V.int) = decide (z ∈ ms)
  | [] => by simp [inV]
  | m :: ms => by
    have ih := inV_ints z ms
    unfold inV at ih ⊢
    rw [List.map_cons, List.any_cons, ih]
    have e : eqV (.int m) (.int z) = (m == z) := rfl
    rw [e]
    by_cases h : m = z
    · subst h
      simp
    · have h2 : z ≠ m := fun e => h e.symm
      simp [h, h2]
theorem flat_ints : ∀ ms : List Int, (ms.map V.int).all flatV = true
  | [] => rfl
  | m :: ms => by
    rw [List.map_cons, List.all_cons, flat_ints ms]
    rfl
theorem w_nin {p : Addr} {ms : List Int} {z : Int} (h : SqL K H p (ms.map V.int)) (q : Q (.bl (!decide (z ∈ ms))) H) : rIn K true (.int z) (.ref p) H Q :=
  ⟨p, _, rfl, .inl h, rfl, flat_ints ms, by rw [inV_ints]; exact q⟩
theorem w_sorted {p : Addr} {ms : List Int} (h : SqL K H p (ms.map V.int)) (q : ∀ (ns : List Int) (l : Addr), ns.Perm ms → ns.Pairwise (· ≤ ·) → H l = none → Q (.ref l) (upd H l (.lst (ns.map V.int)))) : rSortedI K [.ref p] H Q := ⟨p, ms, rfl, h, q⟩
end
structure Stm where
  home : Addr
  cells : List Int
  cur : Int
  pos : Nat
  mix : Int
def Stm.take (m : Stm) : Stm := if m.cur = 0 ∧ m.pos < m.cells.length then { m with cur := (if m.cells.getD m.pos 0 < 0 then -(m.cells.getD m.pos 0) else m.cells.getD m.pos 0), pos := m.pos + 1 } else m
def Stm.turn (m : Stm) : Stm := { m with mix := (m.mix * 48271 + 11).fmod 2147483647 }
def Stm.next (m : Stm) (n : Int) : Stm := if m.take.cur = 0 then m.take.turn else { m.take with cur := m.take.cur.fdiv n }
def Stm.val (m : Stm) (n : Int) : Int := if m.take.cur = 0 then (m.take.turn.mix.fdiv 97).fmod n else m.take.cur.fmod n
theorem fmod_lt {a n : Int} (h : 0 < n) : 0 ≤ a.fmod n ∧ a.fmod n < n := ⟨Int.fmod_nonneg_of_pos a h, Int.fmod_lt_of_pos a h⟩
theorem Stm.val_lt (m : Stm) {n : Int} (h : 0 < n) : 0 ≤ m.val n ∧ m.val n < n := by
  unfold Stm.val
  split
  · exact fmod_lt h
  · exact fmod_lt h
def mixOf (ns : List Int) : Int := ns.foldl (fun m c => (m * 48271 + c.fmod 65521 + 1).fmod 2147483647) 17
theorem mixOf_take {ns : List Int} {i : Nat} {z : Int} (h : ns[i]? = some z) : mixOf (ns.take (i + 1)) = (mixOf (ns.take i) * 48271 + z.fmod 65521 + 1).fmod 2147483647 := by
  rw [List.take_add_one, h]
  unfold mixOf
  rw [List.foldl_append]
  rfl
theorem get_int {ns : List Int} {i : Nat} {x : V} (h : (ns.map V.int)[i]? = some x) : ∃ z, ns[i]? = some z ∧ x = .int z := by
  rw [List.getElem?_map] at h
  cases e : ns[i]? with
  | none => rw [e] at h; cases h
  | some z => rw [e] at h; exact ⟨z, rfl, (Option.some.inj h).symm⟩
theorem at_map {ns : List Int} {j : Nat} (h : j < ns.length) : atI (ns.map V.int) (j : Int) = some (.int (ns.getD j 0)) := by
  refine atI_nat ?_
  rw [List.getElem?_map, List.getElem?_eq_getElem h, List.getD_eq_getElem?_getD, List.getElem?_eq_getElem h]
  rfl
theorem Stm.take_cells (m : Stm) : m.take.cells = m.cells := by
  unfold Stm.take
  split <;> rfl
theorem Stm.take_home (m : Stm) : m.take.home = m.home := by
  unfold Stm.take
  split <;> rfl
/-- the stream goes on: the same list of numbers at the same place -/
def Fol (m m' : Stm) : Prop := m'.home = m.home ∧ m'.cells = m.cells
theorem Fol.refl (m : Stm) : Fol m m := ⟨rfl, rfl⟩
theorem Fol.trans {m m1 m2 : Stm} (h : Fol m m1) (k : Fol m1 m2) : Fol m m2 := ⟨k.1.trans h.1, k.2.trans h.2⟩
theorem Fol.next (m : Stm) (n : Int) : Fol m (m.next n) := by
  unfold Stm.next
  split
  · exact ⟨m.take_home, m.take_cells⟩
  · exact ⟨m.take_home, m.take_cells⟩
theorem Fol.step {m m1 : Stm} (h : Fol m m1) (n : Int) : Fol m (m1.next n) := h.trans (Fol.next m1 n)
def StAt (H : Hp) (s : Addr) (m : Stm) : Prop := m.home ≠ s ∧ H s = some (.lst [.ref m.home, .int m.cur, .int m.pos, .int m.mix]) ∧ H m.home = some (.lst (m.cells.map V.int))
theorem StAt.ex {H H' : Hp} {s : Addr} {m : Stm} (h : StAt H s m) (e : Ex H H') : StAt H' s m := ⟨h.1, e _ _ h.2.1, e _ _ h.2.2⟩
theorem StAt.is {H : Hp} {s : Addr} {m : Stm} (h : StAt H s m) : ∃ ys, H s = some (.lst ys) := ⟨_, h.2.1⟩
theorem StAt.put {H : Hp} {s r : Addr} {m : Stm} {o : HO} (h : StAt H s m) (hs : r ≠ s) (hl : r ≠ m.home) : StAt (upd H r o) s m :=
  ⟨h.1, by rw [upd_ne hs.symm]; exact h.2.1, by rw [upd_ne hl.symm]; exact h.2.2⟩
theorem StAt.new {H : Hp} {s r : Addr} {m : Stm} {o : HO} (h : StAt H s m) (hr : H r = none) : StAt (upd H r o) s m := h.ex (Ex.new hr)
theorem StAt.ne {H : Hp} {s r : Addr} {m : Stm} (h : StAt H s m) (hr : H r = none) : r ≠ s ∧ r ≠ m.home := ⟨(ne_of_none h.2.1 hr).symm, (ne_of_none h.2.2 hr).symm⟩
theorem Kp.st {H H' : Hp} {s : Addr} {m m' : Stm} (e : Fr s H H') (h : StAt H s m) (h' : StAt H' s m') : Kp H H' := by
  obtain ⟨ys, h⟩ := h.is
  obtain ⟨zs, h'⟩ := h'.is
  exact Kp.fr e h h'
end Ly
set_option Elab.async false
set_option linter.all false
set_option maxRecDepth 100000
set_option maxHeartbeats 2000000
namespace Ly
open PySem PySem.Spec PyProof.Rows L2 Evl
def EntsAre : List DictEntry → List (Str × V) → Prop
  | [], [] => True
  | e :: r, (k, v) :: s => (∃ t, e.key = .str k t) ∧ RelV v e.val ∧ EntsAre r s
  | _, _ => False
/-- at d: a dict of the module with these pairs -/
def KD (K : PySem.W.Frag) (w : World) (d : Addr) (kvs : List (Str × V)) : Prop :=
  ∃ es n, K.lookup d = some ⟨.type "dict", none, .dict es n, #[]⟩ ∧ PySem.W.KeysLit w.params es.toList ∧ (d == sysModules) = false ∧ EntsAre es.toList kvs
theorem KD.mk {K : PySem.W.Frag} {w : World} {d : Addr} {kvs : List (Str × V)} {es : Array DictEntry} {n : Nat} (l : K.lookup d = some ⟨.type "dict", none, .dict es n, #[]⟩) (k : PySem.W.KeysLit w.params es.toList) (s : (d == sysModules) = false) (e : EntsAre es.toList kvs) : KD K w d kvs := ⟨es, n, l, k, s, e⟩
def getS (kvs : List (Str × V)) (y : V) : Option V := match y with
  | .str k => (kvs.find? fun kv => decide (kv.1 = k)).map (·.2)
  | _ => none
def OptR : Option V → Option Value → Prop
  | some v, some u => RelV v u
  | none, none => True
  | _, _ => False
theorem OptR.getD {o : Option V} {r : Option Value} (h : OptR o r) {z : V} {u : Value} (hz : RelV z u) : RelV (o.getD z) (r.getD u) := by
  cases o with
  | none =>
    cases r with
    | none => exact hz
    | some u => exact h.elim
  | some v =>
    cases r with
    | none => exact h.elim
    | some u => exact h
theorem OptR.isSome {o : Option V} {r : Option Value} (h : OptR o r) : r.isSome = o.isSome := by
  cases o with
  | none =>
    cases r with
    | none => rfl
    | some u => exact h.elim
  | some v =>
    cases r with
    | none => exact h.elim
    | some u => rfl
theorem ents_get (k : Key) : ∀ {es : List DictEntry} {kvs : List (Str × V)}, EntsAre es kvs → OptR (getS kvs (kV k)) ((es.find? fun e => keyIs k e.key).map (·.val))
  | [], [], _ => by cases k <;> exact True.intro
  | [], _ :: _, h => h.elim
  | _ :: _, [], h => h.elim
  | e :: r, (x, v) :: s, h => by
    obtain ⟨⟨t, ek⟩, hv, hr⟩ := h
    have ih := ents_get k hr
    cases k with
    | inl i =>
      have e0 : keyIs (.inl i) e.key = false := by rw [ek]; rfl
      rw [List.find?_cons, e0]
      exact ih
    | inr y =>
      have e0 : keyIs (.inr y) e.key = decide (x = y) := by
        rw [ek]
        show (x == y) = _
        by_cases c : x = y
        · rw [c]; simp
        · rw [decide_eq_false c]
          exact beq_eq_false_iff_ne.mpr c
      rw [List.find?_cons, e0]
      by_cases c : x = y
      · subst c
        rw [decide_eq_true rfl]
        show OptR (getS ((x, v) :: s) (.str x)) (some e.val)
        have : getS ((x, v) :: s) (.str x) = some v := by simp [getS]
        rw [this]
        exact hv
      · rw [decide_eq_false c]
        have : getS ((x, v) :: s) (kV (.inr y)) = getS s (kV (.inr y)) := by simp [getS, kV, c]
        rw [this]
        exact ih
theorem KD.mapOf {prog : Program} {w : World} {K : PySem.W.Frag} {h : Heap} {d : Addr} {kvs : List (Str × V)} (D : KD K w d kvs) (X : K.In h) :
    ∃ f, h.MapOf (mixKind prog w) d f ∧ ∀ k : Key, OptR (getS kvs (kV k)) (f k) := by
  obtain ⟨es, n, hl, hk, low, he⟩ := D
  refine ⟨fun k => findBy keyIs es k, ⟨_, es, n, X _ _ hl, ⟨rfl, rfl, rfl⟩, rfl, fun e he => ?_, fun _ => rfl⟩, fun k => ?_⟩
  · obtain ⟨x, t, e1, e2⟩ := hk.all e (Array.mem_toList_iff.mpr he)
    exact ⟨.inr x, by rw [e1]; exact mixKind_str prog w x t, e2⟩
  · have := ents_get k he
    show OptR (getS kvs (kV k)) (findBy keyIs es k)
    unfold findBy
    rw [← Array.find?_toList]
    exact this
theorem KD.low {K : PySem.W.Frag} {w : World} {d : Addr} {kvs : List (Str × V)} (D : KD K w d kvs) : (d == sysModules) = false := by
  obtain ⟨es, n, hl, hk, low, he⟩ := D
  exact low
/-- at a: a tuple of the module with these items -/
def KT (K : PySem.W.Frag) (a : Addr) (xs : List V) : Prop := ∃ (o : Obj) (its : Array Value) (n : Nat), K.lookup a = some o ∧ o.cls = .type "tuple" ∧ o.data = .seq its n ∧ its.size ≤ sizeLine ∧ Vals xs its.toList
theorem KT.mk {K : PySem.W.Frag} {a : Addr} {xs : List V} {o : Obj} {its : Array Value} {n : Nat} (l : K.lookup a = some o) (c : o.cls = .type "tuple") (d : o.data = .seq its n) (z : its.size ≤ sizeLine) (v : Vals xs its.toList) : KT K a xs := ⟨o, its, n, l, c, d, z, v⟩
theorem KT.sq {K : PySem.W.Frag} {a : Addr} {xs : List V} (h : KT K a xs) (H : Hp) : SqT K H a xs := .inr h
def tKGet2 (K : PySem.W.Frag) (w : World) (td ty tx : TE) : TE := fun σ H Q => td σ H fun x H1 => ∃ a kvs, x = .ref a ∧ KD K w a kvs ∧ ty σ H1 fun y H2 => tx σ H2 fun z H3 => (∃ k, y = kV k) ∧ Q ((getS kvs y).getD z) H3
section
variable {X : Cx} {o e f : Expr} {apos cpos : Pos} {td ty tx : TE}
theorem pe_kget2 (ho : PE X o td) (he : PE X e ty) (hf : PE X f tx) (m : M2 X o "get" apos e f cpos) : PE X (.Call (.Attribute o "get" apos) [e, f] [] cpos) (tKGet2 X.K X.w td ty tx) := by
  refine ⟨fun pins s σ H Q I h => ?_⟩
  refine wpAny_Call_method m.base m.few m.line PySem.F.plainAttrs_dict PySem.F.slot_dict_get PySem.F.type_dict_get (thn (ho.run pins s σ H _ I h) fun u s1 ⟨x, H1, I1, rx, a, kvs, ex, d, q1⟩ => ?_)
  subst ex
  obtain rfl : u = Value.ref a := rx
  obtain ⟨f0, hm0, _⟩ := d.mapOf (prog := X.prog) I1.kIn
  refine ⟨hm0.typeIs, hm0.noDict, ?_⟩
  rw [m.trees]
  refine Calls.callWith_builtin rfl (Calls.evalArgs_plain (Calls.spliced_cons (thn (he.run pins s1 σ H1 _ I1 q1) fun iv s2 ⟨y, H2, I2, ry, q2⟩ =>
    Calls.spliced_cons (thn (hf.run pins s2 σ H2 _ I2 q2) fun fv s3 ⟨z, H3, I3, rz, ⟨k, ek⟩, q3⟩ => Calls.spliced_nil ?_))))
  subst ek
  obtain ⟨f1, hm, hg⟩ := d.mapOf (prog := X.prog) I3.kIn
  exact call_meetsIn PySem.F.slot_dict_get hm.typeIs PySem.F.entry_dict_get (PySem.F.args_dict_get_3 _ _ _) (meets_dict_get_default (mixKind X.prog X.w) a (kV_is ry) d.low fv) ⟨_, hm, _, H3, I3.tok _, (hg k).getD rz, q3⟩
end
section
variable {K : PySem.W.Frag} {w : World} {σ : L2.St} {H : Hp} {Q : VK} {td ty tx : TE}
theorem w_kget2 (h : td σ H fun x H1 => ∃ a kvs, x = .ref a ∧ KD K w a kvs ∧ ty σ H1 fun y H2 => tx σ H2 fun z H3 => (∃ k, y = kV k) ∧ Q ((getS kvs y).getD z) H3) : tKGet2 K w td ty tx σ H Q := h
theorem w_kg {a : Addr} {kvs : List (Str × V)} {B : List (Str × V) → Prop} (D : KD K w a kvs) (q : B kvs) : ∃ a' kvs', V.ref a = .ref a' ∧ KD K w a' kvs' ∧ B kvs' := ⟨a, kvs, rfl, D, q⟩
end
theorem w_isRN {a : Addr} {A B : Prop} (h : B) : if decide (V.ref a = V.non) = true then A else B := iteF h
theorem w_isNN {A B : Prop} (h : A) : if decide (V.non = V.non) = true then A else B := iteT h
theorem w_isIN {i : Int} {A B : Prop} (h : B) : if decide (V.int i = V.non) = true then A else B := iteF h
theorem q_eq {Q : VK} {H : Hp} {v u : V} (q : Q u H) (e : v = u) : Q v H := by
  rw [e]
  exact q
theorem kV_int (i : Int) : ∃ k, V.int i = kV k := ⟨.inl i, rfl⟩
theorem kV_str (x : Str) : ∃ k, V.str x = kV k := ⟨.inr x, rfl⟩
end Ly
set_option Elab.async false
set_option linter.all false
set_option maxRecDepth 100000
set_option maxHeartbeats 4000000
namespace Ly
open PySem PySem.Spec PyProof.Rows L2 Evl
/-- what one source of a zip gives: C tells its items by the abstract heap -/
structure ZSrc (P : Program) (w : World) (K : PySem.W.Frag) (C : Hp → List V → Prop) (it : Addr) (fp : List Addr) (st : Nat → Heap → Prop) : Prop where
  obj : ∀ i h, st i h → ∃ o, h.get? it = some o ∧ ∀ v, o.data ≠ .cell v
  keep : ∀ i h h', st i h → (∀ o, h.get? it = some o → h'.get? it = some o) → st i h'
  inj : ∀ (X : Cx), X.prog = P → X.w = w → X.K = K → ∀ (pins : List (Addr × Obj)) (σ : L2.St) (H : Hp) (s : Shared) (xs ys : List V), Inv X pins σ H s → C H xs → C H ys → xs = ys
  draws : ∀ (X : Cx), X.prog = P → X.w = w → X.K = K → X.A.handled = none → ∀ (pins : List (Addr × Obj)) (σ : L2.St) (H : Hp) (s : Shared) (xs : List V), Inv X pins σ H s → C H xs →
    ∃ (Pr : Nat → Value → Prop) (CT : Heap → Prop), Draws P w X.A.in1 it fp xs.length Pr (fun i h => st i h ∧ CT h) ∧ CT s.heap ∧ ∀ i u, Pr i u → ∃ v, xs[i]? = some v ∧ RelV v u
def ItzC (C1 C2 : Hp → List V → Prop) : It :=
  ⟨fun i H => ∃ (xs ys : List V) (x y : V), C1 H xs ∧ C2 H ys ∧ xs[i]? = some x ∧ ys[i]? = some y,
    fun i H v H' => ∃ (T : Addr) (x y : V), v = .ref T ∧ H T = none ∧ H' = upd H T (.tup [x, y]) ∧ (∀ xs, C1 H xs → xs[i]? = some x) ∧ ∀ ys, C2 H ys → ys[i]? = some y,
    fun i H => ∃ xs ys : List V, C1 H xs ∧ C2 H ys ∧ i ≤ xs.length ∧ i ≤ ys.length ∧ (i = xs.length ∨ i = ys.length)⟩
theorem five {α : Type} {c a1 a2 a3 a4 a5 : α} (h : c ∈ [a1, a2, a3, a4, a5]) : c = a1 ∨ c = a2 ∨ c = a3 ∨ c = a4 ∨ c = a5 := by simpa using h
theorem turn_zipC {P : Program} {w : World} {K : PySem.W.Frag} {elts : List Expr} {kk : Nat} {tpos : Pos} {C1 C2 : Hp → List V → Prop} {z TI TO i1 i2 : Addr} {fp1 fp2 : List Addr} {st1 st2 : Nat → Heap → Prop}
    (S : ZipSep2 z TI TO i1 i2 fp1 fp2) (Z1 : ZSrc P w K C1 i1 fp1 st1) (Z2 : ZSrc P w K C2 i2 fp2 st2) :
    Turn P w K (.Tuple elts kk tpos) (ItzC C1 C2) [z, TI, TO, i1, i2] z (fun i h => IsZip h z TI TO .none ∧ IsTupOf2 h TI (.ref i1) (.ref i2) ∧ (∃ x y, IsTupOf2 h TO x y) ∧ st1 i h ∧ st2 i h) where
  mem := List.mem_cons_self
  obj := fun i h ⟨hz, hI, ⟨_, _, hO⟩, q1, q2⟩ c hc => by
    rcases five hc with rfl | rfl | rfl | rfl | rfl
    · exact ⟨_, hz, fun _ q => nomatch q⟩
    · exact ⟨_, hI, fun _ q => nomatch q⟩
    · exact ⟨_, hO, fun _ q => nomatch q⟩
    · exact Z1.obj i h q1
    · exact Z2.obj i h q2
  keep := fun i h h' ⟨hz, hI, ⟨x, y, hO⟩, q1, q2⟩ k =>
    ⟨k z (by simp) _ hz, k TI (by simp) _ hI, ⟨x, y, k TO (by simp) _ hO⟩, Z1.keep i h h' q1 (fun o e => k i1 (by simp) o e), Z2.keep i h h' q2 (fun o e => k i2 (by simp) o e)⟩
  item := fun X hP hw hK hc i pins s σ H E I hf st hg => by
    obtain ⟨hz, hI, ⟨x0, y0, hO⟩, q1, q2⟩ := st
    obtain ⟨xs, ys, x, y, c1, c2, hx, hy⟩ := hg
    obtain ⟨Pr1, CT1, D1, t1, r1⟩ := Z1.draws X hP hw hK (I.ok.hd hc) pins σ H s xs I c1
    obtain ⟨Pr2, CT2, D2, t2, r2⟩ := Z2.draws X hP hw hK (I.ok.hd hc) pins σ H s ys I c2
    have l1 : i < xs.length := (List.getElem?_eq_some_iff.mp hx).1
    have l2 : i < ys.length := (List.getElem?_eq_some_iff.mp hy).1
    have zl : z < s.heap.objs.size := Heap.lt_size hz
    refine wpAny_pyNext_zipD2_item S D1 D2 hz hI hO ⟨q1, t1⟩ ⟨q2, t2⟩ l1 l2 fun u1 u2 h' tk p1 p2 z' O' n1 n2 hT hsz hk => ?_
    obtain ⟨v1, e1, rv1⟩ := r1 i u1 p1
    obtain ⟨v2, e2, rv2⟩ := r2 i u2 p2
    have ev1 : v1 = x := Option.some.inj (e1.symm.trans hx)
    have ev2 : v2 = y := Option.some.inj (e2.symm.trans hy)
    subst ev1 ev2
    refine ⟨_, rfl, wpAny_letOwnedTupleGo_zip (s := { s with heap := h', toks := tk }) z' fun h2 z2 sb => ?_⟩
    have stay : ∀ c o, c ≠ z → c ≠ TO → c ≠ i1 → c ≠ i2 → s.heap.get? c = some o → h2.get? c = some o := fun c o k1 k2 k3 k4 e => (sb.2 c k1).trans (hk c o k1 k2 k3 k4 e)
    have made : ObjOk X.prog X.w (upd H s.heap.objs.size (.tup [v1, v2])) h2 s.heap.objs.size (.tup [v1, v2]) :=
      ⟨sz_of (Nat.le_of_ble_eq_true rfl), [u1, u2], .cons rv1 (.cons rv2 .nil), ⟨_, (sb.2 _ (Nat.ne_of_gt zl)).trans hT, rfl, _, rfl⟩⟩
    have J := I.turnedNew (t' := tk) (ch := [z, TI, TO, i1, i2]) (h' := h2) (fun c o hb e => stay c o (fun q => hb (by simp [q])) (fun q => hb (by simp [q])) (fun q => hb (by simp [q])) (fun q => hb (by simp [q])) e) hf (Nat.le_refl _) made
    refine ⟨.ref s.heap.objs.size, _, J, rfl, ⟨_, v1, v2, rfl, I.hok.fresh (Nat.le_refl _), rfl, fun l hl => ?_, fun l hl => ?_⟩, ⟨z2, ?_, ⟨u1, u2, ?_⟩, ?_, ?_⟩, fun c hcm => ?_⟩
    · rw [Z1.inj X hP hw hK pins σ H s l xs I hl c1]
      exact hx
    · rw [Z2.inj X hP hw hK pins σ H s l ys I hl c2]
      exact hy
    · exact stay _ _ S.TIz S.TITO S.TIi1 S.TIi2 hI
    · exact (sb.2 _ S.TOz).trans O'
    · exact Z1.keep _ _ _ n1.1 fun o e => (sb.2 _ (Ne.symm S.zi1)).trans e
    · exact Z2.keep _ _ _ n2.1 fun o e => (sb.2 _ (Ne.symm S.zi2)).trans e
    · have lt : c < s.heap.objs.size := by
        rcases five hcm with q | q | q | q | q
        · rw [q]; exact zl
        · rw [q]; exact Heap.lt_size hI
        · rw [q]; exact Heap.lt_size hO
        · rw [q]; obtain ⟨_, e, _⟩ := Z1.obj _ _ q1; exact Heap.lt_size e
        · rw [q]; obtain ⟨_, e, _⟩ := Z2.obj _ _ q2; exact Heap.lt_size e
      rw [upd_ne (Nat.ne_of_lt lt)]
      exact (hf c hcm).1
  done := fun X hP hw hK hc i pins s σ H E I hf st hg => by
    obtain ⟨hz, hI, ⟨x0, y0, hO⟩, q1, q2⟩ := st
    obtain ⟨xs, ys, c1, c2, l1, l2, hend⟩ := hg
    obtain ⟨Pr1, CT1, D1, t1, r1⟩ := Z1.draws X hP hw hK (I.ok.hd hc) pins σ H s xs I c1
    obtain ⟨Pr2, CT2, D2, t2, r2⟩ := Z2.draws X hP hw hK (I.ok.hd hc) pins σ H s ys I c2
    exact wpAny_pyNext_zipD2_end S D1 D2 hz hI hO ⟨q1, t1⟩ ⟨q2, t2⟩ l1 l2 hend fun h' tk hk => ⟨rfl, I.turnedL (t' := tk) (ch := [z, TI, TO, i1, i2]) (fun c o hb e =>
      hk c o (fun q => hb (by simp [q])) (fun q => hb (by simp [q])) (fun q => hb (by simp [q])) (fun q => hb (by simp [q])) e) hf⟩
  self := fun A i s Q E ⟨hz, _⟩ h => wpAny_pyIter_zip hz h
/-- the sources -/
theorem src_tup {P : Program} {w : World} {K : PySem.W.Frag} {a it : Addr} (hne : a ≠ it) : ZSrc P w K (fun H xs => SqT K H a xs) it [it, a] (fun i h => h.IsTupleIter it a i) where
  obj := fun i h st => by
    obtain ⟨o, e, _, d⟩ := st
    exact ⟨o, e, fun v z => by rw [d] at z; cases z⟩
  keep := fun i h h' st k => st.at fun o e => k o e
  inj := fun X hP hw hK pins σ H s xs ys I h1 h2 => by
    subst hP hw hK
    exact I.tuple_inj h1 h2
  draws := fun X hP hw hK hh pins σ H s xs I h => by
    subst hP hw hK
    obtain ⟨its, rv, p, _⟩ := I.tuple h
    have el : xs.length = its.toArray.size := by rw [List.size_toArray]; exact rv.length
    rw [el]
    refine ⟨fun i v => its.toArray[i]? = some v, fun h => h.IsTuple a its.toArray, Draws.tuple (A := X.A.in1) (show X.A.in1.handled = none from hh) it a hne its.toArray, p, fun i u hu => ?_⟩
    have hu2 : its[i]? = some u := by simpa using hu
    obtain ⟨hl, hg⟩ := List.getElem?_eq_some_iff.mp hu2
    have hl2 : i < xs.length := by rw [rv.length]; exact hl
    obtain ⟨u2, g2, rr⟩ := rv.get (List.getElem?_eq_getElem hl2)
    rw [hu2] at g2
    cases g2
    exact ⟨_, List.getElem?_eq_getElem hl2, rr⟩
theorem src_lst {P : Program} {w : World} {K : PySem.W.Frag} {a it : Addr} (hne : a ≠ it) : ZSrc P w K (fun H xs => SqL K H a xs) it [it, a] (fun i h => h.IsListIter it a i) where
  obj := fun i h st => by
    obtain ⟨o, e, _, d⟩ := st
    exact ⟨o, e, fun v z => by rw [d] at z; cases z⟩
  keep := fun i h h' st k => st.at fun o e => k o e
  inj := fun X hP hw hK pins σ H s xs ys I h1 h2 => by
    subst hP hw hK
    exact I.list_inj h1 h2
  draws := fun X hP hw hK hh pins σ H s xs I h => by
    subst hP hw hK
    obtain ⟨its, rv, p, _⟩ := I.list h
    have el : xs.length = its.toArray.size := by rw [List.size_toArray]; exact rv.length
    rw [el]
    refine ⟨fun i v => its.toArray[i]? = some v, fun h => h.IsList a its.toArray, Draws.list (A := X.A.in1) (show X.A.in1.handled = none from hh) it a hne its.toArray, p.isList, fun i u hu => ?_⟩
    have hu2 : its[i]? = some u := by simpa using hu
    obtain ⟨hl, hg⟩ := List.getElem?_eq_some_iff.mp hu2
    have hl2 : i < xs.length := by rw [rv.length]; exact hl
    obtain ⟨u2, g2, rr⟩ := rv.get (List.getElem?_eq_getElem hl2)
    rw [hu2] at g2
    cases g2
    exact ⟨_, List.getElem?_eq_getElem hl2, rr⟩
def signs (z : Str) : List V := z.cps.toList.map fun c => V.str ⟨#[c]⟩
def iZipTL (K : PySem.W.Frag) (ta : TA) : TI := fun σ H R => ta σ H fun vs H1 => ∃ a b xs ys, vs = [.ref a, .ref b] ∧ SqT K H1 a xs ∧ SqL K H1 b ys ∧ R (ItzC (fun H xs => SqT K H a xs) (fun H ys => SqL K H b ys)) H1
def iZipSS (ta : TA) : TI := fun σ H R => ta σ H fun vs H1 => ∃ z u, vs = [.str z, .str u] ∧ R (ItzC (fun _ xs => xs = signs z) (fun _ ys => ys = signs u)) H1
theorem fresh_cells {X : Cx} {pins : List (Addr × Obj)} {σ : L2.St} {H : Hp} {s : Shared} (I : Inv X pins σ H s) : ∀ c ∈ [s.heap.objs.size + 4, s.heap.objs.size + 2, s.heap.objs.size + 3, s.heap.objs.size, s.heap.objs.size + 1], FpOk X pins H c := fun c hc => by
  have le : s.heap.objs.size ≤ c := by
    rcases five hc with q | q | q | q | q <;> omega
  exact I.fpOk le (I.hok.fresh le)
theorem pi_zipM {X : Cx} {e e2 : Expr} {ta : TA} {p pos tpos : Pos} {elts : List Expr} {kk : Nat} (hg : Gl X "zip") (hm : X.mg "zip" = none) (ha : PA X [e, e2] ta)
    (hs : starEach [e, e2] X.env = (false, eval e X.env) :: starEach [e2] X.env := by rfl) (hpl : (backTo pos (starEach [e2] X.env)).any (·.1) = false := by rfl) :
    PI X (.Tuple elts kk tpos) (.Call (.Name "zip" p) [e, e2] [] pos) (iZipTL X.K ta) := ⟨fun pins s σ H R I h =>
  Call_ (ld_blt I hg hm PyProof.Rows.boot_zip (PyProof.Rows.callWith_type1 (thn (ha.run pos pins s σ H _ I h) fun us s1 ⟨vs, H1, J, rv, q⟩ => by
    obtain ⟨a, b, xs, ys, ev, hx, hy, q⟩ := q
    subst ev
    obtain ⟨u1, us1, e1, r1, rv1⟩ : ∃ u1 us1, us = u1 :: us1 ∧ RelV (.ref a) u1 ∧ Vals [.ref b] us1 := by
      cases rv with
      | cons r rr => exact ⟨_, _, rfl, r, rr⟩
    obtain ⟨u2, e2', r2⟩ := vals1 rv1
    subst e1 e2'
    cases r1
    cases r2
    obtain ⟨its, _, p1, _⟩ := J.tuple hx
    obtain ⟨its2, _, p2, _⟩ := J.list hy
    refine zip_begins2 (begins_tuple a its.toArray) (begins_list b its2.toArray) p1 p2.isList fun h' hz hI hO g1 g2 hsz hk => wpAny_pyIter_zip hz ?_
    have la : a < s1.heap.objs.size := by
      obtain ⟨_, z, _⟩ := id p1
      exact Heap.lt_size z
    have lb := p2.lt
    refine ⟨s1.heap.objs.size + 4, _, _, _, H1, rfl, J.kept (t' := s1.toks) hk, turn_zipC (zip_sep2 (N := s1.heap.objs.size) (fp1 := [a]) (fp2 := [b]) ?_ ?_) (src_tup (Nat.ne_of_lt la)) (src_lst (Nat.ne_of_lt (Nat.lt_succ_of_lt lb))), ⟨hz, hI, ⟨_, _, hO⟩, ⟨_, g1, rfl, rfl⟩, ⟨_, g2, rfl, rfl⟩⟩, fresh_cells J, q⟩
    · intro c hc
      rw [List.mem_singleton.mp hc]
      exact la
    · intro c hc
      rw [List.mem_singleton.mp hc]
      exact lb) hs hpl))⟩
/-- a for over such a zip: n turns -/
theorem for_zipC {C1 C2 : Hp → List V → Prop} {xs ys : List V} {n : Nat} (hn : n = min xs.length ys.length) {g : TG} {tb : TS} {D : Ends} {σ : L2.St} {H : Hp} (Pv : Nat → L2.St → Hp → Prop) (h0 : Pv 0 σ H) (hC : ∀ i σ H, Pv i σ H → C1 H xs ∧ C2 H ys)
    (hs : ∀ (i : Nat) (x y : V) (T : Addr) (σ : L2.St) (H : Hp), xs[i]? = some x → ys[i]? = some y → Pv i σ H → H T = none → g (.ref T) σ (upd H T (.tup [x, y])) fun σ2 H2 => tb { D with nx := Pv (i + 1), ct := Pv (i + 1), bk := D.nx } σ2 H2)
    (hd : ∀ σ H, Pv n σ H → D.nx σ H) : ForB (ItzC C1 C2) g tb D σ H := by
  refine ⟨fun i m σ H => m = n - i ∧ i ≤ n ∧ Pv i σ H, ⟨n, rfl, Nat.zero_le _, h0⟩, fun i m σ H hW => ?_⟩
  obtain ⟨hm, hi, pv⟩ := hW
  obtain ⟨k1, k2⟩ := hC i σ H pv
  by_cases lt : i < n
  · have l1 : i < xs.length := by omega
    have l2 : i < ys.length := by omega
    refine .inr ⟨⟨xs, ys, xs[i], ys[i], k1, k2, List.getElem?_eq_getElem l1, List.getElem?_eq_getElem l2⟩, Pv (i + 1), fun σ' H' p' => ⟨n - (i + 1), by omega, rfl, lt, p'⟩, fun v H' hy => ?_⟩
    obtain ⟨T, x, y, e1, e2, e3, g1, g2⟩ := hy
    subst e1 e3
    exact hs i x y T σ H (g1 xs k1) (g2 ys k2) pv e2
  · have e : i = n := by omega
    subst e
    exact .inl ⟨⟨xs, ys, k1, k2, by omega, by omega, by omega⟩, hd σ H pv⟩
section
variable {K : PySem.W.Frag} {σ : L2.St} {H : Hp} {tA : TA} {R : It → Hp → Prop}
theorem w_iZ (h : tA σ H fun vs H1 => ∃ a b xs ys, vs = [.ref a, .ref b] ∧ SqT K H1 a xs ∧ SqL K H1 b ys ∧ R (ItzC (fun H xs => SqT K H a xs) (fun H ys => SqL K H b ys)) H1) : iZipTL K tA σ H R := h
theorem w_iZ1 {a b : Addr} {xs ys : List V} {B : Addr → Addr → Prop} (h : SqT K H a xs) (h2 : SqL K H b ys) (q : B a b) : ∃ a' b' us vs, [V.ref a, V.ref b] = [.ref a', .ref b'] ∧ SqT K H a' us ∧ SqL K H b' vs ∧ B a' b' := ⟨a, b, xs, ys, rfl, h, h2, q⟩
theorem w_iS (h : tA σ H fun vs H1 => ∃ z u, vs = [.str z, .str u] ∧ R (ItzC (fun _ xs => xs = signs z) (fun _ ys => ys = signs u)) H1) : iZipSS tA σ H R := h
theorem w_iS1 {z u : Str} {B : Str → Str → Prop} (q : B z u) : ∃ a b, [V.str z, V.str u] = [.str a, .str b] ∧ B a b := ⟨z, u, rfl, q⟩
theorem w_gtup {t : TGs} {a : Addr} {xs : List V} {n : Nat} {Rs : L2.St → Hp → Prop} (h : SqT K H a xs) (hn : xs.length = n) (q : t xs σ H Rs) : gTup K n t (.ref a) σ H Rs := ⟨a, xs, rfl, h, hn, q⟩
theorem w_gcons {t : TG} {u : TGs} {v : V} {r : List V} {Rs : L2.St → Hp → Prop} (q : t v σ H fun σ' H' => u r σ' H' Rs) : gCons t u (v :: r) σ H Rs := ⟨v, r, rfl, q⟩
theorem w_gnil {Rs : L2.St → Hp → Prop} (q : Rs σ H) : gNil [] σ H Rs := ⟨rfl, q⟩
end
end Ly
set_option Elab.async false
set_option linter.all false
set_option maxRecDepth 100000
set_option maxHeartbeats 2000000
namespace Ly
open PySem PySem.Spec PyProof.Rows L2 Evl
theorem sNoRev : typeLookup (.type "str") "__reversed__" = pure none := by
  rw [typeLookup_type, builtinLookup_eq_fast]
  kernel_rfl
theorem sGet : typeLookup (.type "str") "__getitem__" = pure (some (.builtin "str.__getitem__")) := by
  rw [typeLookup_type, builtinLookup_eq_fast]
  kernel_rfl
/-- the walker at it: what it walks over, the place that comes next -/
def RevAt (h : Heap) (it : Addr) (z : Str) (t : Tok) (i : Int) : Prop := ∃ o, h.get? it = some o ∧ o.cls = .type "reversed" ∧ o.data = .fields #[.str z t, rawInt i]
theorem RevAt.kind {s : Shared} {it : Addr} {z : Str} {t : Tok} {i : Int} (r : RevAt s.heap it z t i) : s.TypeIs (.ref it) "reversed" := by
  obtain ⟨o, e, c, _⟩ := r
  exact ⟨o, e, c⟩
section
variable {prog : Program} {w : World} {A : Around} {E : Value → Shared → Prop} {s : Shared} {z : Str} {t : Tok}
theorem rev_make {Q : Value → Shared → Prop} (hz : z.length ≤ sizeLine)
    (q : Q (.ref s.heap.objs.size) { s with heap := s.heap.push { cls := .type "reversed", data := .fields #[.str z t, rawInt ((z.length : Int) - 1)] }, toks := s.toks + 1 + 1 }) : wpAny (model prog w) A (call (.type "reversed") [.str z t]) Q E s := by
  have hT := typeIs_str s z t
  have l63 := line63
  refine callType_codes (Q₁ := fun v s1 => s1.TypeIs v "reversed" ∧ Q v s1) RT.called_rt (F.typeCall_reversed_1 _) F.entry_object_init (codeAny_of_tree ?_) fun v s1 h1 => ⟨h1.1, F.args_object_init_2 v _, object_init_meets RT.called_rt.init.lookup RT.called_rt.made (by decide) prog w A.in1 _ s1 ⟨h1.1, rfl, h1.2⟩⟩
  show wpAny _ A.in1.in1 (do checkBuiltinCall "reversed.__new__" ⟨[.type "reversed", .str z t], []⟩; again (.builtin "reversed.__new__" ⟨[.type "reversed", .str z t], []⟩)) _ _ s
  (refine wpAny_bind (wpAny_of_eq (F.newCall_reversed_1 _) (wpAny_pure ⟨plainId_quiet F.plain_reversed_new _, codeAny_builtin F.entry_reversed_new ?_⟩)); try dsimp only)
  rw [Around.under_plainId F.plain_reversed_new _]
  delta Builtin.«reversed.__new__»
  (refine wpAny_bind (wpAny_of_eq (newClass_reversed _) ?_); try dsimp only)
  (refine wpAny_bind (wpAny_of_eq (a := ()) rfl ?_); try dsimp only)
  (refine wpAny_bind (wpAny_of_eq (a := ()) rfl ?_); try dsimp only)
  (refine wpAny_bind (wpAny_specialOf hT sNoRev ?_); try dsimp only)
  refine wpAny_bind ?_
  wp_delta
  (refine wpAny_bind (wpAny_isInstance (T := "str") (U := "dict") (b := false) hT F.sub_str_dict ?_); try dsimp only)
  try rw [if_neg Bool.false_ne_true]
  try dsimp only
  (refine wpAny_bind (wpAny_specialOf hT sGet ?_); try dsimp only)
  try rw [if_pos (by decide +kernel)]
  refine wpAny_pure ?_
  try dsimp only
  try rw [if_neg (by decide)]
  try dsimp only
  refine wpAny_bind (P.len_str (by omega) ?_)
  (refine wpAny_bind (wpAny_of_eq (a := some ((z.length : Nat) : Int)) rfl ?_); try dsimp only)
  refine wpAny_bind ?_
  show wpAny _ _ (newObj (.type "reversed") (.fields #[.str z t, rawInt ((z.length : Int) - 1)])) _ _ _
  exact wpAny_newObj_type (wpAny_pure ⟨⟨_, Heap.get?_push_size _ rfl, rfl⟩, q⟩)
theorem rev_self {it : Addr} {i : Int} {Q : Value → Shared → Prop} (r : RevAt s.heap it z t i) (q : Q (.ref it) s) : wpAny (model prog w) A (pyIter (.ref it)) Q E s :=
  wpAny_pyIter_slot r.kind RT.slot_rt_iter (wpAny_call_entry RT.slot_rt_iter r.kind RT.entry_rt_iter (show wpAny _ _ (ret (.ref it)) _ _ s from wpAny_pure ⟨_, rfl, "reversed", _, r.kind, RT.slot_rt_next.lookup, q⟩) (RT.args_rt_iter _))
theorem rev_item {it : Addr} {i c : Nat} {Q : Option Value → Shared → Prop} (r : RevAt s.heap it z t (i : Int)) (hc : z.cps[i]? = some c) (hz : z.length ≤ sizeLine)
    (q : ∀ h', RevAt h' it z t ((i : Int) - 1) → Heap.SameBut it s.heap h' → Q (some (.str ⟨#[c]⟩ (s.toks + 1))) { s with heap := h', toks := s.toks + 1 + 1 }) : wpAny (model prog w) A (pyNext (.ref it)) Q E s := by
  have r0 := r
  obtain ⟨o, e, hcl, d⟩ := r
  have l63 := line63
  have hi : i < z.cps.size := (Array.getElem?_eq_some_iff.mp hc).1
  have hT := typeIs_str s z t
  have hl : z.length = z.cps.size := rfl
  delta pyNext
  refine wpAny_bind (wpAny_attempt (wpAny_callSpecial?_slot r0.kind RT.slot_rt_next (wpAny_call_entry RT.slot_rt_next r0.kind RT.entry_rt_next ?_ (RT.args_rt_next _))))
  delta Builtin.«reversed.__next__»
  (refine wpAny_bind (wpAny_of_eq (a := (Value.ref it, [])) rfl ?_); try dsimp only)
  (refine wpAny_bind (wpAny_field e d (x := .str z t) rfl ?_); try dsimp only)
  (refine wpAny_bind (wpAny_field e d (x := rawInt (i : Int)) rfl ?_); try dsimp only)
  show wpAny _ _ (if (i : Int) < 0 then _ else _) _ _ s
  rw [if_neg (by omega)]
  try dsimp only
  (refine wpAny_bind (wpAny_specialOf hT sGet ?_); try dsimp only)
  try rw [if_neg (by decide)]
  try dsimp only
  refine wpAny_bind (wpAny_mkInt ?_)
  refine wpAny_bind (wpAny_attempt ?_)
  have at1 : seqIndex? (i : Int) z.length = some i := seqIndex_of (by omega) (by omega)
  refine P.getItem_str (c := c) (by rw [decide_eq_false (show ¬ (i : Int) < -(2 ^ 63) by omega), decide_eq_false (show ¬ (i : Int) ≥ 2 ^ 63 by omega)]; rfl) (by rw [at1]; exact hc) ?_
  try dsimp only
  (refine wpAny_bind (wpAny_field (s := { s with toks := s.toks + 1 + 1 }) e d (x := rawInt (i : Int)) rfl ?_); try dsimp only)
  (refine wpAny_bind (wpAny_setField (s := { s with toks := s.toks + 1 + 1 }) e d (by simp) ?_); try dsimp only)
  have fin : RevAt (s.heap.update it (Obj.mapFields (·.setIfInBounds 1 (rawInt ((i : Int) - 1))))) it z t ((i : Int) - 1) :=
    ⟨_, Heap.get?_update_self _ e (Obj.isFreed_of_fields (Obj.data_mapFields d _)), (Obj.cls_mapFields ..).trans hcl, by rw [Obj.data_mapFields d]; simp⟩
  first
  | exact wpAny_pure ⟨_, rfl, wpAny_pure (q _ fin (Heap.SameBut.update ..))⟩
  | exact wpAny_bind (wpAny_pure (wpAny_pure ⟨_, rfl, wpAny_pure (q _ fin (Heap.SameBut.update ..))⟩))
/-- the exception that ends an iteration, when none is handled: two new objects, no more -/
theorem stop_made {α : Type} {Q : α → Shared → Prop} (hh : A.handled = none) (q : ∀ (h' : Heap) (e : Addr), (∀ b ob, s.heap.get? b = some ob → h'.get? b = some ob) → Shared.TypeIs { s with heap := h' } (.ref e) "StopIteration" → E (.ref e) { s with heap := h' }) :
    wpAny (model prog w) A (Builtin.SmallTypes.stopIteration : Sem α) Q E s := by
  delta Builtin.SmallTypes.stopIteration
  refine wpAny_bind ?_
  simp only [newExc, newTuple, raiseNew]
  (refine wpAny_bind (wpAny_newObj_type ?_ (by size_fits)); try dsimp only)
  (refine wpAny_bind (wpAny_of_eq (a := Value.none) rfl ?_); try dsimp only)
  refine wpAny_newObj_type (wpAny_bind (wpAny_handled ?_)) (by size_fits)
  rw [hh]
  exact wpAny_bind (wpAny_pure (wpAny_throw (q _ _ (fun b ob k => Heap.get?_push_of_some _ (Heap.get?_push_of_some _ k)) ⟨_, Heap.get?_push_size _ rfl, rfl⟩)))
theorem rev_end {it : Addr} {Q : Option Value → Shared → Prop} (hh : A.handled = none) (r : RevAt s.heap it z t (-1)) (q : ∀ h', Heap.ExtBut it s.heap h' → Q none { s with heap := h' }) : wpAny (model prog w) A (pyNext (.ref it)) Q E s := by
  have r0 := r
  obtain ⟨o, e, hcl, d⟩ := r
  delta pyNext
  refine wpAny_bind (wpAny_attempt (wpAny_callSpecial?_slot r0.kind RT.slot_rt_next (wpAny_call_entry RT.slot_rt_next r0.kind RT.entry_rt_next ?_ (RT.args_rt_next _))))
  delta Builtin.«reversed.__next__»
  (refine wpAny_bind (wpAny_of_eq (a := (Value.ref it, [])) rfl ?_); try dsimp only)
  (refine wpAny_bind (wpAny_field e d (x := .str z t) rfl ?_); try dsimp only)
  (refine wpAny_bind (wpAny_field e d (x := rawInt (-1)) rfl ?_); try dsimp only)
  show wpAny _ _ (if (-1 : Int) < 0 then _ else _) _ _ s
  rw [if_pos (by decide)]
  try dsimp only
  (refine wpAny_bind (wpAny_rule ?_); try dsimp only)
  refine wpAny_bind ?_
  wp_delta
  refine wpAny_bind (wpAny_setField e d (by simp) ?_)
  have e2 := Heap.get?_update_self (Obj.mapFields (·.setIfInBounds 1 (rawInt (-1)))) e (Obj.isFreed_of_fields (Obj.data_mapFields d _))
  refine wpAny_setField (s := { s with heap := s.heap.update it (Obj.mapFields (·.setIfInBounds 1 (rawInt (-1)))) }) e2 (Obj.data_mapFields d _) (by simp) ?_
  try dsimp only
  refine wpAny_bind (stop_made (A := A.in1) hh fun h' x k te => ?_)
  refine wpAny_bind (wpAny_isInstance te isSubtype_stop (wpAny_pure (q h' fun b ob hb kb => k b ob ?_)))
  exact (Heap.get?_update_other _ _ hb.symm).trans ((Heap.get?_update_other _ _ hb.symm).trans kb)
end
/-- the turns: the signs from the last to the first -/
def ItvS (z : Str) : It := ⟨fun i _ => i < z.cps.size, fun i H v H' => H' = H ∧ ∃ c, z.cps[z.cps.size - 1 - i]? = some c ∧ v = .str ⟨#[c]⟩, fun i _ => z.cps.size ≤ i⟩
theorem turn_revS {P : Program} {w : World} {K : PySem.W.Frag} {tg : Expr} {z : Str} {t : Tok} {it : Addr} (hz : z.length ≤ sizeLine) : Turn P w K tg (ItvS z) [it] it (fun i h => i ≤ z.cps.size ∧ RevAt h it z t ((z.cps.size : Int) - 1 - (i : Nat))) where
  mem := List.mem_cons_self
  obj := fun i h ⟨_, o, e, _, d⟩ b hb => by
    rw [List.mem_singleton.mp hb]
    exact ⟨o, e, fun v q => by rw [d] at q; cases q⟩
  keep := fun i h h' ⟨l, o, e, r⟩ k => ⟨l, o, k it List.mem_cons_self _ e, r⟩
  item := fun X hP hw hK hc i pins s σ H E I hf ⟨_, st⟩ hg => by
    subst hP hw hK
    have lt : i < z.cps.size := hg
    obtain ⟨g0, g1, g2, g3, g4, g5⟩ := hf it List.mem_cons_self
    have ix : (z.cps.size : Int) - 1 - (i : Nat) = ((z.cps.size - 1 - i : Nat) : Int) := by omega
    rw [ix] at st
    obtain ⟨c, ec⟩ : ∃ c, z.cps[z.cps.size - 1 - i]? = some c := ⟨_, Array.getElem?_eq_getElem (by omega)⟩
    refine rev_item st ec hz fun h' st' sb => ?_
    have ix2 : ((z.cps.size - 1 - i : Nat) : Int) - 1 = (z.cps.size : Int) - 1 - ((i + 1 : Nat) : Int) := by omega
    rw [ix2] at st'
    have J : Inv X pins σ H { s with heap := h', toks := s.toks + 1 + 1 } := I.turned (fun b o hb k => (sb.2 b hb).trans k) g0 g1 g3 g4 g5
    have st2 := st'
    obtain ⟨o, eo, co, d⟩ := st2
    exact ⟨_, rfl, go_of (s := { s with heap := h', toks := s.toks + 1 + 1 }) eo co d (by decide) ⟨.str ⟨#[c]⟩, H, J, ⟨_, rfl⟩, ⟨rfl, c, ec, rfl⟩, ⟨lt, st'⟩, fun b hb => (hf b hb).1⟩⟩
  done := fun X hP hw hK hc i pins s σ H E I hf ⟨_, st⟩ hg => by
    subst hP hw hK
    have ge : z.cps.size ≤ i := hg
    obtain ⟨g0, g1, g2, g3, g4, g5⟩ := hf it List.mem_cons_self
    have ix : (z.cps.size : Int) - 1 - (i : Nat) = -1 := by omega
    rw [ix] at st
    exact rev_end (I.ok.hd hc) st fun h' k => ⟨rfl, I.turned (t' := s.toks) (fun b o hb e => k b o hb e) g0 g1 g3 g4 g5⟩
  self := fun A i s Q E st q => rev_self st.2 q
def iRevS (te : TE) : TI := fun σ H R => te σ H fun v H1 => ∃ z, v = .str z ∧ z.length ≤ sizeLine ∧ R (ItvS z) H1
theorem pi_revS {X : Cx} {tg e : Expr} {te : TE} {p pos : Pos} (hg : Gl X "reversed") (hm : X.mg "reversed" = none) (he : PE X e te) (hs : starEach [e] X.env = (false, eval e X.env) :: starEach [] X.env := by rfl) :
    PI X tg (.Call (.Name "reversed" p) [e] [] pos) (iRevS te) := ⟨fun pins s σ H R I h =>
  Call_ (ld_blt I hg hm PyProof.Rows.boot_reversed (PyProof.Rows.callWith_type1 (args_cons (thn (he.run pins s σ H _ I h) fun u s1 ⟨v, H1, J, rv, z, ev, hz, q⟩ => args_nil (by
    subst ev
    obtain ⟨t, rfl⟩ := rv
    refine rev_make hz (rev_self (z := z) (t := t) (i := (z.length : Int) - 1) ⟨_, Heap.get?_push_size _ rfl, rfl, rfl⟩ ?_)
    refine pi_one (tk := s1.toks + 1 + 1) J _ (turn_revS (t := t) hz) ⟨Nat.zero_le _, ?_⟩ q
    have ix : (z.cps.size : Int) - 1 - ((0 : Nat) : Int) = (z.length : Int) - 1 := by
      show _ = (z.cps.size : Int) - 1
      omega
    rw [ix]
    exact ⟨_, Heap.get?_push_size _ rfl, rfl, rfl⟩)) hs) hs rfl))⟩
theorem for_revS {z : Str} {g : TG} {tb : TS} {D : Ends} {σ : L2.St} {H : Hp} (Pv : Nat → L2.St → Hp → Prop) (h0 : Pv 0 σ H)
    (hs : ∀ i c σ H, z.cps[z.cps.size - 1 - i]? = some c → i < z.cps.size → Pv i σ H → g (.str ⟨#[c]⟩) σ H fun σ2 H2 => tb { D with nx := Pv (i + 1), ct := Pv (i + 1), bk := D.nx } σ2 H2) (hd : ∀ σ H, Pv z.cps.size σ H → D.nx σ H) : ForB (ItvS z) g tb D σ H := by
  refine ⟨fun i m σ H => m = z.cps.size - i ∧ i ≤ z.cps.size ∧ Pv i σ H, ⟨_, rfl, Nat.zero_le _, h0⟩, ?_⟩
  rintro i m σ H ⟨rfl, hi, p⟩
  by_cases hlt : i < z.cps.size
  · refine .inr ⟨hlt, Pv (i + 1), fun σ' H' p' => ⟨z.cps.size - (i + 1), by omega, rfl, hlt, p'⟩, fun x H' y => ?_⟩
    obtain ⟨e, c, hc, ex⟩ := y
    subst e ex
    exact hs i c σ _ hc hlt p
  · have e : i = z.cps.size := by omega
    subst e
    exact .inl ⟨Nat.le_refl _, hd σ H p⟩
end Ly
set_option Elab.async false
set_option linter.all false
set_option maxRecDepth 100000
set_option maxHeartbeats 2000000
namespace Ly
open PySem PySem.Spec PyProof.Rows L2 Evl
abbrev nums (ds : List Nat) : List V := ds.map fun (d : Nat) => V.int d
def lif (c d n : Nat) : Nat := if d ≤ n then n + c else n
theorem Tm.vmap_len (g : Nat → Nat → Nat) (t : Tm) (d : Nat) : (t.vmap g d).enc.length = t.enc.length := by
  rw [← Tm.deps_len _ d, Tm.deps_vmap, Tm.deps_len]
theorem nums_at {ds : List Nat} {i : Nat} {y : V} (h : (nums ds)[i]? = some y) : ∃ d, ds[i]? = some d ∧ y = .int (d : Int) := by
  rw [List.getElem?_map] at h
  cases e : ds[i]? with
  | none => rw [e] at h; cases h
  | some d => rw [e] at h; exact ⟨d, rfl, (Option.some.inj h).symm⟩
def Tm.put (u : Tm) : Nat → Tm → Tm
  | d, .var n => if n < d then .var n else if n = d then u.vmap (lif d) 0 else .var (n - 1)
  | d, .lam b => .lam (Tm.put u (d + 1) b)
  | d, .app f a => .app (Tm.put u d f) (Tm.put u d a)
def pvs (u : Tm) (v : V) (d : Nat) : List V := match v with
  | .int n => (Tm.put u d (.var n.toNat)).enc
  | v => [v]
theorem Tm.enc_put (u : Tm) : ∀ (t : Tm) (d : Nat), (Tm.put u d t).enc = (List.zipWith (pvs u) t.enc (t.deps d)).flatten
  | .var n, d => by simp [Tm.deps, Tm.enc, pvs]
  | .lam b, d => by simp [Tm.put, Tm.deps, Tm.enc, Tm.enc_put u b, pvs]
  | .app f a, d => by
    have hl : f.enc.length = (f.deps d).length := (Tm.deps_len f d).symm
    simp only [Tm.put, Tm.deps, Tm.enc, List.zipWith_cons_cons, Tm.enc_put u f, Tm.enc_put u a, List.zipWith_append hl, List.flatten_cons, List.flatten_append]
    rfl
theorem pvs_low {u : Tm} {n d : Nat} (h : n < d) : pvs u (.int n) d = [.int n] := by
  simp only [pvs, Tm.put, Int.toNat_natCast]
  rw [if_pos h]
  rfl
theorem pvs_at {u : Tm} {d : Nat} : pvs u (.int (d : Int)) d = (u.vmap (lif d) 0).enc := by
  simp only [pvs, Tm.put, Int.toNat_natCast]
  rw [if_neg (Nat.lt_irrefl d)]
  rfl
theorem pvs_high {u : Tm} {n d : Nat} (h : d < n) : pvs u (.int n) d = [.int ((n : Int) - 1)] := by
  simp only [pvs, Tm.put, Int.toNat_natCast]
  rw [if_neg (by omega), if_neg (by omega)]
  have e : ((n - 1 : Nat) : Int) = (n : Int) - 1 := by omega
  show [V.int ((n - 1 : Nat) : Int)] = _
  rw [e]
theorem pvs_len (u : Tm) (v : V) (d : Nat) : (pvs u v d).length ≤ u.enc.length := by
  have pos := List.length_pos_iff.mpr u.enc_ne
  unfold pvs
  split
  · simp only [Tm.put]
    split
    · exact pos
    · split
      · rw [Tm.vmap_len]
        exact Nat.le_refl _
      · exact pos
  · exact pos
theorem flat_len {α : Type} {M : Nat} : ∀ {xs : List (List α)}, (∀ x ∈ xs, x.length ≤ M) → xs.flatten.length ≤ xs.length * M
  | [], _ => by simp
  | x :: xs, h => by
    have h1 := h x List.mem_cons_self
    have h2 := flat_len (xs := xs) fun y hy => h y (List.mem_cons_of_mem _ hy)
    simp only [List.flatten_cons, List.length_append, List.length_cons, Nat.succ_mul]
    omega
theorem zip_mem_len {u : Tm} : ∀ {xs : List V} {ds : List Nat}, ∀ x ∈ List.zipWith (pvs u) xs ds, x.length ≤ u.enc.length
  | [], _, x, h => by simp at h
  | _ :: _, [], x, h => by simp at h
  | a :: xs, d :: ds, x, h => by
    rw [List.zipWith_cons_cons] at h
    rcases List.mem_cons.mp h with e | h
    · rw [e]
      exact pvs_len u a d
    · exact zip_mem_len x h
theorem flat_take_le {α : Type} (xs : List (List α)) (i : Nat) : (xs.take i).flatten.length ≤ xs.flatten.length := by
  have e : xs.flatten = (xs.take i).flatten ++ (xs.drop i).flatten := by rw [← List.flatten_append, List.take_append_drop]
  rw [e, List.length_append]
  omega
theorem Tm.put_len (u t : Tm) (d : Nat) : (Tm.put u d t).enc.length ≤ t.enc.length * u.enc.length := by
  rw [Tm.enc_put]
  refine Nat.le_trans (flat_len zip_mem_len) (Nat.mul_le_mul_right _ ?_)
  rw [List.length_zipWith]
  omega
theorem fits_of {t : Tm} (h : t.vars 1000000) (l : t.enc.length ≤ 1000) : fitsV t.enc = true := by
  unfold fitsV
  rw [ok_vars h, decide_eq_true l]
  rfl
def rAddZ : R2 := fun x y H Q => ∃ i j, x = .str i ∧ y = .str j ∧ i.length + j.length ≤ sizeLine ∧ Q (.str (i ++ j)) H
theorem op_addZ {X : Cx} : OpR X (binaryOp .Add) rAddZ := op_add_str
def rLenZ : List V → Hp → VK → Prop := fun xs H Q => ∃ z, xs = [.str z] ∧ z.length ≤ sizeLine ∧ Q (.int z.length) H
def pl (p : List Nat) : Str := ⟨p.toArray⟩
theorem pl_len (p : List Nat) : (pl p).length = p.length := by simp [pl, Str.length]
theorem pl_app (p q : List Nat) : pl p ++ pl q = pl (p ++ q) := by
  show Str.mk (p.toArray ++ q.toArray) = ⟨(p ++ q).toArray⟩
  simp
theorem pl_b : ("b" : Str) = pl [98] := by decide +kernel
theorem pl_f : ("f" : Str) = pl [102] := by decide +kernel
theorem pl_a : ("a" : Str) = pl [97] := by decide +kernel
theorem pl_e : ("" : Str) = pl [] := by decide +kernel
theorem pl_inj {p q : List Nat} (h : pl p = pl q) : p = q := by
  have e := congrArg Str.cps h
  simpa [pl] using e
abbrev plcs (ps : List (List Nat)) : List V := ps.map fun p => V.str (pl p)
section
variable {H : Hp} {Q : VK}
theorem w_addZ {p q : List Nat} (z : p.length + q.length ≤ 16000000) (h : Q (.str (pl (p ++ q))) H) : rAddZ (.str (pl p)) (.str (pl q)) H Q :=
  ⟨pl p, pl q, rfl, rfl, by rw [pl_len, pl_len]; exact ly_sz z, by rw [pl_app]; exact h⟩
theorem w_addZb {p : List Nat} (z : p.length ≤ 15000000) (h : Q (.str (pl (p ++ [98]))) H) : rAddZ (.str (pl p)) (.str "b") H Q := by
  rw [pl_b]
  exact w_addZ (by simp; omega) h
theorem w_addZf {p : List Nat} (z : p.length ≤ 15000000) (h : Q (.str (pl (p ++ [102]))) H) : rAddZ (.str (pl p)) (.str "f") H Q := by
  rw [pl_f]
  exact w_addZ (by simp; omega) h
theorem w_addZa {p : List Nat} (z : p.length ≤ 15000000) (h : Q (.str (pl (p ++ [97]))) H) : rAddZ (.str (pl p)) (.str "a") H Q := by
  rw [pl_a]
  exact w_addZ (by simp; omega) h
theorem w_lenZ {p : List Nat} (z : p.length ≤ 16000000) (h : Q (.int p.length) H) : rLenZ [.str (pl p)] H Q :=
  ⟨pl p, rfl, by rw [pl_len]; exact ly_sz z, by rw [pl_len]; exact h⟩
end
/-- the letters' order: where they differ, the function comes first; else the shorter -/
def before : List Nat → List Nat → Bool
  | a :: x, b :: y => if a = b then before x y else decide (a = 102)
  | [], y => decide (0 < y.length)
  | _ :: _, [] => false
theorem before_self : ∀ x : List Nat, before x x = false
  | [] => rfl
  | a :: x => by simp [before, before_self x]
theorem before_app : ∀ (p x y : List Nat), before (p ++ x) (p ++ y) = before x y
  | [], _, _ => rfl
  | a :: p, x, y => by simp [before, before_app p x y]
def RB (x y : List Nat) : Prop := before x y = true ∧ before y x = false
theorem RB.app {p x y : List Nat} (h : RB x y) : RB (p ++ x) (p ++ y) := ⟨by rw [before_app]; exact h.1, by rw [before_app]; exact h.2⟩
theorem RB.longer {p s : List Nat} {c : Nat} : RB p (p ++ c :: s) := by
  have h : RB [] (c :: s) := ⟨by simp [before], rfl⟩
  have := RB.app (p := p) h
  rwa [List.append_nil] at this
theorem RB.fa {p s u : List Nat} : RB (p ++ 102 :: s) (p ++ 97 :: u) := RB.app ⟨rfl, rfl⟩
def Tm.pls : List Nat → Tm → List (List Nat)
  | p, .var _ => [p]
  | p, .lam b => p :: b.pls (p ++ [98])
  | p, .app f a => p :: (f.pls (p ++ [102]) ++ a.pls (p ++ [97]))
theorem Tm.pls_len : ∀ (t : Tm) (p : List Nat), (t.pls p).length = t.enc.length
  | .var _, _ => rfl
  | .lam b, p => by simp [Tm.pls, Tm.enc, Tm.pls_len b]
  | .app f a, p => by simp [Tm.pls, Tm.enc, Tm.pls_len f, Tm.pls_len a]
theorem Tm.pls_pre : ∀ (t : Tm) {p q : List Nat}, q ∈ t.pls p → ∃ s, q = p ++ s ∧ s.length < t.enc.length
  | .var _, p, q, h => ⟨[], by simpa [Tm.pls] using h, by simp [Tm.enc]⟩
  | .lam b, p, q, h => by
    rcases List.mem_cons.mp h with e | h
    · exact ⟨[], by simp [e], by simp [Tm.enc]⟩
    · obtain ⟨s, e, hl⟩ := Tm.pls_pre b h
      exact ⟨98 :: s, by rw [e]; simp, by simp [Tm.enc]; omega⟩
  | .app f a, p, q, h => by
    rcases List.mem_cons.mp h with e | h
    · exact ⟨[], by simp [e], by simp [Tm.enc]⟩
    · rcases List.mem_append.mp h with h | h
      · obtain ⟨s, e, hl⟩ := Tm.pls_pre f h
        exact ⟨102 :: s, by rw [e]; simp, by simp [Tm.enc]; omega⟩
      · obtain ⟨s, e, hl⟩ := Tm.pls_pre a h
        exact ⟨97 :: s, by rw [e]; simp, by simp [Tm.enc]; omega⟩
theorem Tm.pls_order : ∀ (t : Tm) (p : List Nat), (t.pls p).Pairwise RB
  | .var _, p => List.pairwise_singleton _ _
  | .lam b, p => List.pairwise_cons.mpr ⟨fun q h => by
      obtain ⟨s, e, _⟩ := Tm.pls_pre b h
      rw [e, List.append_assoc]
      exact RB.longer, Tm.pls_order b _⟩
  | .app f a, p => List.pairwise_cons.mpr ⟨fun q h => by
      rcases List.mem_append.mp h with h | h
      · obtain ⟨s, e, _⟩ := Tm.pls_pre f h
        rw [e, List.append_assoc]
        exact RB.longer
      · obtain ⟨s, e, _⟩ := Tm.pls_pre a h
        rw [e, List.append_assoc]
        exact RB.longer, List.pairwise_append.mpr ⟨Tm.pls_order f _, Tm.pls_order a _, fun x hx y hy => by
      obtain ⟨s, e, _⟩ := Tm.pls_pre f hx
      obtain ⟨u, e2, _⟩ := Tm.pls_pre a hy
      rw [e, e2, List.append_assoc, List.append_assoc]
      exact RB.fa⟩⟩
theorem before_at {qs : List (List Nat)} (h : qs.Pairwise RB) {i j : Nat} {x y : List Nat} (hx : qs[i]? = some x) (hy : qs[j]? = some y) : before x y = decide (i < j) := by
  obtain ⟨li, ei⟩ := List.getElem?_eq_some_iff.mp hx
  obtain ⟨lj, ej⟩ := List.getElem?_eq_some_iff.mp hy
  rcases Nat.lt_trichotomy i j with g | g | g
  · have := List.pairwise_iff_getElem.mp h i j li lj g
    rw [ei, ej] at this
    rw [this.1, decide_eq_true g]
  · subst g
    have e : x = y := by rw [← ei, ← ej]
    rw [e, before_self, decide_eq_false (by omega)]
  · have := List.pairwise_iff_getElem.mp h j i lj li g
    rw [ei, ej] at this
    rw [this.2, decide_eq_false (by omega)]
def plss : List Tm → List (List Nat) → List (List Nat)
  | t :: ts, d :: ds => t.pls d ++ plss ts ds
  | _, _ => []
/-- in the midst of a walk that finds the places: what is left are the terms ts, whose places wait (the last one first) -/
def PInv (t : Tm) (i : Nat) (found ds : List (List Nat)) : Prop := ∃ ts : List Tm, t.enc.drop i = encs ts ∧ ts.length = ds.length ∧ t.pls [] = found ++ plss ts ds.reverse
theorem PInv.start (t : Tm) : PInv t 0 [] [[]] := ⟨[t], by simp [encs], rfl, by simp [plss]⟩
theorem PInv.done {t : Tm} {found ds : List (List Nat)} (h : PInv t t.enc.length found ds) : found = t.pls [] := by
  obtain ⟨ts, h1, h2, h3⟩ := h
  rw [List.drop_length] at h1
  have e := encs_nil h1.symm
  subst e
  rw [h3]
  simp [plss]
theorem PInv.step {t : Tm} {i : Nat} {found ds : List (List Nat)} {v : V} (h : PInv t i found ds) (hv : t.enc[i]? = some v) : ∃ r d, ds = r ++ [d] ∧
    ((∃ n : Nat, v = .int n ∧ PInv t (i + 1) (found ++ [d]) r) ∨ (v = .str "lam" ∧ PInv t (i + 1) (found ++ [d]) (r ++ [d ++ [98]])) ∨ (v = .str "app" ∧ PInv t (i + 1) (found ++ [d]) (r ++ [d ++ [97]] ++ [d ++ [102]]))) := by
  obtain ⟨ts, h1, h2, h3⟩ := h
  rw [drop_at hv] at h1
  match ts, h1, h2, h3 with
  | [], h1, _, _ => cases h1
  | t1 :: r1, h1, h2, h3 =>
    have hne : ds ≠ [] := fun e => by
      rw [e] at h2
      cases h2
    refine ⟨ds.dropLast, ds.getLast hne, (List.dropLast_concat_getLast hne).symm, ?_⟩
    generalize hr : ds.dropLast = r at *
    generalize hd : ds.getLast hne = d at *
    have hds : ds = r ++ [d] := by rw [← hr, ← hd]; exact (List.dropLast_concat_getLast hne).symm
    subst hds
    rw [List.reverse_append] at h3
    have h3 : t.pls [] = found ++ (t1.pls d ++ plss r1 r.reverse) := h3
    have hl : r1.length = r.length := by simpa using h2
    rw [encs_cons] at h1
    cases t1 with
    | var n =>
      have h1 : v :: t.enc.drop (i + 1) = V.int n :: encs r1 := h1
      injection h1 with e1 e2
      exact .inl ⟨n, e1, r1, e2, hl, by rw [h3]; simp [Tm.pls]⟩
    | lam b =>
      have h1 : v :: t.enc.drop (i + 1) = V.str "lam" :: (b.enc ++ encs r1) := h1
      injection h1 with e1 e2
      exact .inr (.inl ⟨e1, b :: r1, by rw [e2, encs_cons], by simp [hl], by rw [h3, List.reverse_append]; simp [Tm.pls, plss]⟩)
    | app f a =>
      have h1 : v :: t.enc.drop (i + 1) = V.str "app" :: (f.enc ++ a.enc ++ encs r1) := h1
      injection h1 with e1 e2
      exact .inr (.inr ⟨e1, f :: a :: r1, by rw [e2, encs_cons, encs_cons, List.append_assoc], by simp [hl], by rw [h3, List.reverse_append, List.reverse_append]; simp [Tm.pls, plss]⟩)
theorem drop_get {xs r : List V} {i : Nat} {v : V} (h : xs.drop i = v :: r) : xs[i]? = some v ∧ xs.drop (i + 1) = r := by
  have e : (xs.drop i)[0]? = some v := by rw [h]; rfl
  rw [List.getElem?_drop, Nat.add_zero] at e
  refine ⟨e, ?_⟩
  have := drop_at e
  rw [h] at this
  injection this with _ e2
  exact e2.symm
def Tm.sub : Tm → List Nat → Option (Nat × Tm)
  | t, [] => some (0, t)
  | .lam b, c :: p => if c = 98 then (b.sub p).map (fun r => (r.1 + 1, r.2)) else none
  | .app f a, c :: p => if c = 102 then (f.sub p).map (fun r => (r.1 + 1, r.2)) else if c = 97 then (a.sub p).map (fun r => (r.1 + (1 + f.enc.length), r.2)) else none
  | .var _, _ :: _ => none
theorem Tm.sub_nil (t : Tm) : t.sub [] = some (0, t) := by cases t <;> rfl
/-- a part stands in the term where sub says, and its place in the list there -/
theorem Tm.sub_at : ∀ (t : Tm) (p q : List Nat) {i : Nat} {u : Tm}, t.sub p = some (i, u) → (∃ post, t.enc.drop i = u.enc ++ post) ∧ (t.pls q)[i]? = some (q ++ p)
  | t, [], q, i, u, h => by
    rw [Tm.sub_nil] at h
    cases h
    refine ⟨⟨[], by simp⟩, ?_⟩
    cases t <;> simp [Tm.pls]
  | .lam b, c :: p, q, i, u, h => by
    by_cases hc : c = 98
    · subst hc
      simp only [Tm.sub, if_pos] at h
      obtain ⟨⟨j, u'⟩, e1, e2⟩ := Option.map_eq_some_iff.mp h
      cases e2
      obtain ⟨⟨post, hp⟩, hl⟩ := Tm.sub_at b p (q ++ [98]) e1
      refine ⟨⟨post, by simpa [Tm.enc] using hp⟩, ?_⟩
      simp only [Tm.pls, List.getElem?_cons_succ, hl]
      simp
    · simp [Tm.sub, hc] at h
  | .app f a, c :: p, q, i, u, h => by
    by_cases hc : c = 102
    · subst hc
      simp only [Tm.sub, if_pos] at h
      obtain ⟨⟨j, u'⟩, e1, e2⟩ := Option.map_eq_some_iff.mp h
      cases e2
      obtain ⟨⟨post, hp⟩, hl⟩ := Tm.sub_at f p (q ++ [102]) e1
      have lt : j < (f.pls (q ++ [102])).length := (List.getElem?_eq_some_iff.mp hl).1
      have lt2 : j < f.enc.length := by rwa [Tm.pls_len] at lt
      refine ⟨⟨post ++ a.enc, ?_⟩, ?_⟩
      · simp only [Tm.enc, List.drop_succ_cons]
        rw [List.drop_append_of_le_length (Nat.le_of_lt lt2), hp, List.append_assoc]
      · simp only [Tm.pls, List.getElem?_cons_succ]
        rw [List.getElem?_append_left lt, hl]
        simp
    · by_cases hc2 : c = 97
      · subst hc2
        simp only [Tm.sub, if_pos] at h
        obtain ⟨⟨j, u'⟩, e1, e2⟩ := Option.map_eq_some_iff.mp h
        cases e2
        obtain ⟨⟨post, hp⟩, hl⟩ := Tm.sub_at a p (q ++ [97]) e1
        refine ⟨⟨post, ?_⟩, ?_⟩
        · have e : j + (1 + f.enc.length) = (f.enc.length + j) + 1 := by omega
          simp only [Tm.enc]
          rw [e, List.drop_succ_cons, List.drop_append, List.drop_of_length_le (by omega)]
          simpa using hp
        · have e : j + (1 + f.enc.length) = (f.enc.length + j) + 1 := by omega
          simp only [Tm.pls]
          rw [e, List.getElem?_cons_succ, List.getElem?_append_right (by rw [Tm.pls_len]; omega), Tm.pls_len]
          have e2 : f.enc.length + j - f.enc.length = j := by omega
          rw [e2, hl]
          simp
      · simp [Tm.sub, hc, hc2] at h
  | .var _, c :: p, q, i, u, h => by simp [Tm.sub] at h
theorem Tm.sub_of : ∀ (t : Tm) (q : List Nat) {r : List Nat}, r ∈ t.pls q → ∃ s i u, r = q ++ s ∧ t.sub s = some (i, u)
  | .var _, q, r, h => ⟨[], 0, _, by simpa [Tm.pls] using h, Tm.sub_nil _⟩
  | .lam b, q, r, h => by
    rcases List.mem_cons.mp h with e | h
    · exact ⟨[], 0, _, by simp [e], Tm.sub_nil _⟩
    · obtain ⟨s, i, u, e, hs⟩ := Tm.sub_of b _ h
      exact ⟨98 :: s, i + 1, u, by rw [e]; simp, by simp [Tm.sub, hs]⟩
  | .app f a, q, r, h => by
    rcases List.mem_cons.mp h with e | h
    · exact ⟨[], 0, _, by simp [e], Tm.sub_nil _⟩
    · rcases List.mem_append.mp h with h | h
      · obtain ⟨s, i, u, e, hs⟩ := Tm.sub_of f _ h
        exact ⟨102 :: s, i + 1, u, by rw [e]; simp, by simp [Tm.sub, hs]⟩
      · obtain ⟨s, i, u, e, hs⟩ := Tm.sub_of a _ h
        exact ⟨97 :: s, i + (1 + f.enc.length), u, by rw [e]; simp, by simp [Tm.sub, hs]⟩
/-- loops over a text -/
theorem for_str {z : Str} {g : TG} {tb : TS} {D : Ends} {σ : L2.St} {H : Hp} (Pv : Nat → L2.St → Hp → Prop) (h0 : Pv 0 σ H)
    (hs : ∀ i c σ H, z.cps[i]? = some c → Pv i σ H → g (.str ⟨#[c]⟩) σ H fun σ2 H2 => tb { D with nx := Pv (i + 1), ct := Pv (i + 1), bk := D.nx } σ2 H2) (hd : ∀ σ H, Pv z.cps.size σ H → D.nx σ H) : ForB (Its z) g tb D σ H := by
  refine ⟨fun i m σ H => m = z.cps.size - i ∧ i ≤ z.cps.size ∧ Pv i σ H, ⟨_, rfl, Nat.zero_le _, h0⟩, ?_⟩
  rintro i m σ H ⟨rfl, hi, p⟩
  by_cases hlt : i < z.cps.size
  · refine .inr ⟨hlt, Pv (i + 1), fun σ' H' p' => ⟨z.cps.size - (i + 1), by omega, rfl, hlt, p'⟩, fun x H' y => ?_⟩
    obtain ⟨e, c, hc, ex⟩ := y
    subst e ex
    exact hs i c σ _ hc p
  · have e : i = z.cps.size := by omega
    subst e
    exact .inl ⟨Nat.le_refl _, hd σ H p⟩
theorem w_it {te : TE} {σ : L2.St} {H : Hp} {R : It → Hp → Prop} (h : te σ H fun v H1 => ∃ x, v = .str x ∧ R (Its x) H1) : iStr te σ H R := h
theorem w_it1 {z : Str} {B : Str → Prop} (q : B z) : ∃ x, V.str z = .str x ∧ B x := ⟨z, rfl, q⟩
/-- in the midst of a walk to a part's end: the terms that are missing -/
def EInv (xs : List V) (fin e : Nat) (ts : List Tm) : Prop := ∃ post, xs.drop e = encs ts ++ post ∧ e + (encs ts).length = fin
theorem EInv.start {xs post : List V} {s : Nat} {u : Tm} (h : xs.drop s = u.enc ++ post) : EInv xs (s + u.enc.length) s [u] := ⟨post, by simpa [encs] using h, by simp [encs]⟩
theorem EInv.step {xs : List V} {fin e : Nat} {t : Tm} {ts : List Tm} (h : EInv xs fin e (t :: ts)) : e < fin ∧ ∃ v ts', xs[e]? = some v ∧ EInv xs fin (e + 1) ts' ∧
    ((∃ n : Nat, v = .int n ∧ ts'.length = ts.length) ∨ (v = .str "lam" ∧ ts'.length = ts.length + 1) ∨ (v = .str "app" ∧ ts'.length = ts.length + 2)) := by
  obtain ⟨post, h1, h2⟩ := h
  rw [encs_cons] at h1 h2
  have pos := List.length_pos_iff.mpr t.enc_ne
  rw [List.length_append] at h2
  refine ⟨by omega, ?_⟩
  cases t with
  | var n =>
    have g := drop_get (i := e) (v := .int n) (r := encs ts ++ post) (by rw [h1]; rfl)
    exact ⟨_, ts, g.1, ⟨post, g.2, by simp [Tm.enc] at h2; omega⟩, .inl ⟨n, rfl, rfl⟩⟩
  | lam b =>
    have g := drop_get (i := e) (v := .str "lam") (r := b.enc ++ encs ts ++ post) (by rw [h1]; simp [Tm.enc])
    exact ⟨_, b :: ts, g.1, ⟨post, by rw [g.2, encs_cons], by rw [encs_cons]; simp [Tm.enc] at h2 ⊢; omega⟩, .inr (.inl ⟨rfl, rfl⟩)⟩
  | app f a =>
    have g := drop_get (i := e) (v := .str "app") (r := f.enc ++ (a.enc ++ encs ts) ++ post) (by rw [h1]; simp [Tm.enc])
    exact ⟨_, f :: a :: ts, g.1, ⟨post, by rw [g.2, encs_cons, encs_cons], by rw [encs_cons, encs_cons]; simp [Tm.enc] at h2 ⊢; omega⟩, .inr (.inr ⟨rfl, rfl⟩)⟩
theorem w_sl {r : V → Option Int → Option Int → Hp → VK → Prop} {te : TE} {tl th : TO} {σ : L2.St} {H : Hp} {Q : VK} (h : te σ H fun x H1 => tl σ H1 fun l H2 => th σ H2 fun u H3 => r x l u H3 Q) : L2.tSl r te tl th σ H Q := h
theorem w_noP {σ : L2.St} {H : Hp} {Q : Option Int → Hp → Prop} (h : Q none H) : tNoPart σ H Q := h
theorem w_part {t : TE} {σ : L2.St} {H : Hp} {Q : Option Int → Hp → Prop} (h : t σ H fun x H1 => ∃ i, x = .int i ∧ Q (some i) H1) : tPart t σ H Q := h
theorem w_part1 {j : Int} {B : Int → Prop} (h : B j) : ∃ i, V.int j = .int i ∧ B i := ⟨j, rfl, h⟩
theorem cut_lo (xs : List V) (i : Nat) : cutV xs none (some (i : Int)) = xs.take i := by
  unfold cutV
  rw [HT.sIx_nat, HT.sIx_none]
  simp
theorem cut_hi (xs : List V) (i : Nat) : cutV xs (some (i : Int)) none = xs.drop i := by
  unfold cutV
  rw [HT.sIx_nat, HT.sIx_none]
  by_cases h : i ≤ xs.length
  · rw [Nat.min_eq_left h]
    exact List.take_of_length_le (by simp)
  · rw [Nat.min_eq_right (by omega), List.drop_length, List.drop_of_length_le (by omega)]
    simp
def dueV (t v : Tm) (i : Nat) (u : Tm) : List V := t.enc.take i ++ v.enc ++ t.enc.drop (i + u.enc.length)
theorem cut_mid {xs post : List V} {i : Nat} {u : Tm} (h : xs.drop i = u.enc ++ post) : cutV xs (some (i : Int)) (some ((i + u.enc.length : Nat) : Int)) = u.enc := by
  have hl := congrArg List.length h
  rw [List.length_drop, List.length_append] at hl
  have pos := List.length_pos_iff.mpr u.enc_ne
  unfold cutV
  rw [HT.sIx_nat, HT.sIx_nat, Nat.min_eq_left (by omega), Nat.min_eq_left (by omega), h]
  rw [List.take_append_of_le_length (by omega)]
  exact List.take_of_length_le (by omega)
def Small (qs : List (List Nat)) : Prop := ∀ q ∈ qs, ∀ c ∈ q, c < 200
theorem Tm.pls_small : ∀ (t : Tm) (p : List Nat), (∀ c ∈ p, c < 200) → Small (t.pls p)
  | .var _, p, h, q, hq => by
    have e : q = p := by simpa [Tm.pls] using hq
    rw [e]
    exact h
  | .lam b, p, h, q, hq => by
    rcases List.mem_cons.mp hq with e | hq
    · rw [e]
      exact h
    · exact Tm.pls_small b _ (fun c hc => by
        rcases List.mem_append.mp hc with hc | hc
        · exact h c hc
        · rw [List.mem_singleton.mp hc]; decide) q hq
  | .app f a, p, h, q, hq => by
    rcases List.mem_cons.mp hq with e | hq
    · rw [e]
      exact h
    · rcases List.mem_append.mp hq with hq | hq
      · exact Tm.pls_small f _ (fun c hc => by
          rcases List.mem_append.mp hc with hc | hc
          · exact h c hc
          · rw [List.mem_singleton.mp hc]; decide) q hq
      · exact Tm.pls_small a _ (fun c hc => by
          rcases List.mem_append.mp hc with hc | hc
          · exact h c hc
          · rw [List.mem_singleton.mp hc]; decide) q hq
theorem dp_pl {K : PySem.W.Frag} {H : Hp} : ∀ qs : List (List Nat), DpAll K H (plcs qs) ((plcs qs).map dv)
  | [] => .nil
  | _ :: qs => .cons (.str _) (dp_pl qs)
theorem lay_pl : ∀ {qs : List (List Nat)}, Small qs → PyData.canLayAll0 ((plcs qs).map dv) = true
  | [], _ => rfl
  | q :: qs, h => by
    have ih := lay_pl (qs := qs) fun x hx => h x (List.mem_cons_of_mem _ hx)
    have hx : (dv (V.str (pl q))).canLay0 = true := by
      show PyData.strOk (pl q) = true
      unfold PyData.strOk
      rw [Array.all_eq_true]
      intro i hi
      have hm : (pl q).cps[i] ∈ q := by
        have : (pl q).cps[i] ∈ (pl q).cps := Array.getElem_mem hi
        simpa [pl] using this
      have := h q List.mem_cons_self _ hm
      simp
      omega
    show ((dv (V.str (pl q))).canLay0 && PyData.canLayAll0 ((plcs qs).map dv)) = true
    rw [hx, ih]
    rfl
theorem eqv_pl : ∀ qs : List (List Nat), PyData.eqvAll ((plcs qs).map dv) ((plcs qs).map dv) = true
  | [] => by simp [PyData.eqvAll]
  | q :: qs => by
    have ih := eqv_pl qs
    show PyData.eqvAll (dv (V.str (pl q)) :: (plcs qs).map dv) (dv (V.str (pl q)) :: (plcs qs).map dv) = true
    rw [PyData.eqvAll, ih]
    simp [dv, PyData.eqv]
theorem shaped_pl {qs : List (List Nat)} (h : Small qs) : SeqAt.shaped (.list ((plcs qs).map dv)) = true := by
  have h1 : (PyData.list ((plcs qs).map dv)).canLay0 = true := lay_pl h
  have h2 : (PyData.list ((plcs qs).map dv)).depth ≤ 2 := by
    have h := depth_all (plcs qs)
    simp only [PyData.depth]
    omega
  unfold SeqAt.shaped
  rw [h1, Bool.true_and]
  exact decide_eq_true (by omega)
theorem w_neP {K : PySem.W.Frag} {H : Hp} {Q : VK} {a b : Addr} {qs : List (List Nat)} (h : H a = some (.lst (plcs qs))) (k : H b = some (.lst (plcs qs))) (o : Small qs) (q : Q (.bl false) H) : rNeD K (.ref a) (.ref b) H Q :=
  ⟨_, _, .lst (SqL.of h) (dp_pl qs), .lst (SqL.of k) (dp_pl qs), shaped_pl o, shaped_pl o, by rw [PyData.eqv, eqv_pl]; exact q⟩
theorem same_at {qs : List (List Nat)} (o : qs.Pairwise RB) {i j : Nat} {r : List Nat} (hi : qs[i]? = some r) (hj : qs[j]? = some r) : i = j := by
  have b := before_at o hi hj
  have b2 := before_at o hj hi
  rw [before_self] at b b2
  have g1 := of_decide_eq_false b.symm
  have g2 := of_decide_eq_false b2.symm
  omega
theorem inV_pl (p : List Nat) : ∀ qs : List (List Nat), inV (.str (pl p)) (plcs qs) = decide (p ∈ qs)
  | [] => by simp [inV]
  | q :: qs => by
    have ih := inV_pl p qs
    unfold inV at ih ⊢
    have e : eqV (.str (pl q)) (.str (pl p)) = decide (p = q) := by
      show (pl q == pl p) = _
      by_cases h : p = q
      · subst h; simp
      · rw [decide_eq_false h]
        exact beq_eq_false_iff_ne.mpr fun e => h (pl_inj e).symm
    show (eqV (.str (pl q)) (.str (pl p)) || (plcs qs).any fun y => eqV y (.str (pl p))) = _
    rw [ih, e]
    simp
theorem flat_pl (qs : List (List Nat)) : (plcs qs).all flatV = true := by
  simp [flatV]
theorem w_inS {K : PySem.W.Frag} {H : Hp} {Q : VK} {p : Addr} {r : List Nat} {qs : List (List Nat)} (h : H p = some (.lst (plcs qs))) (q : Q (.bl (decide (r ∈ qs))) H) : rIn K false (.str (pl r)) (.ref p) H Q :=
  ⟨p, _, rfl, .inl (SqL.of h), rfl, flat_pl qs, by rw [inV_pl]; exact q⟩
theorem w_indexS {K : PySem.W.Frag} {H : Hp} {Q : VK} {p : Addr} {r : List Nat} {qs : List (List Nat)} {i : Nat} (h : H p = some (.lst (plcs qs))) (o : qs.Pairwise RB) (hi : qs[i]? = some r) (q : Q (.int (i : Int)) H) : rIndex K (.ref p) [.str (pl r)] H Q := by
  refine ⟨p, _, _, i, .str (pl r), rfl, rfl, SqL.of h, rfl, flat_pl qs, by rw [List.getElem?_map, hi]; rfl, beq_self_eq_true (pl r), fun m z hm hz => ?_, q⟩
  rw [List.getElem?_map] at hz
  cases e : qs[m]? with
  | none => rw [e] at hz; cases hz
  | some r2 =>
    rw [e] at hz
    cases hz
    show (pl r2 == pl r) = false
    refine beq_eq_false_iff_ne.mpr fun e2 => ?_
    have e3 := pl_inj e2
    subst e3
    have := same_at o e hi
    omega
theorem at_drop {xs r : List V} {i : Nat} {v : V} (h : xs.drop i = v :: r) : xs[i]? = some v ∧ xs.drop (i + 1) = r := by
  constructor
  · have := congrArg (fun l => l[0]?) h
    simpa using this
  · have := congrArg List.tail h
    simpa using this
end Ly
set_option Elab.async false
set_option linter.all false
set_option maxRecDepth 100000
set_option maxHeartbeats 2000000
namespace Ly
open PySem PySem.Spec PyProof.Rows L2 Evl
/-- the term with v in place of the part at p -/
def Tm.rep (v : Tm) : Tm → List Nat → Tm
  | _, [] => v
  | .lam b, c :: p => if c = 98 then .lam (Tm.rep v b p) else .lam b
  | .app f a, c :: p => if c = 102 then .app (Tm.rep v f p) a else if c = 97 then .app f (Tm.rep v a p) else .app f a
  | .var n, _ :: _ => .var n
theorem Tm.rep_nil (v t : Tm) : Tm.rep v t [] = v := by cases t <;> rfl
theorem Tm.sub_lt {t : Tm} {p : List Nat} {i : Nat} {u : Tm} (h : t.sub p = some (i, u)) : i + u.enc.length ≤ t.enc.length := by
  obtain ⟨⟨post, e⟩, _⟩ := Tm.sub_at t p [] h
  have hl := congrArg List.length e
  rw [List.length_drop, List.length_append] at hl
  have pos := List.length_pos_iff.mpr u.enc_ne
  omega
theorem Tm.rep_enc (v : Tm) : ∀ (t : Tm) (p : List Nat) {i : Nat} {u : Tm}, t.sub p = some (i, u) → (Tm.rep v t p).enc = dueV t v i u
  | t, [], i, u, h => by
    rw [Tm.sub_nil] at h
    cases h
    rw [Tm.rep_nil]
    simp [dueV]
  | .lam b, c :: p, i, u, h => by
    by_cases hc : c = 98
    · subst hc
      simp only [Tm.sub, if_pos] at h
      obtain ⟨⟨j, u'⟩, e1, e2⟩ := Option.map_eq_some_iff.mp h
      cases e2
      have ih := Tm.rep_enc v b p e1
      simp only [Tm.rep, if_pos, Tm.enc, ih, dueV]
      have e : j + 1 + u'.enc.length = j + u'.enc.length + 1 := by omega
      rw [e, List.take_succ_cons, List.drop_succ_cons]
      simp
    · simp [Tm.sub, hc] at h
  | .app f a, c :: p, i, u, h => by
    by_cases hc : c = 102
    · subst hc
      simp only [Tm.sub, if_pos] at h
      obtain ⟨⟨j, u'⟩, e1, e2⟩ := Option.map_eq_some_iff.mp h
      cases e2
      have ih := Tm.rep_enc v f p e1
      have lt := Tm.sub_lt e1
      simp only [Tm.rep, if_pos, Tm.enc, ih, dueV]
      have e : j + 1 + u'.enc.length = j + u'.enc.length + 1 := by omega
      rw [e, List.take_succ_cons, List.drop_succ_cons, List.take_append_of_le_length (by omega), List.drop_append_of_le_length (by omega)]
      simp
    · by_cases hc2 : c = 97
      · subst hc2
        simp only [Tm.sub, if_pos] at h
        obtain ⟨⟨j, u'⟩, e1, e2⟩ := Option.map_eq_some_iff.mp h
        cases e2
        have ih := Tm.rep_enc v a p e1
        simp only [Tm.rep, Tm.enc, dueV]
        rw [if_neg (by decide), if_pos trivial]
        simp only [Tm.enc, ih, dueV]
        have e : j + (1 + f.enc.length) = (f.enc.length + j) + 1 := by omega
        have e3 : j + (1 + f.enc.length) + u'.enc.length = (f.enc.length + (j + u'.enc.length)) + 1 := by omega
        rw [e3, e, List.take_succ_cons, List.drop_succ_cons, List.take_length_add_append, List.drop_length_add_append]
        simp
      · simp [Tm.sub, hc, hc2] at h
  | .var _, c :: p, i, u, h => by simp [Tm.sub] at h
theorem Tm.rep_len {v t u : Tm} {p : List Nat} {i : Nat} (h : t.sub p = some (i, u)) : (Tm.rep v t p).enc.length + u.enc.length = t.enc.length + v.enc.length := by
  have lt := Tm.sub_lt h
  rw [Tm.rep_enc v t p h, dueV]
  simp only [List.length_append, List.length_take, List.length_drop]
  omega
def Tm.isLam : Tm → Bool
  | .lam _ => true
  | _ => false
/-- the redexes, in order; p: the place of the term itself -/
def Tm.reds : List Nat → Tm → List (List Nat)
  | _, .var _ => []
  | p, .lam b => b.reds (p ++ [98])
  | p, .app f a => (if f.isLam then [p] else []) ++ (f.reds (p ++ [102]) ++ a.reds (p ++ [97]))
/-- the same off the list of nodes and the list of places -/
def redL : List V → List (List Nat) → List (List Nat)
  | v :: xs, q :: qs => (if v = .str "app" ∧ xs[0]? = some (.str "lam") then [q] else []) ++ redL xs qs
  | _, _ => []
theorem str_ne1 : ¬ (("lam" : Str) = "app") := by decide +kernel
theorem str_ne2 : ¬ (("app" : Str) = "lam") := by decide +kernel
theorem Tm.head_lam (t : Tm) (post : List V) : ((t.enc ++ post)[0]? = some (.str "lam")) ↔ t.isLam = true := by
  cases t with
  | var n => simp [Tm.enc, Tm.isLam]
  | lam b => simp [Tm.enc, Tm.isLam]
  | app f a => simp [Tm.enc, Tm.isLam, str_ne2]
theorem redL_enc : ∀ (t : Tm) (p : List Nat) (post : List V) (qs : List (List Nat)), redL (t.enc ++ post) (t.pls p ++ qs) = t.reds p ++ redL post qs
  | .var n, p, post, qs => by simp [Tm.enc, Tm.pls, Tm.reds, redL]
  | .lam b, p, post, qs => by
    have ih := redL_enc b (p ++ [98]) post qs
    simp [Tm.enc, Tm.pls, Tm.reds, redL, ih, str_ne1]
  | .app f a, p, post, qs => by
    have h1 := redL_enc f (p ++ [102]) (a.enc ++ post) (a.pls (p ++ [97]) ++ qs)
    have h2 := redL_enc a (p ++ [97]) post qs
    have hl := Tm.head_lam f (a.enc ++ post)
    simp only [Tm.enc, Tm.pls, Tm.reds, List.cons_append, List.append_assoc, redL, h1, h2]
    by_cases hf : f.isLam = true
    · rw [if_pos ⟨trivial, hl.mpr hf⟩, if_pos hf]
    · rw [if_neg (fun z => hf (hl.mp z.2)), if_neg hf]
theorem redL_all (t : Tm) : redL t.enc (t.pls []) = t.reds [] := by
  have h := redL_enc t [] [] []
  simpa [redL] using h
/-- what has been found after i places -/
def redK (xs : List V) (qs : List (List Nat)) : Nat → List (List Nat)
  | 0 => []
  | i + 1 => redK xs qs i ++ (if xs[i]? = some (.str "app") ∧ xs[i + 1]? = some (.str "lam") then [qs.getD i []] else [])
theorem redK_drop {xs : List V} {qs : List (List Nat)} (h : qs.length = xs.length) : ∀ i, i ≤ xs.length → redK xs qs i ++ redL (xs.drop i) (qs.drop i) = redL xs qs
  | 0, _ => by simp [redK]
  | i + 1, hi => by
    have ih := redK_drop h i (by omega)
    have hx : i < xs.length := by omega
    have hq : i < qs.length := by omega
    rw [List.drop_eq_getElem_cons hx, List.drop_eq_getElem_cons hq] at ih
    rw [← ih]
    simp only [redK, redL]
    rw [List.append_assoc]
    congr 2
    have e1 : xs[i]? = some xs[i] := List.getElem?_eq_getElem hx
    have e2 : qs.getD i [] = qs[i] := by rw [List.getD_eq_getElem?_getD, List.getElem?_eq_getElem hq]; rfl
    have e3 : (xs.drop (i + 1))[0]? = xs[i + 1]? := by rw [List.getElem?_drop, Nat.add_zero]
    rw [e1, e2, e3]
    simp
theorem redK_all (t : Tm) : redK t.enc (t.pls []) t.enc.length = t.reds [] := by
  have h := redK_drop (Tm.pls_len t []) t.enc.length (Nat.le_refl _)
  rw [List.drop_length, redL_all] at h
  simpa [redL] using h
theorem redK_mem {xs : List V} {qs : List (List Nat)} {r : List Nat} : ∀ {i : Nat}, i ≤ qs.length → r ∈ redK xs qs i → r ∈ qs
  | 0, _, h => by simp [redK] at h
  | i + 1, hi, h => by
    rcases List.mem_append.mp h with h | h
    · exact redK_mem (by omega) h
    · split at h
      · rw [List.mem_singleton.mp h, List.getD_eq_getElem?_getD, List.getElem?_eq_getElem (by omega)]
        exact List.getElem_mem _
      · simp at h
/-- a redex's part -/
def Tm.Red (t : Tm) (p : List Nat) (i : Nat) (b u : Tm) : Prop := t.sub p = some (i, .app (.lam b) u)
theorem Tm.reds_sub : ∀ (t : Tm) (q : List Nat) {r : List Nat}, r ∈ t.reds q ↔ ∃ s i b u, r = q ++ s ∧ t.Red s i b u
  | .var n, q, r => by
    constructor
    · intro h
      simp [Tm.reds] at h
    · rintro ⟨s, i, b, u, _, h⟩
      cases s <;> simp [Tm.Red, Tm.sub] at h
  | .lam c, q, r => by
    have ih := Tm.reds_sub c (q ++ [98]) (r := r)
    constructor
    · intro h
      obtain ⟨s, i, b, u, e, hs⟩ := ih.mp h
      exact ⟨98 :: s, i + 1, b, u, by rw [e]; simp, by unfold Tm.Red at hs ⊢; simp [Tm.sub, hs]⟩
    · rintro ⟨s, i, b, u, e, hs⟩
      cases s with
      | nil => simp [Tm.Red, Tm.sub] at hs
      | cons c2 s =>
        unfold Tm.Red at hs
        simp only [Tm.sub] at hs
        by_cases hc : c2 = 98
        · subst hc
          simp only [if_pos] at hs
          obtain ⟨⟨j, u'⟩, e1, e2⟩ := Option.map_eq_some_iff.mp hs
          cases e2
          exact ih.mpr ⟨s, j, b, u, by rw [e]; simp, e1⟩
        · simp [hc] at hs
  | .app f a, q, r => by
    have i1 := Tm.reds_sub f (q ++ [102]) (r := r)
    have i2 := Tm.reds_sub a (q ++ [97]) (r := r)
    constructor
    · intro h
      rcases List.mem_append.mp h with h | h
      · cases f with
        | lam b =>
          simp [Tm.isLam] at h
          exact ⟨[], 0, b, a, by simp [h], Tm.sub_nil _⟩
        | var n => simp [Tm.isLam] at h
        | app f a => simp [Tm.isLam] at h
      · rcases List.mem_append.mp h with h | h
        · obtain ⟨s, i, b, u, e, hs⟩ := i1.mp h
          exact ⟨102 :: s, i + 1, b, u, by rw [e]; simp, by unfold Tm.Red at hs ⊢; simp [Tm.sub, hs]⟩
        · obtain ⟨s, i, b, u, e, hs⟩ := i2.mp h
          exact ⟨97 :: s, i + (1 + f.enc.length), b, u, by rw [e]; simp, by unfold Tm.Red at hs ⊢; simp [Tm.sub, hs]⟩
    · rintro ⟨s, i, b, u, e, hs⟩
      cases s with
      | nil =>
        unfold Tm.Red at hs
        rw [Tm.sub_nil] at hs
        cases hs
        refine List.mem_append_left _ ?_
        simp [Tm.isLam, e]
      | cons c2 s =>
        unfold Tm.Red at hs
        simp only [Tm.sub] at hs
        refine List.mem_append_right _ ?_
        by_cases hc : c2 = 102
        · subst hc
          simp only [if_pos] at hs
          obtain ⟨⟨j, u'⟩, e1, e2⟩ := Option.map_eq_some_iff.mp hs
          cases e2
          exact List.mem_append_left _ (i1.mpr ⟨s, j, b, u, by rw [e]; simp, e1⟩)
        · by_cases hc2 : c2 = 97
          · subst hc2
            simp only [if_pos] at hs
            rw [if_neg (by decide)] at hs
            obtain ⟨⟨j, u'⟩, e1, e2⟩ := Option.map_eq_some_iff.mp hs
            cases e2
            exact List.mem_append_right _ (i2.mpr ⟨s, j, b, u, by rw [e]; simp, e1⟩)
          · simp [hc, hc2] at hs
theorem Tm.red_mem {t : Tm} {p : List Nat} : p ∈ t.reds [] ↔ ∃ i b u, t.Red p i b u := by
  rw [Tm.reds_sub]
  constructor
  · rintro ⟨s, i, b, u, e, h⟩
    simp only [List.nil_append] at e
    rw [e]
    exact ⟨i, b, u, h⟩
  · rintro ⟨i, b, u, h⟩
    exact ⟨p, i, b, u, by simp, h⟩
/-- the step at p (the term itself where p is no redex) -/
def Tm.step (t : Tm) (p : List Nat) : Tm := match t.sub p with
  | some (_, .app (.lam b) u) => Tm.rep (Tm.put u 0 b) t p
  | _ => t
theorem Tm.step_red {t : Tm} {p : List Nat} {i : Nat} {b u : Tm} (h : t.Red p i b u) : t.step p = Tm.rep (Tm.put u 0 b) t p := by
  unfold Tm.step
  rw [h]
/-- how the nodes of a redex stand in the list -/
theorem Tm.red_at {t : Tm} {p : List Nat} {i : Nat} {b u : Tm} (h : t.Red p i b u) : ∃ post, t.enc.drop i = .str "app" :: .str "lam" :: (b.enc ++ (u.enc ++ post)) := by
  obtain ⟨⟨post, e⟩, _⟩ := Tm.sub_at t p [] h
  exact ⟨post, by rw [e]; simp [Tm.enc]⟩
theorem Tm.step_enc {t : Tm} {p : List Nat} {i : Nat} {b u : Tm} (h : t.Red p i b u) : (t.step p).enc = t.enc.take i ++ (Tm.put u 0 b).enc ++ t.enc.drop (i + 2 + b.enc.length + u.enc.length) := by
  rw [Tm.step_red h, Tm.rep_enc _ t p h, dueV]
  congr 2
  simp only [Tm.enc, List.length_cons, List.length_append]
  omega
theorem Tm.reds_pls (t : Tm) {r : List Nat} (h : r ∈ t.reds []) : r ∈ t.pls [] := by
  rw [← redK_all t] at h
  exact redK_mem (by rw [Tm.pls_len]; exact Nat.le_refl _) h
/-- the part that begins at the i-th node -/
theorem Tm.part_at (t : Tm) {i : Nat} (h : i < t.enc.length) : ∃ p u post, (t.pls [])[i]? = some p ∧ t.sub p = some (i, u) ∧ t.enc.drop i = u.enc ++ post := by
  have hl : i < (t.pls []).length := by rw [Tm.pls_len]; exact h
  have g := List.getElem?_eq_getElem hl
  obtain ⟨s, j, u, e, hs⟩ := Tm.sub_of t [] (List.mem_of_getElem? g)
  simp only [List.nil_append] at e
  obtain ⟨⟨post, hd⟩, hp⟩ := Tm.sub_at t s [] hs
  simp only [List.nil_append] at hp
  have ij : i = j := same_at (Tm.pls_order t []) (by rw [g, e]) hp
  subst ij
  exact ⟨s, u, post, hp, hs, hd⟩
theorem Tm.after_app (t : Tm) {i : Nat} (h : t.enc[i]? = some (.str "app")) : ∃ v, t.enc[i + 1]? = some v ∧ ((∃ n : Int, v = .int n) ∨ v = .str "lam" ∨ v = .str "app") := by
  have hi := (List.getElem?_eq_some_iff.mp h).1
  obtain ⟨p, u, post, _, _, hd⟩ := t.part_at hi
  have h0 : (t.enc.drop i)[0]? = some (.str "app") := by rw [List.getElem?_drop, Nat.add_zero]; exact h
  rw [hd] at h0
  cases u with
  | var n => simp [Tm.enc] at h0
  | lam b => simp [Tm.enc, str_ne1] at h0
  | app f a =>
    have h1 : (t.enc.drop i)[1]? = (f.enc ++ a.enc ++ post)[0]? := by rw [hd]; rfl
    rw [List.getElem?_drop] at h1
    obtain ⟨v, r, e⟩ := List.exists_cons_of_ne_nil f.enc_ne
    refine ⟨v, by rw [h1, e]; rfl, ?_⟩
    rcases Tm.int_nat (t := f) (v := v) (by rw [e]; exact List.mem_cons_self) with ⟨n, e2⟩ | e2 | e2
    · exact .inl ⟨_, e2⟩
    · exact .inr (.inl e2)
    · exact .inr (.inr e2)
theorem Tm.pls_small0 (t : Tm) : Small (t.pls []) := Tm.pls_small t [] (by simp)
theorem Tm.reds_small (t : Tm) : Small (t.reds []) := fun q hq => Tm.pls_small0 t q (Tm.reds_pls t hq)
theorem Tm.pls_lens (t : Tm) {r : List Nat} (h : r ∈ t.pls []) : r.length < t.enc.length := by
  obtain ⟨s, e, l⟩ := Tm.pls_pre t h
  simp only [List.nil_append] at e
  rw [e]
  exact l
end Ly
set_option Elab.async false
set_option linter.all false
set_option maxRecDepth 100000
set_option maxHeartbeats 2000000
namespace Ly
open PySem PySem.Spec PyProof.Rows L2 Evl
/-- what a road passes: the terms, or which error comes first -/
inductive Res where
  | ok (ts : List Tm)
  | none
  | large
def Res.cons (t : Tm) : Res → Res
  | .ok ts => .ok (t :: ts)
  | r => r
def Tm.isRed (t : Tm) (p : List Nat) : Bool := decide (p ∈ t.reds [])
def Tm.pass : Tm → List (List Nat) → Res
  | t, [] => .ok [t]
  | t, p :: r => if t.isRed p = false then .none else if fitsV (t.step p).enc = false then .large else Res.cons t (Tm.pass (t.step p) r)
theorem Tm.isRed_iff {t : Tm} {p : List Nat} : t.isRed p = true ↔ ∃ i b u, t.Red p i b u := by
  unfold Tm.isRed
  rw [decide_eq_true_iff]
  exact Tm.red_mem
/-- a road of redexes -/
inductive Road : Tm → List (List Nat) → Prop
  | nil {t : Tm} : Road t []
  | cons {t : Tm} {p : List Nat} {r : List (List Nat)} (h : t.isRed p = true) (hr : Road (t.step p) r) : Road t (p :: r)
/-- where a road leads (its places taken for redexes) -/
def Tm.along : Tm → List (List Nat) → Tm
  | t, [] => t
  | t, p :: r => (t.step p).along r
theorem Tm.along_app (t : Tm) : ∀ (r s : List (List Nat)), t.along (r ++ s) = (t.along r).along s
  | [], _ => rfl
  | p :: r, s => Tm.along_app (t.step p) r s
theorem Road.snoc {t : Tm} {r : List (List Nat)} {p : List Nat} (h : Road t r) (hp : (t.along r).isRed p = true) : Road t (r ++ [p]) := by
  induction h with
  | nil => exact .cons hp .nil
  | cons h _ ih => exact .cons h (ih hp)
inductive Pass (t : Tm) : List (List Nat) → List Tm → Tm → Prop
  | nil : Pass t [] [t] t
  | snoc {r : List (List Nat)} {ts : List Tm} {u : Tm} {p : List Nat} (h : Pass t r ts u) (hp : u.isRed p = true) (hf : fitsV (u.step p).enc = true) : Pass t (r ++ [p]) (ts ++ [u.step p]) (u.step p)
theorem pass_app {t u : Tm} {r : List (List Nat)} {ts : List Tm} (h : Pass t r ts u) : ∀ s, Tm.pass t (r ++ s) = match Tm.pass u s with
    | .ok us => .ok (ts.dropLast ++ us)
    | e => e := by
  induction h with
  | nil =>
    intro s
    show Tm.pass t s = _
    cases Tm.pass t s <;> rfl
  | @snoc r ts u p h hp hf ih =>
    intro s
    rw [List.append_assoc, List.singleton_append, ih]
    have e : Tm.pass u (p :: s) = Res.cons u (Tm.pass (u.step p) s) := by
      show (if u.isRed p = false then Res.none else if fitsV (u.step p).enc = false then Res.large else _) = _
      rw [if_neg (by rw [hp]; simp), if_neg (by rw [hf]; simp)]
    rw [e]
    have hl : ∃ ts0, ts = ts0 ++ [u] := by
      cases h with
      | nil => exact ⟨[], rfl⟩
      | snoc _ _ _ => exact ⟨_, rfl⟩
    obtain ⟨ts0, rfl⟩ := hl
    cases Tm.pass (u.step p) s <;> simp [Res.cons]
theorem Pass.done {t u : Tm} {r : List (List Nat)} {ts : List Tm} (h : Pass t r ts u) : Tm.pass t r = .ok ts := by
  have e := pass_app h []
  rw [List.append_nil] at e
  rw [e]
  have hl : ∃ ts0, ts = ts0 ++ [u] := by
    cases h with
    | nil => exact ⟨[], rfl⟩
    | snoc _ _ _ => exact ⟨_, rfl⟩
  obtain ⟨ts0, rfl⟩ := hl
  simp [Tm.pass]
theorem Pass.last {t u : Tm} {r : List (List Nat)} {ts : List Tm} (h : Pass t r ts u) : ∃ ts0, ts = ts0 ++ [u] := by
  cases h with
  | nil => exact ⟨[], rfl⟩
  | snoc _ _ _ => exact ⟨_, rfl⟩
theorem Pass.none {t u : Tm} {r s : List (List Nat)} {ts : List Tm} {p : List Nat} (h : Pass t r ts u) (hp : u.isRed p = false) : Tm.pass t (r ++ p :: s) = .none := by
  rw [pass_app h]
  have e : Tm.pass u (p :: s) = Res.none := if_pos hp
  rw [e]
theorem Pass.large {t u : Tm} {r s : List (List Nat)} {ts : List Tm} {p : List Nat} (h : Pass t r ts u) (hp : u.isRed p = true) (hf : fitsV (u.step p).enc = false) : Tm.pass t (r ++ p :: s) = .large := by
  rw [pass_app h]
  have e : Tm.pass u (p :: s) = Res.large := by
    show (if u.isRed p = false then Res.none else if fitsV (u.step p).enc = false then Res.large else _) = _
    rw [if_neg (by rw [hp]; simp), if_pos hf]
  rw [e]
theorem Pass.len {t u : Tm} {r : List (List Nat)} {ts : List Tm} (h : Pass t r ts u) : ts.length = r.length + 1 := by
  induction h with
  | nil => rfl
  | snoc _ _ _ ih => simp [ih]
theorem fits_len {xs : List V} (h : fitsV xs = true) : xs.length ≤ 1000 := by
  unfold fitsV at h
  rw [Bool.and_eq_true] at h
  exact of_decide_eq_true h.1
theorem Tm.step_le (t : Tm) (p : List Nat) : (t.step p).enc.length ≤ t.enc.length + t.enc.length * t.enc.length := by
  unfold Tm.step
  split
  · rename_i i b u hred
    have h1 := Tm.rep_len (v := Tm.put u 0 b) hred
    have h2 := Tm.put_len u b 0
    have h3 := Tm.sub_lt hred
    have h4 : (Tm.app (.lam b) u).enc.length = b.enc.length + u.enc.length + 2 := by
      simp only [Tm.enc, List.length_cons, List.length_append]
      omega
    have h5 : b.enc.length * u.enc.length ≤ t.enc.length * t.enc.length := Nat.mul_le_mul (by omega) (by omega)
    omega
  · omega
inductive Ts (K : PySem.W.Frag) (H : Hp) : List Addr → List Tm → Prop
  | nil : Ts K H [] []
  | cons {a : Addr} {as : List Addr} {t : Tm} {ts : List Tm} (h : SqT K H a t.enc) (r : Ts K H as ts) : Ts K H (a :: as) (t :: ts)
section
variable {K : PySem.W.Frag} {H H' : Hp} {Q : VK}
theorem Ts.mono {as : List Addr} {ts : List Tm} (h : Ts K H as ts) (e : ∀ a xs, SqT K H a xs → SqT K H' a xs) : Ts K H' as ts := by
  induction h with
  | nil => exact .nil
  | cons h _ ih => exact .cons (e _ _ h) ih
theorem Ts.ex {as : List Addr} {ts : List Tm} (h : Ts K H as ts) (e : Ex H H') : Ts K H' as ts := h.mono fun a xs z => ex_t e z
theorem Ts.snoc {as : List Addr} {ts : List Tm} {a : Addr} {t : Tm} (h : Ts K H as ts) (ha : SqT K H a t.enc) : Ts K H (as ++ [a]) (ts ++ [t]) := by
  induction h with
  | nil => exact .cons ha .nil
  | cons h _ ih => exact .cons h ih
theorem Ts.len {as : List Addr} {ts : List Tm} (h : Ts K H as ts) : as.length = ts.length := by
  induction h with
  | nil => rfl
  | cons _ _ ih => simp [ih]
theorem Ts.at {as : List Addr} {ts : List Tm} (h : Ts K H as ts) {i : Nat} {a : Addr} (ha : as[i]? = some a) : ∃ t, ts[i]? = some t ∧ SqT K H a t.enc := by
  induction h generalizing i with
  | nil => simp at ha
  | cons h _ ih =>
    cases i with
    | zero =>
      simp at ha
      subst ha
      exact ⟨_, rfl, h⟩
    | succ i => exact ih (by simpa using ha)
abbrev refs (as : List Addr) : List V := as.map V.ref
def tmd (t : Tm) : PyData := .tuple (t.enc.map dv)
theorem w_slL {a : Addr} {xs : List V} {lo hi : Option Int} (h : SqL K H a xs) (q : ∀ p, H p = none → Q (.ref p) (upd H p (.lst (cutV xs lo hi)))) : rSlL K (.ref a) lo hi H Q := ⟨a, xs, rfl, h, q⟩
end
theorem Small.app {qs rs : List (List Nat)} (h : Small qs) (k : Small rs) : Small (qs ++ rs) := fun q hq => (List.mem_append.mp hq).elim (h q) (k q)
theorem Small.take {qs : List (List Nat)} (h : Small qs) (i : Nat) : Small (qs.take i) := fun q hq => h q (List.mem_of_mem_take hq)
theorem Small.drop {qs : List (List Nat)} (h : Small qs) (i : Nat) : Small (qs.drop i) := fun q hq => h q (List.mem_of_mem_drop hq)
def redB (xs : List V) (i : Nat) : Bool := decide (xs[i]? = some (.str "app")) && decide (xs[i + 1]? = some (.str "lam"))
theorem redB_iff {xs : List V} {i : Nat} : redB xs i = true ↔ xs[i]? = some (.str "app") ∧ xs[i + 1]? = some (.str "lam") := by simp [redB]
theorem redB_of {xs : List V} {i : Nat} {x : V} (h : xs[i]? = some x) (n : x ≠ .str "app") : redB xs i = false := by
  simp [redB, h, n]
theorem redB_app {xs : List V} {i : Nat} {y : V} (h : xs[i]? = some (.str "app")) (h2 : xs[i + 1]? = some y) : redB xs i = decide (y = .str "lam") := by
  simp [redB, h, h2]
def redI (xs : List V) : Nat → List Nat
  | 0 => []
  | i + 1 => redI xs i ++ (if redB xs i = true then [i] else [])
theorem redI_len (xs : List V) : ∀ i, (redI xs i).length ≤ i
  | 0 => Nat.zero_le _
  | i + 1 => by
    have := redI_len xs i
    simp only [redI, List.length_append]
    split
    · simp only [List.length_singleton]; omega
    · simp only [List.length_nil]; omega
theorem redI_mem {xs : List V} {j : Nat} : ∀ {n : Nat}, j ∈ redI xs n ↔ j < n ∧ redB xs j = true
  | 0 => by simp [redI]
  | n + 1 => by
    have ih := redI_mem (xs := xs) (j := j) (n := n)
    simp only [redI, List.mem_append, ih]
    constructor
    · rintro (⟨h1, h2⟩ | h)
      · exact ⟨by omega, h2⟩
      · split at h
        · rename_i hb
          rw [List.mem_singleton.mp h]
          exact ⟨by omega, hb⟩
        · simp at h
    · rintro ⟨h1, h2⟩
      by_cases e : j = n
      · subst e
        right
        rw [if_pos h2]
        exact List.mem_singleton.mpr rfl
      · exact .inl ⟨by omega, h2⟩
theorem redI_K (xs : List V) (qs : List (List Nat)) : ∀ n, (redI xs n).map (fun i => qs.getD i []) = redK xs qs n
  | 0 => rfl
  | n + 1 => by
    simp only [redI, redK, List.map_append, redI_K xs qs n]
    congr 1
    by_cases h : redB xs n = true
    · rw [if_pos h, if_pos (redB_iff.mp h)]
      rfl
    · rw [if_neg h, if_neg (fun z => h (redB_iff.mpr z))]
      rfl
theorem red_of {t v : Tm} {p : List Nat} {i : Nat} (h : t.sub p = some (i, v)) : redB t.enc i = true ↔ ∃ b u, v = .app (.lam b) u := by
  obtain ⟨⟨post, hd⟩, _⟩ := Tm.sub_at t p [] h
  have g : ∀ k, t.enc[i + k]? = (v.enc ++ post)[k]? := fun k => by rw [← hd, List.getElem?_drop]
  have g0 := g 0
  have g1 := g 1
  rw [Nat.add_zero] at g0
  rw [redB_iff, g0, g1]
  cases v with
  | var n => simp [Tm.enc]
  | lam b => simp [Tm.enc, str_ne1]
  | app f a =>
    have hl := Tm.head_lam f (a.enc ++ post)
    have e : ((Tm.app f a).enc ++ post)[1]? = (f.enc ++ (a.enc ++ post))[0]? := by simp [Tm.enc]
    rw [e, hl]
    cases f with
    | var n => simp [Tm.enc, Tm.isLam]
    | lam b => simp [Tm.enc, Tm.isLam]
    | app f a => simp [Tm.enc, Tm.isLam]
theorem red_sub {t v : Tm} {p : List Nat} {i : Nat} (h : t.sub p = some (i, v)) : (redB t.enc i = true ∧ ∃ b u, t.Red p i b u) ∨ (redB t.enc i = false ∧ ∀ j b u, ¬ t.Red p j b u) := by
  have e := red_of h
  cases hb : redB t.enc i with
  | true =>
    obtain ⟨b, u, rfl⟩ := e.mp hb
    exact .inl ⟨rfl, b, u, h⟩
  | false =>
    refine .inr ⟨rfl, fun j b u z => ?_⟩
    unfold Tm.Red at z
    rw [h] at z
    have z2 := (Prod.mk.inj (Option.some.inj z)).2
    rw [e.mpr ⟨b, u, z2⟩] at hb
    cases hb
theorem fits_mid {xs ys zs : List V} (h : fitsV ys = false) : fitsV (xs ++ ys ++ zs) = false := by
  cases e : fitsV (xs ++ ys ++ zs) with
  | false => rfl
  | true =>
    unfold fitsV at e h
    rw [Bool.and_eq_true] at e
    have h1 := of_decide_eq_true e.1
    have h2 := e.2
    rw [List.all_append, List.all_append, Bool.and_eq_true, Bool.and_eq_true] at h2
    simp only [List.length_append] at h1
    rw [h2.1.2, decide_eq_true (by omega)] at h
    cases h
theorem w_ninS {K : PySem.W.Frag} {H : Hp} {Q : VK} {p : Addr} {r : List Nat} {qs : List (List Nat)} (h : H p = some (.lst (plcs qs))) (q : Q (.bl (!decide (r ∈ qs))) H) : rIn K true (.str (pl r)) (.ref p) H Q :=
  ⟨p, _, rfl, .inl (SqL.of h), rfl, flat_pl qs, by rw [inV_pl]; exact q⟩
theorem road_cut {road : List (List Nat)} {i : Nat} {r : List Nat} (h : road[i]? = some r) : road = road.take i ++ r :: road.drop (i + 1) := by
  obtain ⟨hl, e⟩ := List.getElem?_eq_some_iff.mp h
  rw [← e, ← List.drop_eq_getElem_cons hl, List.take_append_drop]
theorem road_take {road : List (List Nat)} {i : Nat} {r : List Nat} (h : road[i]? = some r) : road.take (i + 1) = road.take i ++ [r] := by
  rw [List.take_add_one, h]
  rfl
theorem red_or (u : Tm) (r : List Nat) : (u.isRed r = true ∧ ∃ i b v, u.Red r i b v) ∨ (u.isRed r = false ∧ ∀ i b v, ¬ u.Red r i b v) := by
  cases h : u.isRed r with
  | true => exact .inl ⟨rfl, Tm.isRed_iff.mp h⟩
  | false => exact .inr ⟨rfl, fun i b v z => by rw [Tm.isRed_iff.mpr ⟨i, b, v, z⟩] at h; cases h⟩
end Ly
set_option Elab.async false
set_option linter.all false
set_option maxRecDepth 100000
set_option maxHeartbeats 2000000
namespace Ly
open PySem PySem.Spec PyProof.Rows L2 HotX L2H
section
variable {prog : Program} {w : World} {A : Around} {E : Value → Shared → Prop} {s : Shared}
end
section
variable {X : Cx}
end
section
variable {P : Program} {w : World} {K : PySem.W.Frag} {mg : Str → Option Value} {base : Heap}
theorem okXN {x qual : Str} {st : Stmt} {f : Addr} {fd : FuncData} {N ps : List Str} {k : Nat} {sp : Sp} (F : Fun K x qual st f fd) (S : FnScope N ps (defScope st)) (ln : ∀ vs H Q E, sp vs H Q E → vs.length = ps.length)
    (body : ∀ (cdv : Value) (A : Around) (outer : List Env) (s : Shared) (H : Hp) (vs : List V) (Q : VK) (E : XK), Room k (A.deeper (envOfC qual (defScope st) s.heap.objs.size f cdv)) → sp vs H Q E →
      ∃ t, PSs (cxOf (L2N.CX P w) P w K mg base N qual (defScope st) f cdv A outer s H E) (defBody st) t ∧ t { nx := fun _ H' => Q .non H', rt := Q } (L2.start N vs) H) : FnOk P w K mg base (L2N.CX P w) (k + 1) f fd ps sp := by
  obtain ⟨_, _, _, _, _, _, cv, _, _, rfl, lk, hcd⟩ := F.ex
  exact fn_of lk hcd S ln fun A outer s H vs Q E hr hsp => body cv A outer s H vs Q E hr hsp
def DefH (P : Program) (w : World) (K : PySem.W.Frag) (mg : Str → Option Value) (base : Heap) (CX : CXT) (k : Nat) (x : Str) (ps : List Str) (sp : Sp) : Prop :=
  ∃ f fd, mg x = some (.ref f) ∧ PySem.W.keepIn K (.ref f) = true ∧ Binds K fd ps [] ∧ FnH P w K mg base CX k f fd ps sp
theorem DefH.of {CX : CXT} {k : Nat} {x : Str} {ps : List Str} {sp : Sp} {f : Addr} {fd : FuncData} (g : mg x = some (.ref f)) (kp : PySem.W.keepIn K (.ref f) = true) (b : Binds K fd ps []) (G : FnH P w K mg base CX k f fd ps sp) : DefH P w K mg base CX k x ps sp := ⟨f, fd, g, kp, b, G⟩
end
section
variable {X : Cx}
/-- X(e) -/
theorem pmk_own1N {C : Addr} {bs : List Value} {B newId initId : String} {x : Str} {e : Expr} {ta : TE} {p pos : Pos} (F : ExcBaseFacts B newId initId bs) (xi : PySem.W.excIn X.K C bs newId = true) (gC : X.mg x = some (.ref C)) (kC : PySem.W.keepIn X.K (.ref C) = true) (r : Raises X (.ref C)) (hg : Gl X x)
    (he : PE X e ta) (hs : starEach [e] X.env = (false, eval e X.env) :: starEach [] X.env := by rfl) (hdb : (x == ("__debug__" : Str)) = false := by decide) :
    L2N.PMk X (.Call (.Name x p) [e] [] pos) (fun σ H Q => ta σ H fun _ H1 => Q (.ref C) none H1) := by
  intro pins s σ H Q I h
  refine wpAny_Call_Name_kw (ld_glob I hg gC (PySem.W.callWith_K (h₀ := X.base) I.ok.mod.kin kC ?_ hs (by rfl)) hdb)
  rw [hs]
  show wpAny _ _ (spliced ((false, eval e X.env) :: backTo pos (starEach [] X.env))) _ _ s
  refine Calls.spliced_cons (thn (he.run pins s σ H _ I h) fun u s1 ⟨v, H1, J, r1, q1⟩ => Calls.spliced_nil ⟨J.kIn, ?_⟩)
  show wpAny _ _ (call (.ref C) [u]) _ _ _
  obtain ⟨_, _, _, _, _, _, _, _, _, _, _, _, _, _, _, _, _, hC, hN, hni, T⟩ := exc_obj J.kIn xi
  exact wpAny_call_exc_subT F T hC hN hni (fun h' e hm => L2N.mk_of J hm r q1 (J.hok.gone hm.new)) (by show 1 ≤ sizeLine; rw [sizeLine_eq]; omega)
end
end Ly
set_option Elab.async false
set_option linter.all false
set_option maxRecDepth 100000
set_option maxHeartbeats 2000000
namespace Ly
open PySem PySem.Spec PyProof.Rows L2 Evl
section
variable {X : Cx}
def rExtT (K : PySem.W.Frag) : V → List V → Hp → VK → Prop := fun x vs H Q => ∃ l b xs zs, x = .ref l ∧ vs = [.ref b] ∧ H l = some (.lst xs) ∧ SqT K H b zs ∧ xs.length + zs.length ≤ sizeLine ∧ Q .non (upd H l (.lst (xs ++ zs)))
end
theorem w_extT {K : PySem.W.Frag} {H : Hp} {Q : VK} {l b : Addr} {xs zs : List V} (h : H l = some (.lst xs)) (h2 : SqT K H b zs) (z : xs.length + zs.length ≤ sizeLine) (q : Q .non (upd H l (.lst (xs ++ zs)))) : rExtT K (.ref l) [.ref b] H Q := ⟨l, b, xs, zs, rfl, rfl, h, h2, z, q⟩
end Ly
set_option Elab.async false
set_option linter.all false
set_option maxRecDepth 100000
set_option maxHeartbeats 2000000
namespace Ly
open PySem PySem.Spec PyProof.Rows L2
/-- one clause: its class, the slot of its name if it has one, its suite -/
structure Cls1 where
  c : Value
  i : Option Nat
  ts : Addr → Value → Option Addr → TS
inductive HdsA (X : Cx) : List ExceptHandler → List Cls1 → Prop
  | nil : HdsA X [] []
  | bare {x : Str} {c : Value} {ts : Addr → Value → Option Addr → TS} {st : Stmt} {su : List Stmt} {np p2 : Pos} {hs : List ExceptHandler} {l : List Cls1} (hc : Names X x c)
      (hsu : ∀ (a : Addr) (oe : Obj) (cls : Value) (d : Option Addr) (pn : List (Addr × Obj)), Zc cls d oe → (∃ vs, oe.data = .fields vs) → PSs (X.suite a ((a, oe) :: pn)) (st :: su) (ts a cls d)) (r : HdsA X hs l) :
      HdsA X (.ExceptHandler (some (.Name x np)) none (st :: su) p2 :: hs) (⟨c, none, ts⟩ :: l)
  | named {x n : Str} {i : Nat} {c : Value} {ts : Addr → Value → Option Addr → TS} {st : Stmt} {su : List Stmt} {np p2 : Pos} {hs : List ExceptHandler} {l : List Cls1} (hi : X.N[i]? = some n) (hln : X.env.kindOf n = some .local) (hc : Names X x c)
      (hsu : ∀ (a : Addr) (oe : Obj) (cls : Value) (d : Option Addr) (pn : List (Addr × Obj)), Zc cls d oe → (∃ vs, oe.data = .fields vs) → PSs (X.suite a ((a, oe) :: pn)) (st :: su) (ts a cls d)) (r : HdsA X hs l) :
      HdsA X (.ExceptHandler (some (.Name x np)) (some n) (st :: su) p2 :: hs) (⟨c, some i, ts⟩ :: l)
section
variable {X : Cx}
end
end Ly
set_option Elab.async false
set_option linter.all false
set_option maxRecDepth 100000
set_option maxHeartbeats 2000000
namespace Ly
open PySem PySem.Spec PyProof.Rows L2
section
variable {X : Cx}
theorem pmk5 {C : Addr} {bs : List Value} {B newId initId : String} {x : Str} {e : Expr} {ta : TE} {p pos : Pos} (F : ExcBaseFacts B newId initId bs) (xi : PySem.W.excIn X.K C bs newId = true) (gC : X.mg x = some (.ref C)) (kC : PySem.W.keepIn X.K (.ref C) = true) (r : Raises X (.ref C)) (hg : Gl X x)
    (he : PE X e ta) (hs : starEach [e] X.env = (false, eval e X.env) :: starEach [] X.env := by rfl) (hdb : (x == ("__debug__" : Str)) = false := by decide) :
    L2H.PMk5 X (.Call (.Name x p) [e] [] pos) (fun σ H Q => ta σ H fun _ H1 => Q (.ref C) none H1) := by
  intro pins s σ H Q I h
  refine wpAny_Call_Name_kw (ld_glob I hg gC (PySem.W.callWith_K (h₀ := X.base) I.ok.mod.kin kC ?_ hs (by rfl)) hdb)
  rw [hs]
  show wpAny _ _ (spliced ((false, eval e X.env) :: backTo pos (starEach [] X.env))) _ _ s
  refine Calls.spliced_cons (thn (he.run pins s σ H _ I h) fun u s1 ⟨v, H1, J, r1, q1⟩ => Calls.spliced_nil ⟨J.kIn, ?_⟩)
  show wpAny _ _ (call (.ref C) [u]) _ _ _
  obtain ⟨_, _, _, _, _, _, _, _, _, _, _, _, _, _, _, _, _, hC, hN, hni, T⟩ := exc_obj J.kIn xi
  exact wpAny_call_exc_subT F T hC hN hni (fun h' e hm => L2H.mk_of5 J hm r q1 (J.hok.gone hm.new)) (by show 1 ≤ sizeLine; rw [sizeLine_eq]; omega)
end
end Ly
set_option Elab.async false
set_option linter.all false
set_option maxRecDepth 100000
set_option maxHeartbeats 2000000
namespace Ly
open PySem PySem.Spec PyProof.Rows L2 Evl
def LamV (K : PySem.W.Frag) (H : Hp) (v : V) : Prop := v = .str "lam" ∨ ∃ (a : Addr) (k : Int), v = .ref a ∧ SqT K H a [.str "m", .int k]
def Lk (K : PySem.W.Frag) (H : Hp) (w v : V) : Prop := (w ≠ .str "lam" ∧ v = w) ∨ (w = .str "lam" ∧ LamV K H v)
inductive DcL (K : PySem.W.Frag) (H : Hp) : List V → List V → Prop
  | nil : DcL K H [] []
  | cons {w v : V} {ws vs : List V} (h : Lk K H w v) (r : DcL K H ws vs) : DcL K H (w :: ws) (v :: vs)
section
variable {K : PySem.W.Frag} {H H' : Hp} {zs xs zs2 xs2 : List V}
theorem LamV.ex {v : V} (h : LamV K H v) (e : Ex H H') : LamV K H' v := by
  rcases h with h | ⟨a, k, h, hs⟩
  · exact .inl h
  · exact .inr ⟨a, k, h, ex_t e hs⟩
theorem Lk.ex {w v : V} (h : Lk K H w v) (e : Ex H H') : Lk K H' w v := by
  rcases h with h | ⟨h, hv⟩
  · exact .inl h
  · exact .inr ⟨h, hv.ex e⟩
theorem DcL.ex (h : DcL K H zs xs) (e : Ex H H') : DcL K H' zs xs := by
  induction h with
  | nil => exact .nil
  | cons h _ ih => exact .cons (h.ex e) ih
theorem Lk.self (w : V) : Lk K H w w := by
  by_cases h : w = .str "lam"
  · exact .inr ⟨h, .inl h⟩
  · exact .inl ⟨h, rfl⟩
theorem DcL.self : ∀ zs : List V, DcL K H zs zs
  | [] => .nil
  | w :: ws => .cons (Lk.self w) (DcL.self ws)
theorem DcL.len (h : DcL K H zs xs) : xs.length = zs.length := by
  induction h with
  | nil => rfl
  | cons _ _ ih => simp [ih]
theorem DcL.app (h : DcL K H zs xs) (k : DcL K H zs2 xs2) : DcL K H (zs ++ zs2) (xs ++ xs2) := by
  induction h with
  | nil => exact k
  | cons h _ ih => exact .cons h ih
theorem DcL.drop (h : DcL K H zs xs) : ∀ i, DcL K H (zs.drop i) (xs.drop i) := by
  induction h with
  | nil => intro i; simp; exact .nil
  | cons h r ih =>
    intro i
    cases i with
    | zero => exact .cons h r
    | succ i => exact ih i
theorem DcL.take (h : DcL K H zs xs) : ∀ i, DcL K H (zs.take i) (xs.take i) := by
  induction h with
  | nil => intro i; simp; exact .nil
  | cons h r ih =>
    intro i
    cases i with
    | zero => exact .nil
    | succ i => exact .cons h (ih i)
theorem DcL.get (h : DcL K H zs xs) : ∀ {i : Nat} {w : V}, zs[i]? = some w → ∃ v, xs[i]? = some v ∧ Lk K H w v := by
  induction h with
  | nil => intro i w hw; simp at hw
  | cons h r ih =>
    intro i w hw
    cases i with
    | zero =>
      simp at hw
      subst hw
      exact ⟨_, rfl, h⟩
    | succ i => exact ih (by simpa using hw)
theorem DcL.at (h : DcL K H zs xs) {i : Nat} {v : V} (hv : xs[i]? = some v) : ∃ w, zs[i]? = some w ∧ Lk K H w v := by
  have hl := (List.getElem?_eq_some_iff.mp hv).1
  rw [h.len] at hl
  obtain ⟨v2, h2, lk⟩ := h.get (List.getElem?_eq_getElem hl)
  rw [hv] at h2
  cases h2
  exact ⟨_, List.getElem?_eq_getElem hl, lk⟩
theorem sqt_keep {l a : Addr} {ys zs2 ws : List V} (h : H l = some (.lst ys)) (hs : SqT K H a ws) : SqT K (upd H l (.lst zs2)) a ws := by
  rcases hs with (g | ⟨ob, g⟩) | g
  · exact .inl (.inl (by rw [upd_ne (fun z => by rw [z, h] at g; cases g)]; exact g))
  · exact .inl (.inr ⟨ob, by rw [upd_ne (fun z => by rw [z, h] at g; cases g)]; exact g⟩)
  · exact .inr g
/-- a node of a marked term -/
theorem Lk.cases {w v : V} (h : Lk K H w v) (n : (∃ m : Nat, w = .int m) ∨ w = .str "lam" ∨ w = .str "app") :
    (∃ m : Nat, w = .int m ∧ v = .int m) ∨ (w = .str "app" ∧ v = .str "app") ∨ (w = .str "lam" ∧ v = .str "lam") ∨ (w = .str "lam" ∧ ∃ (a : Addr) (k : Int), v = .ref a ∧ SqT K H a [.str "m", .int k]) := by
  rcases n with ⟨m, rfl⟩ | rfl | rfl
  · rcases h with ⟨_, rfl⟩ | ⟨h, _⟩
    · exact .inl ⟨m, rfl, rfl⟩
    · cases h
  · rcases h with ⟨h, _⟩ | ⟨_, h | ⟨a, k, h, hs⟩⟩
    · exact absurd rfl h
    · exact .inr (.inr (.inl ⟨rfl, h⟩))
    · exact .inr (.inr (.inr ⟨rfl, a, k, h, hs⟩))
  · rcases h with ⟨_, rfl⟩ | ⟨h, _⟩
    · exact .inr (.inl ⟨rfl, rfl⟩)
    · exact absurd h (by simp [str_ne2])
end
end Ly
set_option Elab.async false
set_option linter.all false
set_option maxRecDepth 100000
set_option maxHeartbeats 2000000
namespace Ly
open PySem PySem.Spec PyProof.Rows L2 Evl
theorem Tm.lif_then2 (m k : Nat) : ∀ (v : Tm) (d c : Nat), d ≤ c → c ≤ d + m → (v.vmap (lif m) d).vmap (lif k) c = v.vmap (lif (m + k)) d
  | .var n, d, c, h1, h2 => by
    simp only [Tm.vmap, lif]
    congr 1
    split <;> split <;> omega
  | .lam b, d, c, h1, h2 => by
    simp only [Tm.vmap]
    rw [Tm.lif_then2 m k b (d + 1) (c + 1) (by omega) (by omega)]
  | .app f a, d, c, h1, h2 => by simp only [Tm.vmap, Tm.lif_then2 m k f d c h1 h2, Tm.lif_then2 m k a d c h1 h2]
theorem Tm.put_lif2 (w : Tm) (n : Nat) : ∀ (v : Tm) (c m : Nat), c ≤ m → m ≤ c + n → Tm.put w m (v.vmap (lif (n + 1)) c) = v.vmap (lif n) c
  | .var i, c, m, h1, h2 => by
    simp only [Tm.vmap, lif]
    by_cases h : c ≤ i
    · rw [if_pos h, if_pos h]
      simp only [Tm.put]
      rw [if_neg (by omega), if_neg (by omega)]
      congr 1
    · rw [if_neg h, if_neg h]
      simp only [Tm.put]
      rw [if_pos (by omega)]
  | .lam b, c, m, h1, h2 => by
    simp only [Tm.vmap, Tm.put]
    rw [Tm.put_lif2 w n b (c + 1) (m + 1) (by omega) (by omega)]
  | .app f a, c, m, h1, h2 => by simp only [Tm.vmap, Tm.put, Tm.put_lif2 w n f c m h1 h2, Tm.put_lif2 w n a c m h1 h2]
theorem Tm.put_up2 (v : Tm) (k : Nat) : ∀ (u : Tm) (c m : Nat), c ≤ m → Tm.put v (m + k) (u.vmap (lif k) c) = (Tm.put v m u).vmap (lif k) c
  | .var n, c, m, h => by
    simp only [Tm.vmap, lif]
    rcases Nat.lt_trichotomy n m with g | g | g
    · simp only [Tm.put]
      rw [if_pos g]
      simp only [Tm.vmap, lif]
      by_cases hc : c ≤ n
      · rw [if_pos hc, if_pos (by omega)]
      · rw [if_neg hc, if_pos (by omega)]
    · subst g
      rw [if_pos h]
      simp only [Tm.put]
      rw [if_neg (by omega), if_pos trivial, if_neg (by omega), if_pos trivial]
      exact (Tm.lif_then2 n k v 0 c (Nat.zero_le _) (by omega)).symm
    · rw [if_pos (by omega)]
      simp only [Tm.put]
      rw [if_neg (by omega), if_neg (by omega), if_neg (by omega), if_neg (by omega)]
      simp only [Tm.vmap, lif]
      rw [if_pos (by omega)]
      congr 1
      omega
  | .lam b, c, m, h => by
    have ih := Tm.put_up2 v k b (c + 1) (m + 1) (by omega)
    simp only [Tm.vmap, Tm.put]
    rw [show m + k + 1 = m + 1 + k by omega, ih]
  | .app f a, c, m, h => by simp only [Tm.vmap, Tm.put, Tm.put_up2 v k f c m h, Tm.put_up2 v k a c m h]
/-- putting at k beneath putting at j -/
theorem Tm.put_put2 (u v : Tm) (k : Nat) : ∀ (t : Tm) (j : Nat), Tm.put v (j + k) (Tm.put u j t) = Tm.put (Tm.put v k u) j (Tm.put v (j + k + 1) t)
  | .var n, j => by
    rcases Nat.lt_trichotomy n j with h | h | h
    · simp only [Tm.put]
      rw [if_pos h, if_pos (by omega)]
      simp only [Tm.put]
      rw [if_pos h, if_pos (by omega)]
    · subst h
      simp only [Tm.put]
      rw [if_neg (by omega), if_pos trivial, if_pos (by omega)]
      simp only [Tm.put]
      rw [if_neg (by omega), if_pos trivial]
      rw [Nat.add_comm]
      exact Tm.put_up2 v n u 0 k (Nat.zero_le _)
    · rcases Nat.lt_trichotomy n (j + k + 1) with g | g | g
      · simp only [Tm.put]
        rw [if_neg (by omega), if_neg (by omega), if_pos g]
        simp only [Tm.put]
        rw [if_pos (by omega), if_neg (by omega), if_neg (by omega)]
      · subst g
        simp only [Tm.put]
        rw [if_neg (by omega), if_neg (by omega), if_neg (by omega), if_pos trivial]
        simp only [Tm.put]
        rw [if_neg (by omega), if_pos (by omega)]
        exact (Tm.put_lif2 _ (j + k) v 0 j (Nat.zero_le _) (by omega)).symm
      · simp only [Tm.put]
        rw [if_neg (by omega), if_neg (by omega), if_neg (by omega), if_neg (by omega)]
        simp only [Tm.put]
        rw [if_neg (by omega), if_neg (by omega), if_neg (by omega), if_neg (by omega)]
  | .lam b, j => by
    have ih := Tm.put_put2 u v k b (j + 1)
    simp only [Tm.put]
    rw [show j + k + 1 = j + 1 + k by omega, ih]
  | .app f a, j => by simp only [Tm.put, Tm.put_put2 u v k f, Tm.put_put2 u v k a]
def Tm.fr : Nat → Tm → Nat → Prop
  | d, .var n, j => n = d + j
  | d, .lam b, j => b.fr (d + 1) j
  | d, .app f a, j => f.fr d j ∨ a.fr d j
theorem Tm.fr_lif (d e j : Nat) : ∀ (u : Tm) (c : Nat), (u.vmap (lif e) c).fr (c + d + e) j ↔ u.fr (c + d) j
  | .var n, c => by
    simp only [Tm.vmap, lif, Tm.fr]
    split <;> omega
  | .lam b, c => by
    have ih := Tm.fr_lif d e j b (c + 1)
    simp only [Tm.vmap, Tm.fr]
    rw [show c + d + e + 1 = c + 1 + d + e by omega, show c + d + 1 = c + 1 + d by omega]
    exact ih
  | .app f a, c => by simp only [Tm.vmap, Tm.fr, Tm.fr_lif d e j f c, Tm.fr_lif d e j a c]
theorem Tm.fr_put (u : Tm) (d j : Nat) : ∀ (b : Tm) (e : Nat), (Tm.put u e b).fr (d + e) j → b.fr (d + 1 + e) j ∨ u.fr d j
  | .var n, e, h => by
    simp only [Tm.put] at h
    split at h
    · simp only [Tm.fr] at h
      omega
    · split at h
      · right
        have := (Tm.fr_lif d e j u 0).mp (by rw [Nat.zero_add]; exact h)
        rwa [Nat.zero_add] at this
      · left
        simp only [Tm.fr] at h ⊢
        omega
  | .lam b, e, h => by
    simp only [Tm.put, Tm.fr] at h
    have := Tm.fr_put u d j b (e + 1) (by rw [show d + (e + 1) = d + e + 1 by omega]; exact h)
    rcases this with g | g
    · left
      simp only [Tm.fr]
      rw [show d + 1 + e + 1 = d + 1 + (e + 1) by omega]
      exact g
    · exact .inr g
  | .app f a, e, h => by
    simp only [Tm.put, Tm.fr] at h ⊢
    rcases h with h | h
    · rcases Tm.fr_put u d j f e h with g | g
      · exact .inl (.inl g)
      · exact .inr g
    · rcases Tm.fr_put u d j a e h with g | g
      · exact .inl (.inr g)
      · exact .inr g
theorem Tm.fr_rep {x w : Tm} (hx : ∀ d j, x.fr d j → w.fr d j) : ∀ (t : Tm) (p : List Nat) (d : Nat) {i j : Nat}, t.sub p = some (i, w) → (Tm.rep x t p).fr d j → t.fr d j
  | t, [], d, i, j, h, hr => by
    rw [Tm.sub_nil] at h
    cases h
    rw [Tm.rep_nil] at hr
    exact hx d j hr
  | .lam b, c :: p, d, i, j, h, hr => by
    by_cases hc : c = 98
    · subst hc
      simp only [Tm.sub, if_pos] at h
      obtain ⟨⟨k, u'⟩, e1, e2⟩ := Option.map_eq_some_iff.mp h
      cases e2
      simp only [Tm.rep, if_pos, Tm.fr] at hr
      exact Tm.fr_rep hx b p (d + 1) e1 hr
    · simp [Tm.sub, hc] at h
  | .app f a, c :: p, d, i, j, h, hr => by
    by_cases hc : c = 102
    · subst hc
      simp only [Tm.sub, if_pos] at h
      obtain ⟨⟨k, u'⟩, e1, e2⟩ := Option.map_eq_some_iff.mp h
      cases e2
      simp only [Tm.rep, if_pos, Tm.fr] at hr
      rcases hr with hr | hr
      · exact .inl (Tm.fr_rep hx f p d e1 hr)
      · exact .inr hr
    · by_cases hc2 : c = 97
      · subst hc2
        simp only [Tm.sub, if_pos] at h
        rw [if_neg (by decide)] at h
        obtain ⟨⟨k, u'⟩, e1, e2⟩ := Option.map_eq_some_iff.mp h
        cases e2
        simp only [Tm.rep] at hr
        rw [if_neg (by decide), if_pos trivial] at hr
        simp only [Tm.fr] at hr
        rcases hr with hr | hr
        · exact .inl hr
        · exact .inr (Tm.fr_rep hx a p d e1 hr)
      · simp [Tm.sub, hc, hc2] at h
  | .var _, c :: p, d, i, j, h, hr => by simp [Tm.sub] at h
theorem Tm.fr_step {t : Tm} {p : List Nat} {i : Nat} {b u : Tm} (h : t.Red p i b u) {j : Nat} (hj : (t.step p).fr 0 j) : t.fr 0 j := by
  rw [Tm.step_red h] at hj
  refine Tm.fr_rep (fun d j hx => ?_) t p 0 h hj
  exact Tm.fr_put u d j b 0 hx
theorem Tm.fr_wf : ∀ {t : Tm} {d M j : Nat}, t.wf (d + M) → t.fr d j → j < M
  | .var n, d, M, j, h, hj => by
    have h : n < d + M := h
    have hj : n = d + j := hj
    omega
  | .lam b, d, M, j, h, hj => Tm.fr_wf (t := b) (d := d + 1) (by rw [show d + 1 + M = d + M + 1 by omega]; exact h) hj
  | .app f a, d, M, j, h, hj => by
    rcases hj with hj | hj
    · exact Tm.fr_wf (t := f) h.1 hj
    · exact Tm.fr_wf (t := a) h.2 hj
end Ly
set_option Elab.async false
set_option linter.all false
set_option maxRecDepth 100000
set_option maxHeartbeats 2000000
namespace Ly
open PySem PySem.Spec PyProof.Rows L2 Evl
/-- where the nodes of a put term come from -/
def pO (O2 : List Nat) : List V → List Nat → List Nat → List Nat
  | w :: ws, d :: ds, o :: os => (if w = .int (d : Int) then O2 else [o]) ++ pO O2 ws ds os
  | _, _, _ => []
theorem pO_app (O2 : List Nat) : ∀ {ws ws' : List V} {ds ds' os os' : List Nat}, ds.length = ws.length → os.length = ws.length → pO O2 (ws ++ ws') (ds ++ ds') (os ++ os') = pO O2 ws ds os ++ pO O2 ws' ds' os'
  | [], _, [], _, [], _, _, _ => rfl
  | w :: ws, ws', d :: ds, ds', o :: os, os', h1, h2 => by
    have ih := pO_app O2 (ws := ws) (ws' := ws') (ds := ds) (ds' := ds') (os := os) (os' := os') (by simpa using h1) (by simpa using h2)
    simp only [List.cons_append, pO, ih, List.append_assoc]
  | [], _, _ :: _, _, _, _, h1, _ => by simp at h1
  | [], _, [], _, _ :: _, _, _, h2 => by simp at h2
  | _ :: _, _, [], _, _, _, h1, _ => by simp at h1
  | _ :: _, _, _ :: _, _, [], _, _, h2 => by simp at h2
theorem pO_map (f : Nat → Nat) (O2 : List Nat) : ∀ (ws : List V) (ds os : List Nat), (pO O2 ws ds os).map f = pO (O2.map f) ws ds (os.map f)
  | [], _, _ => by simp [pO]
  | _ :: _, [], _ => by simp [pO]
  | _ :: _, _ :: _, [] => by simp [pO]
  | w :: ws, d :: ds, o :: os => by
    simp only [pO, List.map_append, List.map_cons, pO_map f O2 ws ds os]
    split <;> rfl
/-- where the nodes behind a step come from -/
def stepO (t : Tm) (i : Nat) (b u : Tm) : List Nat :=
  List.range' 0 i ++ pO (List.range' (i + 2 + b.enc.length) u.enc.length) b.enc (b.deps 0) (List.range' (i + 2) b.enc.length) ++ List.range' (i + 2 + b.enc.length + u.enc.length) (t.enc.length - (i + 2 + b.enc.length + u.enc.length))
inductive Chn (R : Nat → Nat → Prop) : List Nat → Prop
  | nil : Chn R []
  | one (x : Nat) : Chn R [x]
  | cons {x y : Nat} {r : List Nat} (h : R x y) (c : Chn R (y :: r)) : Chn R (x :: y :: r)
theorem Chn.app {R : Nat → Nat → Prop} {l1 : List Nat} (h1 : Chn R l1) : ∀ {l2 : List Nat}, Chn R l2 → (∀ x y, l1.getLast? = some x → l2.head? = some y → R x y) → Chn R (l1 ++ l2) := by
  induction h1 with
  | nil => intro l2 h2 _; exact h2
  | one x =>
    intro l2 h2 hj
    cases l2 with
    | nil => exact .one x
    | cons y r => exact .cons (hj x y rfl rfl) h2
  | cons h c ih =>
    intro l2 h2 hj
    exact .cons h (ih h2 fun x y hx hy => hj x y (by rw [List.getLast?_cons_cons]; exact hx) hy)
theorem Chn.at {R : Nat → Nat → Prop} {l : List Nat} (h : Chn R l) : ∀ {j x y : Nat}, l[j]? = some x → l[j + 1]? = some y → R x y := by
  induction h with
  | nil => intro j x y hx; simp at hx
  | one z => intro j x y hx hy; simp at hy
  | cons h c ih =>
    intro j x y hx hy
    cases j with
    | zero =>
      simp at hx hy
      rw [← hx, ← hy]
      exact h
    | succ j => exact ih (by simpa using hx) (by simpa using hy)
theorem Chn.range {R : Nat → Nat → Prop} (h : ∀ x, R x (x + 1)) : ∀ n s, Chn R (List.range' s n)
  | 0, _ => .nil
  | 1, s => .one s
  | n + 2, s => by
    have := Chn.range h (n + 1) (s + 1)
    rw [List.range'_succ]
    rw [List.range'_succ] at this ⊢
    exact .cons (h s) this
def isI (zs : List V) (i : Nat) : Prop := ∃ n : Int, zs[i]? = some (.int n)
def PN (zs : List V) (a x y : Nat) : Prop := y = x + 1 ∨ ((isI zs x ∨ x + 1 = a ∨ isI zs (x + 1)) ∧ ∃ z, y = z + 1 ∧ (isI zs z ∨ z = a + 1))
theorem last_int : ∀ (u : Tm) (zs post : List V) (s : Nat), zs.drop s = u.enc ++ post → isI zs (s + u.enc.length - 1)
  | .var n, zs, post, s, h => by
    have := (drop_get (v := .int n) (r := post) (by rw [h]; rfl)).1
    exact ⟨n, this⟩
  | .lam b, zs, post, s, h => by
    have h1 := (drop_get (v := .str "lam") (r := b.enc ++ post) (by rw [h]; simp [Tm.enc])).2
    have := last_int b zs post (s + 1) h1
    have pos := List.length_pos_iff.mpr b.enc_ne
    have e : s + (Tm.lam b).enc.length - 1 = s + 1 + b.enc.length - 1 := by
      simp only [Tm.enc, List.length_cons]
      omega
    rw [e]
    exact this
  | .app f a, zs, post, s, h => by
    have h1 := (drop_get (v := .str "app") (r := f.enc ++ (a.enc ++ post)) (by rw [h]; simp [Tm.enc])).2
    have h2 : zs.drop (s + 1 + f.enc.length) = a.enc ++ post := by rw [← List.drop_drop, h1, List.drop_left]
    have := last_int a zs post _ h2
    have e : s + (Tm.app f a).enc.length - 1 = s + 1 + f.enc.length + a.enc.length - 1 := by
      simp only [Tm.enc, List.length_cons, List.length_append]
      omega
    rw [e]
    exact this
/-- the kinds of a node and of where it comes from -/
inductive KO (zs : List V) : List V → List Nat → Prop
  | nil : KO zs [] []
  | cons {w : V} {o : Nat} {ws : List V} {os : List Nat} (h : (zs[o]? = some (.str "app") ↔ w = .str "app") ∧ (zs[o]? = some (.str "lam") ↔ w = .str "lam") ∧ o < zs.length) (r : KO zs ws os) : KO zs (w :: ws) (o :: os)
theorem KO.app {zs ws ws' : List V} {os os' : List Nat} (h : KO zs ws os) (k : KO zs ws' os') : KO zs (ws ++ ws') (os ++ os') := by
  induction h with
  | nil => exact k
  | cons h _ ih => exact .cons h ih
theorem KO.len {zs ws : List V} {os : List Nat} (h : KO zs ws os) : os.length = ws.length := by
  induction h with
  | nil => rfl
  | cons _ _ ih => simp [ih]
theorem KO.at {zs ws : List V} {os : List Nat} (h : KO zs ws os) : ∀ {j o : Nat}, os[j]? = some o → ∃ w, ws[j]? = some w ∧ (zs[o]? = some (.str "app") ↔ w = .str "app") ∧ (zs[o]? = some (.str "lam") ↔ w = .str "lam") ∧ o < zs.length := by
  induction h with
  | nil => intro j o ho; simp at ho
  | cons h _ ih =>
    intro j o ho
    cases j with
    | zero =>
      simp at ho
      subst ho
      exact ⟨_, rfl, h⟩
    | succ j => exact ih (by simpa using ho)
theorem KO.same {zs : List V} : ∀ (ws post : List V) (s : Nat), zs.drop s = ws ++ post → KO zs ws (List.range' s ws.length)
  | [], _, _, _ => .nil
  | w :: ws, post, s, h => by
    obtain ⟨h1, h2⟩ := drop_get (v := w) (r := ws ++ post) (by rw [h]; rfl)
    rw [List.length_cons, List.range'_succ]
    exact .cons ⟨by rw [h1]; simp, by rw [h1]; simp, (List.getElem?_eq_some_iff.mp h1).1⟩ (KO.same ws post (s + 1) h2)
theorem KO.vm {zs : List V} {c : Nat} {ws : List V} {os : List Nat} (h : KO zs ws os) : ∀ ds : List Nat, ds.length = ws.length → KO zs (List.zipWith (Ly.vm (lif c)) ws ds) os := by
  induction h with
  | nil => intro ds _; simp; exact .nil
  | @cons w o ws os h _ ih =>
    intro ds hd
    cases ds with
    | nil => simp at hd
    | cons d ds =>
      rw [List.zipWith_cons_cons]
      refine .cons ?_ (ih ds (by simpa using hd))
      have e : ∀ x : Str, Ly.vm (lif c) w d = .str x ↔ w = .str x := fun x => by
        cases w <;> simp [Ly.vm]
      exact ⟨by rw [e]; exact h.1, by rw [e]; exact h.2.1, h.2.2⟩
theorem last_app {l1 l2 : List Nat} (h : l2 ≠ []) : (l1 ++ l2).getLast? = l2.getLast? := by
  obtain ⟨r, x, rfl⟩ : ∃ r x, l2 = r ++ [x] := ⟨_, _, (List.dropLast_concat_getLast h).symm⟩
  rw [← List.append_assoc]
  simp
theorem pO_var {O2 : List Nat} (n d s : Nat) : pO O2 (Tm.var n).enc ((Tm.var n).deps d) (List.range' s 1) = if n = d then O2 else [s] := by
  simp only [Tm.enc, Tm.deps, List.range'_succ, pO, List.range'_zero]
  by_cases h : n = d
  · subst h
    simp
  · rw [if_neg (by simp; omega), if_neg h]
    simp
theorem pO_lam {O2 : List Nat} (b : Tm) (d s : Nat) : pO O2 (Tm.lam b).enc ((Tm.lam b).deps d) (List.range' s (Tm.lam b).enc.length) = s :: pO O2 b.enc (b.deps (d + 1)) (List.range' (s + 1) b.enc.length) := by
  simp only [Tm.enc, Tm.deps, List.length_cons, List.range'_succ, pO]
  rw [if_neg (by simp)]
  rfl
theorem pO_appT {O2 : List Nat} (f a : Tm) (d s : Nat) : pO O2 (Tm.app f a).enc ((Tm.app f a).deps d) (List.range' s (Tm.app f a).enc.length) = s :: (pO O2 f.enc (f.deps d) (List.range' (s + 1) f.enc.length) ++ pO O2 a.enc (a.deps d) (List.range' (s + 1 + f.enc.length) a.enc.length)) := by
  simp only [Tm.enc, Tm.deps, List.length_cons, List.length_append, List.range'_succ, pO]
  rw [if_neg (by simp), ← pO_app O2 (by rw [Tm.deps_len]) (by simp)]
  congr 2
  have := List.range'_append (s := s + 1) (m := f.enc.length) (n := a.enc.length) (step := 1)
  rw [Nat.one_mul] at this
  rw [this]
  rfl
theorem pO_ok {zs : List V} {a m : Nat} {u : Tm} {post2 : List V} (hu : zs.drop m = u.enc ++ post2) (hm : 1 ≤ m) (hmi : isI zs (m - 1)) : ∀ (b : Tm) (d s : Nat) (post : List V), zs.drop s = b.enc ++ post →
    Chn (PN zs a) (pO (List.range' m u.enc.length) b.enc (b.deps d) (List.range' s b.enc.length)) ∧
    (∃ h r, pO (List.range' m u.enc.length) b.enc (b.deps d) (List.range' s b.enc.length) = h :: r ∧ (h = s ∨ (h = m ∧ isI zs s))) ∧
    (∃ l, (pO (List.range' m u.enc.length) b.enc (b.deps d) (List.range' s b.enc.length)).getLast? = some l ∧ isI zs l) ∧
    KO zs (Tm.put u d b).enc (pO (List.range' m u.enc.length) b.enc (b.deps d) (List.range' s b.enc.length))
  | .var n, d, s, post, h => by
    have h0 := (drop_get (v := .int n) (r := post) (by rw [h]; rfl)).1
    have hl : (Tm.var n).enc.length = 1 := rfl
    have upos := List.length_pos_iff.mpr u.enc_ne
    rw [hl, pO_var]
    by_cases e : n = d
    · rw [if_pos e]
      obtain ⟨k, hk⟩ : ∃ k, u.enc.length = k + 1 := ⟨u.enc.length - 1, by omega⟩
      refine ⟨Chn.range (fun x => .inl rfl) _ _, ⟨m, _, by rw [hk, List.range'_succ], .inr ⟨rfl, n, h0⟩⟩, ⟨m + u.enc.length - 1, ?_, last_int u zs post2 m hu⟩, ?_⟩
      · rw [List.getLast?_eq_getElem?, List.length_range', List.getElem?_range' (by omega)]
        congr 1
        omega
      · have : (Tm.put u d (.var n)).enc = (u.vmap (lif d) 0).enc := by
          simp only [Tm.put]
          rw [if_neg (by omega), if_pos e]
        rw [this, Tm.enc_vmap]
        exact KO.vm (KO.same u.enc post2 m hu) _ (by rw [Tm.deps_len])
    · rw [if_neg e]
      refine ⟨.one s, ⟨s, [], rfl, .inl rfl⟩, ⟨s, rfl, n, h0⟩, ?_⟩
      have : ∃ k : Nat, (Tm.put u d (.var n)).enc = [V.int (k : Int)] := by
        simp only [Tm.put]
        by_cases g : n < d
        · rw [if_pos g]
          exact ⟨n, rfl⟩
        · rw [if_neg g, if_neg e]
          exact ⟨n - 1, rfl⟩
      obtain ⟨k, hk⟩ := this
      rw [hk]
      exact .cons ⟨by rw [h0]; simp, by rw [h0]; simp, (List.getElem?_eq_some_iff.mp h0).1⟩ .nil
  | .lam b, d, s, post, h => by
    obtain ⟨h0, h1⟩ := drop_get (v := .str "lam") (r := b.enc ++ post) (by rw [h]; simp [Tm.enc])
    obtain ⟨c, ⟨x, r, hx, hh⟩, ⟨l, hl, hi⟩, ko⟩ := pO_ok (a := a) hu hm hmi b (d + 1) (s + 1) post h1
    rw [pO_lam]
    refine ⟨?_, ⟨s, _, rfl, .inl rfl⟩, ⟨l, ?_, hi⟩, ?_⟩
    · rw [hx] at c ⊢
      refine .cons ?_ c
      rcases hh with rfl | ⟨rfl, hs⟩
      · exact .inl rfl
      · exact .inr ⟨.inr (.inr hs), x - 1, by omega, .inl hmi⟩
    · rw [hx] at hl ⊢
      rw [List.getLast?_cons_cons]
      exact hl
    · exact .cons ⟨by rw [h0]; simp [str_ne1], by rw [h0]; simp, (List.getElem?_eq_some_iff.mp h0).1⟩ ko
  | .app f g, d, s, post, h => by
    obtain ⟨h0, h1⟩ := drop_get (v := .str "app") (r := f.enc ++ (g.enc ++ post)) (by rw [h]; simp [Tm.enc])
    have h2 : zs.drop (s + 1 + f.enc.length) = g.enc ++ post := by rw [← List.drop_drop, h1, List.drop_left]
    obtain ⟨c, ⟨x, r, hx, hh⟩, ⟨l, hl, hi⟩, ko⟩ := pO_ok (a := a) hu hm hmi f d (s + 1) (g.enc ++ post) h1
    obtain ⟨c', ⟨x', r', hx', hh'⟩, ⟨l', hl', hi'⟩, ko'⟩ := pO_ok (a := a) hu hm hmi g d (s + 1 + f.enc.length) post h2
    have lf := last_int f zs (g.enc ++ post) (s + 1) h1
    have fpos := List.length_pos_iff.mpr f.enc_ne
    rw [pO_appT]
    have cc := c.app c' (fun y z hy hz => by
      rw [hl] at hy
      cases hy
      rw [hx'] at hz
      cases hz
      refine .inr ⟨.inl hi, ?_⟩
      rcases hh' with rfl | ⟨rfl, _⟩
      · exact ⟨s + f.enc.length, by omega, .inl (by rwa [show s + 1 + f.enc.length - 1 = s + f.enc.length by omega] at lf)⟩
      · exact ⟨x' - 1, by omega, .inl hmi⟩)
    refine ⟨?_, ⟨s, _, rfl, .inl rfl⟩, ⟨l', ?_, hi'⟩, ?_⟩
    · rw [hx] at cc ⊢
      rw [List.cons_append] at cc ⊢
      refine .cons ?_ cc
      rcases hh with rfl | ⟨rfl, hs⟩
      · exact .inl rfl
      · exact .inr ⟨.inr (.inr hs), x - 1, by omega, .inl hmi⟩
    · rw [hx, hx'] at *
      rw [← List.cons_append, last_app (by simp)]
      exact hl'
    · exact .cons ⟨by rw [h0]; simp, by rw [h0]; simp [str_ne2], (List.getElem?_eq_some_iff.mp h0).1⟩ (ko.app ko')
/-- where the nodes behind a step come from: node by node, and which kinds -/
theorem stepO_ok {t : Tm} {p : List Nat} {a : Nat} {b u : Tm} (hred : t.Red p a b u) : Chn (PN t.enc a) (stepO t a b u) ∧ (∃ l, (stepO t a b u).getLast? = some l ∧ isI t.enc l) ∧ KO t.enc (t.step p).enc (stepO t a b u) := by
  obtain ⟨post, hdr⟩ := Tm.red_at hred
  have lt := Tm.sub_lt hred
  have hal : (Tm.app (.lam b) u).enc.length = b.enc.length + u.enc.length + 2 := by
    simp only [Tm.enc, List.length_cons, List.length_append]
    omega
  rw [hal] at lt
  obtain ⟨g0, d1⟩ := drop_get hdr
  obtain ⟨g1, d2⟩ := drop_get d1
  have d3 : t.enc.drop (a + 2 + b.enc.length) = u.enc ++ post := by
    rw [← List.drop_drop, show t.enc.drop (a + 2) = t.enc.drop (a + 1 + 1) from rfl, d2, List.drop_left]
  have d4 : t.enc.drop (a + 2 + b.enc.length + u.enc.length) = post := by
    rw [← List.drop_drop, d3, List.drop_left]
  have bpos := List.length_pos_iff.mpr b.enc_ne
  have upos := List.length_pos_iff.mpr u.enc_ne
  have lb := last_int b t.enc (u.enc ++ post) (a + 2) d2
  have lu := last_int u t.enc post (a + 2 + b.enc.length) d3
  have lt2 := last_int t t.enc [] 0 (by simp)
  obtain ⟨c, ⟨x, r, hx, hh⟩, ⟨l, hl, hi⟩, ko⟩ := pO_ok (zs := t.enc) (a := a) (m := a + 2 + b.enc.length) (u := u) d3 (by omega) (by rw [show a + 2 + b.enc.length - 1 = a + 2 + b.enc.length - 1 from rfl]; exact lb) b 0 (a + 2) (u.enc ++ post) d2
  have hne : pO (List.range' (a + 2 + b.enc.length) u.enc.length) b.enc (b.deps 0) (List.range' (a + 2) b.enc.length) ≠ [] := by rw [hx]; simp
  have cpre := (Chn.range (R := PN t.enc a) (fun x => .inl rfl) a 0).app c (fun y z hy hz => by
    rw [hx] at hz
    cases hz
    have hya : y + 1 = a := by
      rw [List.getLast?_eq_getElem?, List.length_range'] at hy
      have := (List.getElem?_eq_some_iff.mp hy)
      obtain ⟨h1, h2⟩ := this
      rw [List.getElem_range'] at h2
      rw [List.length_range'] at h1
      omega
    refine .inr ⟨.inr (.inl hya), ?_⟩
    rcases hh with rfl | ⟨rfl, _⟩
    · exact ⟨a + 1, rfl, .inr rfl⟩
    · exact ⟨a + 2 + b.enc.length - 1, by omega, .inl lb⟩)
  have lastpre : (List.range' 0 a ++ pO (List.range' (a + 2 + b.enc.length) u.enc.length) b.enc (b.deps 0) (List.range' (a + 2) b.enc.length)).getLast? = some l := by
    rw [last_app hne]
    exact hl
  have call := cpre.app (Chn.range (R := PN t.enc a) (fun x => .inl rfl) (t.enc.length - (a + 2 + b.enc.length + u.enc.length)) (a + 2 + b.enc.length + u.enc.length)) (fun y z hy hz => by
    rw [lastpre] at hy
    cases hy
    refine .inr ⟨.inl hi, a + 2 + b.enc.length + u.enc.length - 1, ?_, .inl lu⟩
    cases hk : t.enc.length - (a + 2 + b.enc.length + u.enc.length) with
    | zero => rw [hk] at hz; simp at hz
    | succ k =>
      rw [hk, List.range'_succ] at hz
      cases hz
      omega)
  refine ⟨call, ?_, ?_⟩
  · by_cases hk : t.enc.length - (a + 2 + b.enc.length + u.enc.length) = 0
    · refine ⟨l, ?_, hi⟩
      unfold stepO
      rw [hk, List.range'_zero, List.append_nil]
      exact lastpre
    · refine ⟨t.enc.length - 1, ?_, by rwa [Nat.zero_add] at lt2⟩
      unfold stepO
      rw [last_app (by simp; omega), List.getLast?_eq_getElem?, List.length_range', List.getElem?_range' (by omega)]
      congr 1
      omega
  · unfold stepO
    rw [Tm.step_enc hred]
    have k1 : KO t.enc (t.enc.take a) (List.range' 0 a) := by
      have := KO.same (zs := t.enc) (t.enc.take a) (t.enc.drop a) 0 (by simp)
      rw [List.length_take, Nat.min_eq_left (by omega)] at this
      exact this
    have k3 : KO t.enc (t.enc.drop (a + 2 + b.enc.length + u.enc.length)) (List.range' (a + 2 + b.enc.length + u.enc.length) (t.enc.length - (a + 2 + b.enc.length + u.enc.length))) := by
      have := KO.same (zs := t.enc) (t.enc.drop (a + 2 + b.enc.length + u.enc.length)) [] (a + 2 + b.enc.length + u.enc.length) (by simp)
      rw [List.length_drop] at this
      exact this
    exact (k1.app ko).app k3
end Ly
set_option Elab.async false
set_option linter.all false
set_option maxRecDepth 100000
set_option maxHeartbeats 2000000
namespace Ly
open PySem PySem.Spec PyProof.Rows L2 Evl
structure Mv where
  t : Tm
  p : List Nat
  i : Nat
  b : Tm
  u : Tm
def Mv.ok (m : Mv) : Prop := m.t.Red m.p m.i m.b m.u
def Mv.O (m : Mv) : List Nat := stepO m.t m.i m.b m.u
def Mv.nx (m : Mv) : Tm := m.t.step m.p
/-- a road's moves, from t on, to v -/
inductive Run : Tm → List (List Nat) → List Mv → Tm → Prop
  | nil {t : Tm} : Run t [] [] t
  | cons {t v : Tm} {p : List Nat} {i : Nat} {b u : Tm} {r : List (List Nat)} {ms : List Mv} (h : t.Red p i b u) (hf : fitsV (t.step p).enc = true) (hr : Run (t.step p) r ms v) : Run t (p :: r) (⟨t, p, i, b, u⟩ :: ms) v
theorem Run.snoc {t v : Tm} {r : List (List Nat)} {ms : List Mv} (h : Run t r ms v) {p : List Nat} {i : Nat} {b u : Tm} (hp : v.Red p i b u) (hf : fitsV (v.step p).enc = true) : Run t (r ++ [p]) (ms ++ [⟨v, p, i, b, u⟩]) (v.step p) := by
  induction h with
  | nil => exact .cons hp hf .nil
  | cons h hf2 _ ih => exact .cons h hf2 (ih hp hf)
theorem Run.len {t v : Tm} {r : List (List Nat)} {ms : List Mv} (h : Run t r ms v) : ms.length = r.length := by
  induction h with
  | nil => rfl
  | cons _ _ _ ih => simp [ih]
theorem pO_mem {O2 : List Nat} {o : Nat} : ∀ {ws : List V} {ds os : List Nat}, o ∈ pO O2 ws ds os → o ∈ O2 ∨ o ∈ os
  | [], _, _, h => by simp [pO] at h
  | _ :: _, [], _, h => by simp [pO] at h
  | _ :: _, _ :: _, [], h => by simp [pO] at h
  | w :: ws, d :: ds, x :: os, h => by
    simp only [pO] at h
    rcases List.mem_append.mp h with h | h
    · split at h
      · exact .inl h
      · rw [List.mem_singleton.mp h]
        exact .inr List.mem_cons_self
    · rcases pO_mem h with h | h
      · exact .inl h
      · exact .inr (List.mem_cons_of_mem _ h)
/-- where a node comes from, some moves before -/
def back : List Mv → Nat → Nat
  | [], x => x
  | m :: ms, x => m.O.getD (back ms x) 0
theorem back_app : ∀ (ms : List Mv) (m : Mv) (x : Nat), back (ms ++ [m]) x = back ms (m.O.getD x 0)
  | [], _, _ => rfl
  | n :: ms, m, x => by
    show n.O.getD (back (ms ++ [m]) x) 0 = n.O.getD (back ms _) 0
    rw [back_app ms m x]
theorem Mv.at (m : Mv) (h : m.ok) {x : Nat} (hx : x < m.nx.enc.length) : ∃ o, m.O[x]? = some o ∧ m.O.getD x 0 = o ∧ o < m.t.enc.length := by
  obtain ⟨_, _, hk⟩ := stepO_ok h
  have hl : x < m.O.length := by
    show x < (stepO _ _ _ _).length
    rw [hk.len]
    exact hx
  obtain ⟨w, _, _, _, ho⟩ := hk.at (j := x) (List.getElem?_eq_getElem hl)
  refine ⟨m.O[x], List.getElem?_eq_getElem hl, ?_, ho⟩
  rw [List.getD_eq_getElem?_getD, List.getElem?_eq_getElem hl]
  rfl
theorem redB_lt {xs : List V} {i : Nat} (h : redB xs i = true) : i + 1 < xs.length := (List.getElem?_eq_some_iff.mp (redB_iff.mp h).2).1
/-- a redex in front of a move's -/
def Mv.bad (m : Mv) (r : Nat) : Bool := decide (r < m.i) && redB m.t.enc r
def Hits (m0 : Mv) (done : List Mv) (m : Mv) : Prop := ∃ r, m0.bad r = true ∧ back done (m.i + 1) = r + 1
def stdI (m0 : Mv) : List Mv → List Mv → Prop
  | _, [] => True
  | done, m :: ms => ¬ Hits m0 done m ∧ stdI m0 (done ++ [m]) ms
def stdL : List Mv → Prop
  | [] => True
  | m :: ms => stdI m [m] ms ∧ stdL ms
/-- every move steps at a redex -/
theorem Run.sub {t v : Tm} {road : List (List Nat)} {ms : List Mv} (h : Run t road ms v) : ∀ {j : Nat} {m : Mv}, ms[j]? = some m → m.ok ∧ ∃ r, Run t r (ms.take j) m.t := by
  induction h with
  | nil => intro j m hm; simp at hm
  | @cons t v p i b u q ms h hf hrun ih =>
    intro j m hm
    cases j with
    | zero =>
      simp at hm
      subst hm
      exact ⟨h, [], .nil⟩
    | succ j =>
      obtain ⟨h1, r, h2⟩ := ih (by simpa using hm)
      exact ⟨h1, p :: r, .cons h hf h2⟩
theorem stdI_iff (m0 : Mv) : ∀ (ms done : List Mv), stdI m0 done ms ↔ ∀ j m, ms[j]? = some m → ¬ Hits m0 (done ++ ms.take j) m
  | [], done => by simp [stdI]
  | n :: ms, done => by
    simp only [stdI, stdI_iff m0 ms]
    constructor
    · rintro ⟨h1, h2⟩ j m hm
      cases j with
      | zero =>
        simp at hm
        subst hm
        simpa using h1
      | succ j =>
        have := h2 j m (by simpa using hm)
        simpa using this
    · intro h
      refine ⟨by simpa using h 0 n rfl, fun j m hm => ?_⟩
      have := h (j + 1) m (by simpa using hm)
      simpa using this
end Ly
set_option Elab.async false
set_option linter.all false
set_option maxRecDepth 100000
set_option maxHeartbeats 2000000
namespace Ly
open PySem PySem.Spec PyProof.Rows L2 Evl
/-- a class that is made by calling it -/
def DefC (P : Program) (w : World) (K : PySem.W.Frag) (mg : Str → Option Value) (base : Heap) (CX : CXT) (k : Nat) (C : Addr) (ps : List Str) (sp : Sp) : Prop :=
  ∃ (f : Addr) (fd : FuncData), Mk K C f ∧ Binds K fd ps [] ∧ FnOk P w K mg base CX k f fd ps sp
theorem DefC.of {P : Program} {w : World} {K : PySem.W.Frag} {mg : Str → Option Value} {base : Heap} {CX : CXT} {k : Nat} {C : Addr} {ps : List Str} {sp : Sp} {f : Addr} {fd : FuncData} (M : Mk K C f) (b : Binds K fd ps []) (G : FnOk P w K mg base CX k f fd ps sp) : DefC P w K mg base CX k C ps sp := ⟨f, fd, M, b, G⟩
section
variable {K : PySem.W.Frag} {σ : L2.St} {H : Hp} {Q : VK} {D : Ends} {ta tb : TE} {tA : TA} {g : TG} {s1 : TS} {R : It → Hp → Prop}
theorem w_iE (h : tA σ H fun vs H1 => ∃ a xs, vs = [.ref a] ∧ SqL K H1 a xs ∧ R (Ite K a) H1) : iEnum K tA σ H R := h
theorem w_iE1 {a : Addr} {xs : List V} {B : Addr → Prop} (h : SqL K H a xs) (q : B a) : ∃ b ys, [V.ref a] = [V.ref b] ∧ SqL K H b ys ∧ B b := ⟨a, xs, rfl, h, q⟩
theorem for_enum {a : Addr} {xs : List V} (Pv : Nat → L2.St → Hp → Prop) (h0 : Pv 0 σ H) (hl : ∀ i σ H, Pv i σ H → SqL K H a xs)
    (hs : ∀ i x T σ H, xs[i]? = some x → H T = none → Pv i σ H → g (.ref T) σ (upd H T (.tup [.int (i : Nat), x])) fun σ2 H2 => s1 { D with nx := Pv (i + 1), ct := Pv (i + 1), bk := D.nx } σ2 H2) (hd : ∀ σ H, Pv xs.length σ H → D.nx σ H) : ForB (Ite K a) g s1 D σ H := by
  refine ⟨fun i m σ H => m = xs.length - i ∧ i ≤ xs.length ∧ Pv i σ H, ⟨_, rfl, Nat.zero_le _, h0⟩, ?_⟩
  rintro i m σ H ⟨rfl, hi, p⟩
  have sq := hl i σ H p
  by_cases hlt : i < xs.length
  · refine .inr ⟨⟨xs, xs[i], sq, List.getElem?_eq_getElem hlt⟩, Pv (i + 1), fun σ' H' p' => ⟨xs.length - (i + 1), by omega, rfl, hlt, p'⟩, fun x H' y => ?_⟩
    obtain ⟨T, z, rfl, hT, rfl, hz⟩ := y
    exact hs i z T σ H (hz xs sq) hT p
  · have e : i = xs.length := by omega
    subst e
    exact .inl ⟨⟨xs, sq, Nat.le_refl _⟩, hd σ H p⟩
theorem lc_enum {a : Addr} {xs : List V} {tt : TT} {te : TE} {vs : List Nat} {H1 : Hp} {Dl : Addr} (Pv : Nat → Hp → Prop) (h0 : Pv 0 (upd H1 Dl (.lst []))) (hl : ∀ i H, Pv i H → SqL K H a xs)
    (hs : ∀ i x T H, xs[i]? = some x → H T = none → Pv i H → g (.ref T) (wipe σ vs) (upd H T (.tup [.int (i : Nat), x])) fun σ2 H2 => wipe σ2 vs = wipe σ vs ∧ tt σ2 H2 fun b H3 =>
      if b = true then te σ2 H3 fun y H4 => ∃ acc, H4 Dl = some (.lst acc) ∧ acc.length < sizeLine ∧ Pv (i + 1) (upd H4 Dl (.lst (acc ++ [y]))) else Pv (i + 1) H3) (hd : ∀ H, Pv xs.length H → Q (.ref Dl) H) : LcB (Ite K a) g tt te vs Q σ H1 Dl := by
  refine ⟨fun i m H => m = xs.length - i ∧ i ≤ xs.length ∧ Pv i H, ⟨_, rfl, Nat.zero_le _, h0⟩, ?_⟩
  rintro i m H ⟨rfl, hi, p⟩
  have sq := hl i H p
  by_cases hlt : i < xs.length
  · refine .inr ⟨⟨xs, xs[i], sq, List.getElem?_eq_getElem hlt⟩, Pv (i + 1), fun H' p' => ⟨xs.length - (i + 1), by omega, rfl, hlt, p'⟩, fun x H' y => ?_⟩
    obtain ⟨T, z, rfl, hT, rfl, hz⟩ := y
    exact hs i z T H (hz xs sq) hT p
  · have e : i = xs.length := by omega
    subst e
    exact .inl ⟨⟨xs, sq, Nat.le_refl _⟩, hd H p⟩
theorem rgV_nat (a b : Nat) : rgV (a : Int) (b : Int) = nums (List.range' a (b - a)) := by
  unfold rgV
  apply List.ext_getElem
  · simp
  · intro i h1 h2
    simp
theorem w_lstRg {te : L2.St → Hp → (Int → Int → Hp → Prop) → Prop} (h : te σ H fun a b H1 => RgOk a b ∧ ∀ q, H1 q = none → Q (.ref q) (upd H1 q (.lst (rgV a b)))) : tLstRg te σ H Q := h
theorem w_rg1 {R : Int → Int → Hp → Prop} (h : ta σ H fun x H1 => ∃ n, x = .int n ∧ R 0 n H1) : tRg1 ta σ H R := h
theorem w_rg2 {R : Int → Int → Hp → Prop} (h : ta σ H fun x H1 => tb σ H1 fun y H2 => ∃ i j, x = .int i ∧ y = .int j ∧ R i j H2) : tRg2 ta tb σ H R := h
theorem w_rg1a {i : Int} {B : Int → Prop} (q : B i) : ∃ n, V.int i = .int n ∧ B n := ⟨i, rfl, q⟩
theorem w_rg2a {i j : Int} {B : Int → Int → Prop} (q : B i j) : ∃ a b, V.int i = .int a ∧ V.int j = .int b ∧ B a b := ⟨i, j, rfl, rfl, q⟩
theorem pg_tupK {X : Cx} {es : List Expr} {k : Nat} {pos : Pos} {t : TGs} {n : Nat} (e : X.K = K) (hc : X.calm = true) (h : PGs X es t) (hn : (assignEach es X.env).length = n := by rfl) (hst : (assignEach es X.env).findIdx? (·.1) = none := by rfl) : PG X (.Tuple es k pos) (gTup K n t) := by
  subst e
  exact pg_tup hc h hn hst
theorem w_sfld {f : Str} {to tv : TE} (h : tv σ H fun y H1 => to σ H1 fun x H2 => ∃ a C dx fs, x = .ref a ∧ H2 a = some (.ins C dx fs) ∧ Cls K C ∧ NoAttr K C f ∧ fs.length < 1000 ∧ D.nx σ (upd H2 a (.ins C dx (putF f y fs)))) : sFld K to tv f D σ H := h
theorem w_tfld {f : Str} (h : ta σ H fun x H1 => ∃ a C dx fs v, x = .ref a ∧ H1 a = some (.ins C dx fs) ∧ Cls K C ∧ NoAttr K C f ∧ fs.lookup f = some v ∧ Q v H1) : tFld K ta f σ H Q := h
theorem w_make {C : Addr} {sp : Sp} {dvs : List V} {E : XK} (h : tA σ H fun vs H1 => ∀ x dx, H1 x = none → H1 dx = none → dx ≠ x → sp (.ref x :: (vs ++ dvs)) (upd (upd H1 dx (.own x)) x (.ins C dx [])) (fun v H2 => v = .non ∧ Q (.ref x) H2) E) : tMake C sp dvs E tA σ H Q := h
end
end Ly
set_option Elab.async false
set_option linter.all false
namespace Ly
open PySem PySem.Spec PyProof.Rows L2 Evl
section
variable {X : Cx} {K : PySem.W.Frag}
end
end Ly
set_option Elab.async false
set_option linter.all false
set_option maxRecDepth 100000
set_option maxHeartbeats 2000000
namespace Ly
open PySem PySem.Spec PyProof.Rows L2 Evl
inductive MkL (K : PySem.W.Frag) (H : Hp) : List V → List Nat → Prop
  | nil : MkL K H [] []
  | cons {a : Addr} {k : Nat} {bs : List V} {ks : List Nat} (h : SqT K H a [.str "m", .int (k : Int)]) (r : MkL K H bs ks) : MkL K H (.ref a :: bs) (k :: ks)
section
variable {K : PySem.W.Frag} {H H' : Hp}
theorem MkL.mono {bs : List V} {ks : List Nat} (h : MkL K H bs ks) (e : ∀ a xs, SqT K H a xs → SqT K H' a xs) : MkL K H' bs ks := by
  induction h with
  | nil => exact .nil
  | cons h _ ih => exact .cons (e _ _ h) ih
theorem MkL.ex {bs : List V} {ks : List Nat} (h : MkL K H bs ks) (e : Ex H H') : MkL K H' bs ks := h.mono fun a xs z => ex_t e z
theorem MkL.snoc {bs : List V} {ks : List Nat} (h : MkL K H bs ks) {a : Addr} {k : Nat} (ha : SqT K H a [.str "m", .int (k : Int)]) : MkL K H (bs ++ [.ref a]) (ks ++ [k]) := by
  induction h with
  | nil => exact .cons ha .nil
  | cons h _ ih => exact .cons h ih
theorem MkL.len {bs : List V} {ks : List Nat} (h : MkL K H bs ks) : bs.length = ks.length := by
  induction h with
  | nil => rfl
  | cons _ _ ih => simp [ih]
end
end Ly
set_option Elab.async false
set_option linter.all false
set_option maxRecDepth 100000
set_option maxHeartbeats 2000000
namespace Ly
open PySem PySem.Spec PyProof.Rows L2 Evl
/-- the redex whose residual an index is, back through moves (the last one first) -/
def srcR : List Mv → Nat → Option Nat
  | [], x => some x
  | m :: ms, x => if redB m.t.enc (m.O.getD x 0) = true then srcR ms (m.O.getD x 0) else none
def src (done : List Mv) (x : Nat) : Option Nat := srcR done.reverse x
theorem src_snoc (done : List Mv) (m : Mv) (x : Nat) : src (done ++ [m]) x = if redB m.t.enc (m.O.getD x 0) = true then src done (m.O.getD x 0) else none := by
  unfold src
  rw [List.reverse_append]
  rfl
/-- a source is where the node comes from -/
theorem src_some : ∀ {done : List Mv} {x s : Nat}, src done x = some s → s = back done x := by
  intro done
  induction h : done.length generalizing done with
  | zero =>
    have : done = [] := List.length_eq_zero_iff.mp h
    subst this
    intro x s hs
    exact (Option.some.inj hs).symm
  | succ n ih =>
    intro x s hs
    have hne : done ≠ [] := fun z => by rw [z] at h; simp at h
    obtain ⟨d0, m, rfl⟩ : ∃ d0 m, done = d0 ++ [m] := ⟨_, _, (List.dropLast_concat_getLast hne).symm⟩
    rw [src_snoc] at hs
    split at hs
    · rw [back_app]
      exact ih (by simpa using h) hs
    · cases hs
/-- the least source, and its move's number -/
def fsN (ms : List Mv) (i0 : Nat) : Nat → Nat × Nat
  | 0 => (i0, 0)
  | j + 1 => match (ms[j + 1]?).bind fun m => src (ms.take (j + 1)) m.i with
    | some s => if s < (fsN ms i0 j).1 then (s, j + 1) else fsN ms i0 j
    | none => fsN ms i0 j
end Ly
set_option Elab.async false
set_option linter.all false
set_option maxRecDepth 100000
set_option maxHeartbeats 2000000
namespace Ly
open PySem PySem.Spec PyProof.Rows L2 Evl
theorem redI_nil {xs : List V} : ∀ {n : Nat}, (∀ j, j < n → redB xs j = false) → redI xs n = []
  | 0, _ => rfl
  | n + 1, h => by
    simp only [redI]
    rw [redI_nil fun j hj => h j (by omega), h n (by omega)]
    rfl
theorem redI_one {xs : List V} {i : Nat} (h : redB xs i = true) (h0 : ∀ j, j < i → redB xs j = false) : ∀ {n : Nat}, i < n → ∃ r, redI xs n = i :: r
  | 0, hn => absurd hn (Nat.not_lt_zero _)
  | n + 1, hn => by
    simp only [redI]
    by_cases e : i = n
    · subst e
      rw [redI_nil h0, h]
      exact ⟨[], rfl⟩
    · obtain ⟨r, hr⟩ := redI_one h h0 (n := n) (by omega)
      rw [hr]
      exact ⟨_, rfl⟩
/-- no index is a redex's: no redex -/
theorem Tm.no_reds {t : Tm} (h : ∀ j, j < t.enc.length → redB t.enc j = false) : t.reds [] = [] := by
  rw [← redK_all t, ← redI_K, redI_nil h]
  rfl
/-- the least index of a redex: the first redex -/
theorem Tm.first_red {t : Tm} {i : Nat} (hi : i < t.enc.length) (h : redB t.enc i = true) (h0 : ∀ j, j < i → redB t.enc j = false) : ∃ p r b u, (t.pls [])[i]? = some p ∧ t.reds [] = p :: r ∧ t.Red p i b u := by
  obtain ⟨p, u, post, hp, hs, hd⟩ := t.part_at hi
  rcases red_sub hs with ⟨_, b, v, hr⟩ | ⟨hb, _⟩
  · obtain ⟨r, he⟩ := redI_one h h0 hi
    refine ⟨p, r.map (fun i => (t.pls []).getD i []), b, v, hp, ?_, hr⟩
    rw [← redK_all t, ← redI_K, he, List.map_cons, List.getD_eq_getElem?_getD, hp]
    rfl
  · rw [h] at hb
    cases hb
/-- a step changes nothing in front of it -/
theorem Tm.step_low {t : Tm} {p : List Nat} {i : Nat} {b u : Tm} (h : t.Red p i b u) {j : Nat} (hj : j + 1 < i) : redB (t.step p).enc j = redB t.enc j := by
  have lt := Tm.sub_lt h
  have e := Tm.step_enc h
  have g : ∀ k, k < i → (t.step p).enc[k]? = t.enc[k]? := fun k hk => by
    rw [e, List.append_assoc, List.getElem?_append_left (by rw [List.length_take]; omega), List.getElem?_take_of_lt hk]
  unfold redB
  rw [g j (by omega), g (j + 1) hj]
/-- what steps at the first redex come to -/
inductive Wk where
  | done (u : Tm)
  | out
  | large
def Tm.nf : Nat → Tm → List (List Nat) × Wk
  | 0, t => ([], match t.reds [] with | [] => .done t | _ => .out)
  | k + 1, t => match t.reds [] with
    | [] => ([], .done t)
    | p :: _ => if fitsV (t.step p).enc = false then ([p], .large) else (p :: (Tm.nf k (t.step p)).1, (Tm.nf k (t.step p)).2)
def preW (r : List (List Nat)) (x : List (List Nat) × Wk) : List (List Nat) × Wk := (r ++ x.1, x.2)
theorem Tm.nf_none {t : Tm} (h : t.reds [] = []) : ∀ k, Tm.nf k t = ([], .done t)
  | 0 => by unfold Tm.nf; rw [h]
  | k + 1 => by unfold Tm.nf; rw [h]
theorem Tm.nf_zero {t : Tm} {p : List Nat} {r : List (List Nat)} (h : t.reds [] = p :: r) : Tm.nf 0 t = ([], .out) := by unfold Tm.nf; rw [h]
theorem Tm.nf_large {t : Tm} {p : List Nat} {r : List (List Nat)} (h : t.reds [] = p :: r) (hf : fitsV (t.step p).enc = false) (k : Nat) : Tm.nf (k + 1) t = ([p], .large) := by
  rw [Tm.nf, h]
  exact if_pos hf
theorem Tm.nf_step {t : Tm} {p : List Nat} {r : List (List Nat)} (h : t.reds [] = p :: r) (hf : fitsV (t.step p).enc = true) (k : Nat) : Tm.nf (k + 1) t = preW [p] (Tm.nf k (t.step p)) := by
  rw [Tm.nf, h]
  exact if_neg (by rw [hf]; simp)
theorem preW_app (r s : List (List Nat)) (x : List (List Nat) × Wk) : preW r (preW s x) = preW (r ++ s) x := by simp [preW]
section
variable {K : PySem.W.Frag} {H : Hp} {Q : VK}
theorem w_nnI {i : Int} {A B : Prop} (h : A) : if (!decide (V.int i = V.non)) = true then A else B := iteT h
theorem w_max {i j : Int} {A : Int → Prop} (q : A (if j > i then j else i)) : ∃ a b, [V.int i, V.int j] = [V.int a, V.int b] ∧ A (if b > a then b else a) := ⟨i, j, rfl, q⟩
theorem w_iR2 {σ : L2.St} {R : It → Hp → Prop} {tA : TA} (h : tA σ H fun vs H1 => ∃ i j : Int, vs = [.int i, .int j] ∧ (-(2 ^ 62) ≤ i ∧ i < 2 ^ 62 ∧ -(2 ^ 62) ≤ j ∧ j < 2 ^ 62) ∧ R (Itr i (j - i).toNat) H1) : iRng2 tA σ H R := h
theorem w_iR21 {i j : Int} {B : Int → Int → Prop} (h1 : -(2 ^ 62) ≤ i) (h2 : i < 2 ^ 62) (h3 : -(2 ^ 62) ≤ j) (h4 : j < 2 ^ 62) (q : B i j) : ∃ a b : Int, [V.int i, V.int j] = [V.int a, V.int b] ∧ (-(2 ^ 62) ≤ a ∧ a < 2 ^ 62 ∧ -(2 ^ 62) ≤ b ∧ b < 2 ^ 62) ∧ B a b := ⟨i, j, rfl, ⟨h1, h2, h3, h4⟩, q⟩
theorem w_break {D : Ends} {σ : L2.St} (h : D.bk σ H) : tBreak D σ H := h
theorem w_cont {D : Ends} {σ : L2.St} (h : D.ct σ H) : tCont D σ H := h
/-- a term and a number -/
def pairD (t : Tm) (n : Int) : PyData := .tuple [tmd t, .int n]
theorem pair_dp {a : Addr} {t : Tm} {n : Int} (h : SqT K H a t.enc) : DpAll K H [V.ref a, V.int n] [tmd t, .int n] := .cons (.tup h (dp_nodes t.nds)) (.cons (.int n) .nil)
theorem pair_shaped (t : Tm) (n : Int) : SeqAt.shaped (pairD t n) = true := by
  have h1 : (pairD t n).canLay0 = true := by
    show PyData.canLayAll0 [tmd t, .int n] = true
    have h : (tmd t).canLay0 = true := lay_nodes t.nds
    show ((tmd t).canLay0 && PyData.canLayAll0 [.int n]) = true
    rw [h]
    rfl
  have h2 : (pairD t n).depth ≤ 4 := by
    have h : (tmd t).depth ≤ 2 := depth_nodes
    have h0 : (PyData.int n).depth ≤ 1 := by simp [PyData.depth]
    simp only [pairD, PyData.depth, PyData.depthAll]
    simp only [PyData.depth] at h0
    omega
  unfold SeqAt.shaped
  rw [h1, Bool.true_and]
  exact decide_eq_true (by omega)
theorem pair_eqv (t : Tm) (n : Int) : PyData.eqv (pairD t n) (pairD t n) = true := by
  have h1 : PyData.eqv (tmd t) (tmd t) = true := by
    show PyData.eqv (.tuple (t.enc.map dv)) (.tuple (t.enc.map dv)) = true
    rw [PyData.eqv, eqv_nodes t.nds t.nds, decide_eq_true rfl]
  show PyData.eqv (.tuple [tmd t, .int n]) (.tuple [tmd t, .int n]) = true
  rw [PyData.eqv, PyData.eqvAll, h1, PyData.eqvAll, PyData.eqvAll]
  simp [PyData.eqv]
end
end Ly
set_option Elab.async false
set_option linter.all false
set_option maxRecDepth 100000
namespace Ly
open PySem PySem.Spec PyProof.Rows L2 Evl
end Ly
set_option Elab.async false
set_option linter.all false
set_option maxRecDepth 100000
namespace Ly
open PySem PySem.Spec PyProof.Rows L2 Evl
def Tm.apps : Tm → List Tm → Tm
  | h, [] => h
  | h, t :: ts => Tm.apps (.app h t) ts
theorem rep_snoc {α : Type} (n : Nat) (x : α) (r : List α) : List.replicate n x ++ x :: r = List.replicate (n + 1) x ++ r := by
  induction n with
  | zero => rfl
  | succ n ih =>
    rw [List.replicate_succ, List.cons_append, ih]
    simp [List.replicate_succ]
theorem Tm.apps_enc : ∀ (ts : List Tm) (h : Tm), (Tm.apps h ts).enc = List.replicate ts.length (V.str "app") ++ (h.enc ++ encs ts)
  | [], h => by simp [Tm.apps, encs]
  | t :: ts, h => by
    show (Tm.apps (.app h t) ts).enc = _
    rw [Tm.apps_enc ts, encs_cons]
    show List.replicate ts.length (V.str "app") ++ (V.str "app" :: (h.enc ++ t.enc) ++ encs ts) = _
    rw [List.cons_append, rep_snoc]
    simp
theorem rep_flat {x : V} : ∀ n : Nat, (List.replicate n [x]).flatten = List.replicate n x
  | 0 => rfl
  | n + 1 => by rw [List.replicate_succ, List.flatten_cons, rep_flat n, List.replicate_succ]; rfl
theorem Tm.lam_enc (n : Nat) (t : Tm) : (Tm.lamN n t).enc = List.replicate n (V.str "lam") ++ t.enc := by rw [Tm.enc_lamN, rep_flat]
theorem encs_app (ts us : List Tm) : encs (ts ++ us) = encs ts ++ encs us := by simp [encs]
section
variable {K : PySem.W.Frag} {H : Hp} {Q : VK} {l : Addr} {xs : List V}
end
end Ly
set_option Elab.async false
set_option linter.all false
set_option maxRecDepth 100000
namespace Ly
open PySem PySem.Spec PyProof.Rows L2 Evl
/-- n abstractions around the head h applied to the terms as -/
def SpineOf (t : Tm) (n : Nat) (h : Tm) (as : List Tm) : Prop := t = Tm.lamN n (Tm.apps h as) ∧ (∀ f a, h ≠ .app f a) ∧ (as = [] → ∀ b, h ≠ .lam b)
section
variable {t h : Tm} {n : Nat} {as : List Tm}
theorem SpineOf.enc (s : SpineOf t n h as) : t.enc = List.replicate n (V.str "lam") ++ (List.replicate as.length (V.str "app") ++ (h.enc ++ encs as)) := by
  rw [s.1, Tm.lam_enc, Tm.apps_enc]
theorem SpineOf.len (s : SpineOf t n h as) : t.enc.length = n + as.length + h.enc.length + (encs as).length := by
  rw [s.enc]
  simp
  omega
theorem SpineOf.at1 (s : SpineOf t n h as) {j : Nat} (hj : j < n) : t.enc[j]? = some (.str "lam") := by
  rw [s.enc, List.getElem?_append_left (by simpa using hj), List.getElem?_replicate, if_pos hj]
theorem SpineOf.drop (s : SpineOf t n h as) : t.enc.drop (n + as.length) = h.enc ++ encs as := by
  rw [s.enc, ← List.append_assoc]
  have e : n + as.length = (List.replicate n (V.str "lam") ++ List.replicate as.length (V.str "app")).length := by simp
  rw [e, List.drop_left]
theorem SpineOf.arg (s : SpineOf t n h as) {m i : Nat} (hm : h = .var m) {u : Tm} (hu : as[i]? = some u) : t.enc.drop (n + as.length + 1 + (encs (as.take i)).length) = u.enc ++ encs (as.drop (i + 1)) := by
  have hd := s.drop
  rw [hm] at hd
  rw [Nat.add_assoc (n + as.length), ← List.drop_drop, hd]
  show ((V.int (m : Int)) :: encs as).drop (1 + (encs (as.take i)).length) = _
  rw [Nat.add_comm, List.drop_succ_cons]
  have e : encs as = encs (as.take i) ++ (u.enc ++ encs (as.drop (i + 1))) := by
    have e1 : as = as.take i ++ u :: as.drop (i + 1) := by
      rw [← drop_at hu, List.take_append_drop]
    conv => lhs; rw [e1]
    rw [encs_app, encs_cons]
  rw [e, List.drop_left]
end
section
variable {K : PySem.W.Frag} {H : Hp} {Q : VK} {p q l m : Addr} {n v : Int} {bs cs : List Addr} {as : List Tm}
end
end Ly
set_option Elab.async false
set_option linter.all false
set_option maxRecDepth 100000
namespace Ly
open PySem PySem.Spec PyProof.Rows L2 Evl
inductive Cb where
  | S
  | K
  | I
  | var (n : Nat)
  | app (f a : Cb)
def Cb.enc : Cb → List V
  | .S => [.str "S"]
  | .K => [.str "K"]
  | .I => [.str "I"]
  | .var n => [.int n]
  | .app f a => .str "app" :: (f.enc ++ a.enc)
/-- its variables are below w -/
def Cb.lt (w : Nat) : Cb → Prop
  | .var n => n < w
  | .app f a => f.lt w ∧ a.lt w
  | _ => True
def cencs (ts : List Cb) : List V := (ts.map Cb.enc).flatten
theorem cencs_cons (t : Cb) (ts : List Cb) : cencs (t :: ts) = t.enc ++ cencs ts := by simp [cencs]
/-- whatever combinations stand for what is missing, the whole is one -/
def CComp (w : Nat) (nodes : List V) (m : Nat) : Prop := ∀ ts : List Cb, ts.length = m → (∀ t ∈ ts, t.lt w) → ∃ t : Cb, t.lt w ∧ t.enc = nodes ++ cencs ts
theorem CComp.start (w : Nat) : CComp w [] 1 := fun ts hl hw => by
  match ts, hl with
  | [t], _ => exact ⟨t, hw t (by simp), by simp [cencs]⟩
theorem CComp.done {w : Nat} {nodes : List V} (h : CComp w nodes 0) : ∃ t : Cb, t.lt w ∧ t.enc = nodes := by
  obtain ⟨t, h1, h2⟩ := h [] rfl (by simp)
  exact ⟨t, h1, by rw [h2]; simp [cencs]⟩
theorem CComp.leaf {w m : Nat} {nodes : List V} (h : CComp w nodes (m + 1)) (c : Cb) (hc : c.lt w) : CComp w (nodes ++ c.enc) m := fun ts hl hw => by
  obtain ⟨t, h1, h2⟩ := h (c :: ts) (by simp [hl]) (fun p hp => by
    rcases List.mem_cons.mp hp with e | e
    · rw [e]
      exact hc
    · exact hw p e)
  exact ⟨t, h1, by rw [h2, cencs_cons, List.append_assoc]⟩
theorem CComp.app {w m : Nat} {nodes : List V} (h : CComp w nodes (m + 1)) : CComp w (nodes ++ [.str "app"]) (m + 2) := fun ts hl hw => by
  match ts, hl with
  | f :: a :: r, hl =>
    obtain ⟨t, h1, h2⟩ := h (.app f a :: r) (by simpa using hl) (fun p hp => by
      rcases List.mem_cons.mp hp with e | e
      · rw [e]
        exact ⟨hw f (by simp), hw a (by simp)⟩
      · exact hw p (List.mem_cons_of_mem _ (List.mem_cons_of_mem _ e)))
    exact ⟨t, h1, by rw [h2, cencs_cons, cencs_cons, cencs_cons]; simp [Cb.enc]⟩
/-- the nodes of combinations -/
def NodeC (v : V) : Prop := (∃ n : Nat, v = .int n) ∨ v = .str "S" ∨ v = .str "K" ∨ v = .str "I" ∨ v = .str "app"
theorem Cb.nodes : ∀ (t : Cb), ∀ v ∈ t.enc, NodeC v
  | .S, v, h => .inr (.inl (List.mem_singleton.mp h))
  | .K, v, h => .inr (.inr (.inl (List.mem_singleton.mp h)))
  | .I, v, h => .inr (.inr (.inr (.inl (List.mem_singleton.mp h))))
  | .var n, v, h => .inl ⟨n, List.mem_singleton.mp h⟩
  | .app f a, v, h => by
    rcases List.mem_cons.mp h with e | e
    · exact .inr (.inr (.inr (.inr e)))
    · rcases List.mem_append.mp e with e | e
      · exact f.nodes v e
      · exact a.nodes v e
theorem NodeC.flat1 {v : V} (h : NodeC v) : (∃ i, v = .int i) ∨ ∃ s, v = .str s := by
  rcases h with ⟨n, rfl⟩ | rfl | rfl | rfl | rfl
  · exact .inl ⟨_, rfl⟩
  all_goals exact .inr ⟨_, rfl⟩
theorem Cb.flat (t : Cb) : Flat t.enc := fun v h => (t.nodes v h).flat1
theorem Cb.pos : ∀ t : Cb, 0 < t.enc.length
  | .S => by simp [Cb.enc]
  | .K => by simp [Cb.enc]
  | .I => by simp [Cb.enc]
  | .var _ => by simp [Cb.enc]
  | .app _ _ => by simp [Cb.enc]
theorem NodeC.key {v : V} (h : NodeC v) : ∃ k, v = kV k := by
  rcases h with ⟨n, rfl⟩ | rfl | rfl | rfl | rfl
  · exact kV_int _
  all_goals exact kV_str _
def NdS (xs : List V) : Prop := ∀ x ∈ xs, (∃ i, x = .int i) ∨ ∃ s : Str, x = .str s ∧ PyData.strOk s = true
theorem NdS.flat {xs : List V} (h : NdS xs) : Flat xs := fun x hx => by
  rcases h x hx with e | ⟨s, e, _⟩
  · exact .inl e
  · exact .inr ⟨s, e⟩
theorem NdS.tail {x : V} {xs : List V} (h : NdS (x :: xs)) : NdS xs := fun y hy => h y (List.mem_cons_of_mem _ hy)
theorem NdS.app {xs ys : List V} (h : NdS xs) (k : NdS ys) : NdS (xs ++ ys) := fun x hx => by
  rcases List.mem_append.mp hx with e | e
  · exact h x e
  · exact k x e
section
variable {K : PySem.W.Frag} {H : Hp} {Q : VK} {a b : Addr} {xs ys : List V}
end
theorem NodeC.nds1 {v : V} (h : NodeC v) : (∃ i, v = .int i) ∨ ∃ s : Str, v = .str s ∧ PyData.strOk s = true := by
  rcases h with ⟨n, rfl⟩ | rfl | rfl | rfl | rfl
  · exact .inl ⟨_, rfl⟩
  all_goals exact .inr ⟨_, rfl, by decide +kernel⟩
theorem NdS.of {xs : List V} (h : ∀ x ∈ xs, NodeC x) : NdS xs := fun x hx => (h x hx).nds1
theorem Cb.small {w : Nat} : ∀ {t : Cb}, t.lt w → ∀ (i : Int), V.int i ∈ t.enc → i < w
  | .S, _, i, h => by cases List.mem_singleton.mp h
  | .K, _, i, h => by cases List.mem_singleton.mp h
  | .I, _, i, h => by cases List.mem_singleton.mp h
  | .var n, hl, i, h => by
    cases List.mem_singleton.mp h
    have : n < w := hl
    omega
  | .app f a, hl, i, h => by
    rcases List.mem_cons.mp h with e | e
    · cases e
    · rcases List.mem_append.mp e with e | e
      · exact Cb.small hl.1 i e
      · exact Cb.small hl.2 i e
theorem NodeC.ok {v : V} {w : Nat} (h : NodeC v) (hw : w ≤ 1000000) (hs : ∀ i, v = .int i → i < w) : okV v = true := by
  rcases h with ⟨n, rfl⟩ | rfl | rfl | rfl | rfl
  · have := hs _ rfl
    show decide _ = true
    exact decide_eq_true (by omega)
  all_goals rfl
/-- what a def tells: the term, or None -/
def Ans (K : PySem.W.Frag) (H : Hp) (Y : List V) (v : V) : Prop := (fitsV Y = true ∧ ∃ p, v = .ref p ∧ SqT K H p Y) ∨ (fitsV Y = false ∧ v = .non)
theorem Ans.mono {K : PySem.W.Frag} {H H' : Hp} {Y : List V} {v : V} (h : Ans K H Y v) (e : Ex H H') : Ans K H' Y v := by
  rcases h with ⟨a, p, b, c⟩ | h
  · exact .inl ⟨a, p, b, ex_t e c⟩
  · exact .inr h
end Ly
set_option Elab.async false
set_option linter.all false
set_option maxRecDepth 100000
set_option maxHeartbeats 2000000
namespace Ly
open PySem PySem.Spec PyProof.Rows L2 Evl
inductive PTm where
  | hole
  | var (n : Nat)
  | lam (b : PTm)
  | app (f a : PTm)
deriving DecidableEq
def PTm.enc : PTm → List V
  | .hole => [V.str "?"]
  | .var n => [V.int n]
  | .lam b => V.str "lam" :: b.enc
  | .app f a => V.str "app" :: (f.enc ++ a.enc)
def pencs (ps : List PTm) : List V := (ps.map PTm.enc).flatten
theorem pencs_cons (p : PTm) (ps : List PTm) : pencs (p :: ps) = p.enc ++ pencs ps := by simp [pencs]
theorem PTm.enc_ne (p : PTm) : p.enc ≠ [] := by cases p <;> simp [PTm.enc]
theorem PTm.pos (p : PTm) : 1 ≤ p.enc.length := List.length_pos_iff.mpr p.enc_ne
/-- the nodes of partial terms -/
def NodeP (x : V) : Prop := (∃ n : Nat, x = .int n) ∨ x = .str "?" ∨ x = .str "lam" ∨ x = .str "app"
theorem PTm.nodes : ∀ (p : PTm), ∀ x ∈ p.enc, NodeP x
  | .hole, x, h => .inr (.inl (by simpa [PTm.enc] using h))
  | .var n, x, h => .inl ⟨n, by simpa [PTm.enc] using h⟩
  | .lam b, x, h => by
    rcases List.mem_cons.mp h with h | h
    · exact .inr (.inr (.inl h))
    · exact PTm.nodes b x h
  | .app f a, x, h => by
    rcases List.mem_cons.mp h with h | h
    · exact .inr (.inr (.inr h))
    · rcases List.mem_append.mp h with h | h
      · exact PTm.nodes f x h
      · exact PTm.nodes a x h
theorem NodeP.nds {xs : List V} (h : ∀ x ∈ xs, NodeP x) : NdS xs := fun x hx => by
  rcases h x hx with ⟨n, rfl⟩ | rfl | rfl | rfl
  · exact .inl ⟨_, rfl⟩
  · exact .inr ⟨_, rfl, by decide +kernel⟩
  · exact .inr ⟨_, rfl, by decide +kernel⟩
  · exact .inr ⟨_, rfl, by decide +kernel⟩
theorem PTm.nds (p : PTm) : NdS p.enc := NodeP.nds p.nodes
theorem PTm.flat (p : PTm) : Flat p.enc := p.nds.flat
/-- what the first node of a forest tells of it -/
inductive Hd1 : V → List PTm → List PTm → Prop
  | hole (ps) : Hd1 (.str "?") (.hole :: ps) ps
  | var (n : Nat) (ps) : Hd1 (.int n) (.var n :: ps) ps
  | lam (b) (ps) : Hd1 (.str "lam") (.lam b :: ps) (b :: ps)
  | app (f a) (ps) : Hd1 (.str "app") (.app f a :: ps) (f :: a :: ps)
theorem hd1_of (p : PTm) (ps : List PTm) : ∃ x qs, Hd1 x (p :: ps) qs ∧ pencs (p :: ps) = x :: pencs qs := by
  cases p with
  | hole => exact ⟨_, _, .hole ps, by simp [pencs, PTm.enc]⟩
  | var n => exact ⟨_, _, .var n ps, by simp [pencs, PTm.enc]⟩
  | lam b => exact ⟨_, _, .lam b ps, by simp [pencs, PTm.enc]⟩
  | app f a => exact ⟨_, _, .app f a ps, by simp [pencs, PTm.enc]⟩
/-- a forest begins at an index -/
def At (xs : List V) (i : Nat) (ps : List PTm) (post : List V) : Prop := xs.drop i = pencs ps ++ post
theorem At.hd {xs post : List V} {i : Nat} {p : PTm} {ps : List PTm} (h : At xs i (p :: ps) post) : ∃ x qs, Hd1 x (p :: ps) qs ∧ xs[i]? = some x ∧ At xs (i + 1) qs post := by
  obtain ⟨x, qs, h1, h2⟩ := hd1_of p ps
  unfold At at h
  rw [h2] at h
  have g := drop_get (i := i) (v := x) (r := pencs qs ++ post) (by rw [h]; rfl)
  exact ⟨x, qs, h1, g.1, g.2⟩
theorem At.len {xs post : List V} {i : Nat} {ps : List PTm} (h : At xs i ps post) : xs.length - i = (pencs ps).length + post.length := by
  have := congrArg List.length h
  simpa using this
def PComp (k : Nat) (xs : List V) : Prop := ∀ ws : List PTm, ws.length = k → ∃ p : PTm, xs ++ pencs ws = p.enc
theorem PComp.start : PComp 1 [] := fun ws h => by
  match ws, h with
  | [w], _ => exact ⟨w, by simp [pencs]⟩
theorem PComp.done {xs : List V} (h : PComp 0 xs) : ∃ p : PTm, xs = p.enc := by
  obtain ⟨p, hp⟩ := h [] rfl
  exact ⟨p, by simpa [pencs] using hp⟩
theorem PComp.leaf {k : Nat} {xs : List V} (h : PComp (k + 1) xs) (p : PTm) : PComp k (xs ++ p.enc) := fun ws hw => by
  obtain ⟨q, hq⟩ := h (p :: ws) (by simp [hw])
  exact ⟨q, by rw [← hq, pencs_cons, List.append_assoc]⟩
theorem PComp.lam {k : Nat} {xs : List V} (h : PComp (k + 1) xs) : PComp (k + 1) (xs ++ [V.str "lam"]) := fun ws hw => by
  match ws, hw with
  | w :: ws, hw =>
    obtain ⟨q, hq⟩ := h (.lam w :: ws) (by simpa using hw)
    exact ⟨q, by rw [← hq]; simp [pencs, PTm.enc]⟩
theorem PComp.app {k : Nat} {xs : List V} (h : PComp (k + 1) xs) : PComp (k + 2) (xs ++ [V.str "app"]) := fun ws hw => by
  match ws, hw with
  | w :: v :: ws, hw =>
    obtain ⟨q, hq⟩ := h (.app w v :: ws) (by simpa using hw)
    exact ⟨q, by rw [← hq]; simp [pencs, PTm.enc]⟩
theorem PComp.node {x : V} {ps qs : List PTm} {xs : List V} (h : PComp ps.length xs) (d : Hd1 x ps qs) : PComp qs.length (xs ++ [x]) := by
  cases d with
  | hole => exact PComp.leaf h .hole
  | var n => exact PComp.leaf h (.var n)
  | lam b => exact PComp.lam h
  | app f a => exact PComp.app h
/-- the forest at an index of a partial term, and what stands before it -/
theorem PTm.cut (p : PTm) : ∀ i, i ≤ p.enc.length → ∃ ps, At p.enc i ps [] ∧ PComp ps.length (p.enc.take i)
  | 0, _ => ⟨[p], by simp [At, pencs], by simpa using PComp.start⟩
  | i + 1, h => by
    obtain ⟨ps, h1, h2⟩ := PTm.cut p i (by omega)
    cases ps with
    | nil =>
      have := h1.len
      simp [pencs] at this
      omega
    | cons q ps =>
      obtain ⟨x, qs, d, hx, h3⟩ := h1.hd
      refine ⟨qs, h3, ?_⟩
      rw [List.take_add_one, hx]
      exact h2.node d
def PTm.le : PTm → PTm → Bool
  | .hole, _ => true
  | .var n, .var m => decide (n = m)
  | .lam b, .lam c => b.le c
  | .app f a, .app g x => f.le g && a.le x
  | _, _ => false
def PTm.lamN : Nat → PTm → PTm
  | 0, p => p
  | n + 1, p => .lam (PTm.lamN n p)
def PTm.apps (p : PTm) (ps : List PTm) : PTm := ps.foldl PTm.app p
section
variable {t h : Tm} {n : Nat} {as : List Tm}
end
end Ly
set_option Elab.async false
set_option linter.all false
set_option maxRecDepth 100000
set_option maxHeartbeats 2000000
namespace Ly
open PySem PySem.Spec PyProof.Rows L2 Evl
theorem le_refl : ∀ p : PTm, p.le p = true
  | .hole => rfl
  | .var n => by simp [PTm.le]
  | .lam b => by simp only [PTm.le, le_refl b]
  | .app f a => by simp only [PTm.le, le_refl f, le_refl a, Bool.and_true]
end Ly
set_option Elab.async false
set_option linter.all false
set_option maxRecDepth 100000
set_option maxHeartbeats 2000000
namespace Ly
open PySem PySem.Spec PyProof.Rows L2 Evl
theorem Tm.lif_swap2 (e c : Nat) : ∀ (u : Tm) (j d : Nat), (u.vmap (lif e) j).vmap (lif c) (j + e + d) = (u.vmap (lif c) (j + d)).vmap (lif e) j
  | .var n, j, d => by
    simp only [Tm.vmap, lif]
    congr 1
    split <;> split <;> (try split) <;> (try split) <;> omega
  | .lam b, j, d => by
    have ih := Tm.lif_swap2 e c b (j + 1) d
    simp only [Tm.vmap]
    rw [show j + e + d + 1 = j + 1 + e + d by omega, show j + d + 1 = j + 1 + d by omega, ih]
  | .app f a, j, d => by simp only [Tm.vmap, Tm.lif_swap2 e c f j d, Tm.lif_swap2 e c a j d]
theorem Tm.lif_put (u : Tm) (c d : Nat) : ∀ (b : Tm) (e : Nat), (Tm.put u e b).vmap (lif c) (e + d) = Tm.put (u.vmap (lif c) d) e (b.vmap (lif c) (e + d + 1))
  | .var n, e => by
    by_cases h1 : n < e
    · have h2 : ¬ e + d + 1 ≤ n := by omega
      have h3 : ¬ e + d ≤ n := by omega
      simp only [Tm.put, Tm.vmap, lif, if_pos h1, if_neg h2, if_neg h3]
    · by_cases h2 : n = e
      · subst h2
        have h3 : ¬ n + d + 1 ≤ n := by omega
        simp only [Tm.put, Tm.vmap, if_neg h1, if_true]
        rw [show lif c (n + d + 1) n = n by simp only [lif, if_neg h3], if_neg h1, if_pos rfl]
        have := Tm.lif_swap2 n c u 0 d
        rw [show 0 + n + d = n + d by omega, show 0 + d = d by omega] at this
        exact this
      · simp only [Tm.put, if_neg h1, if_neg h2, Tm.vmap, lif]
        by_cases h3 : e + d ≤ n - 1
        · have h4 : e + d + 1 ≤ n := by omega
          have h5 : ¬ n + c < e := by omega
          have h6 : ¬ n + c = e := by omega
          rw [if_pos h3, if_pos h4, if_neg h5, if_neg h6]
          congr 1
          omega
        · have h4 : ¬ e + d + 1 ≤ n := by omega
          rw [if_neg h3, if_neg h4, if_neg h1, if_neg h2]
  | .lam b, e => by
    have ih := Tm.lif_put u c d b (e + 1)
    simp only [Tm.put, Tm.vmap]
    rw [show e + d + 1 = e + 1 + d by omega, ih]
  | .app f a, e => by simp only [Tm.put, Tm.vmap, Tm.lif_put u c d f e, Tm.lif_put u c d a e]
/-- steps side by side -/
inductive Par : Tm → Tm → Prop
  | var (n : Nat) : Par (.var n) (.var n)
  | lam {b b' : Tm} (h : Par b b') : Par (.lam b) (.lam b')
  | app {f f' a a' : Tm} (h : Par f f') (k : Par a a') : Par (.app f a) (.app f' a')
  | beta {b b' u u' : Tm} (h : Par b b') (k : Par u u') : Par (.app (.lam b) u) (Tm.put u' 0 b')
theorem Par.refl : ∀ t : Tm, Par t t
  | .var n => .var n
  | .lam b => .lam (Par.refl b)
  | .app f a => .app (Par.refl f) (Par.refl a)
theorem Par.lift {t t' : Tm} (h : Par t t') (c : Nat) : ∀ d, Par (t.vmap (lif c) d) (t'.vmap (lif c) d) := by
  induction h with
  | var n => exact fun d => Par.refl _
  | lam _ ih => exact fun d => .lam (ih (d + 1))
  | app _ _ i1 i2 => exact fun d => .app (i1 d) (i2 d)
  | @beta b b' u u' _ _ i1 i2 =>
    intro d
    have e := Tm.lif_put u' c d b' 0
    rw [show 0 + d = d by omega] at e
    rw [e]
    exact .beta (i1 (d + 1)) (i2 d)
theorem Par.put {t t' u u' : Tm} (h : Par t t') (k : Par u u') : ∀ d, Par (Tm.put u d t) (Tm.put u' d t') := by
  induction h with
  | var n =>
    intro d
    simp only [Tm.put]
    split
    · exact .var _
    · split
      · exact k.lift d 0
      · exact .var _
  | lam _ ih => exact fun d => .lam (ih (d + 1))
  | app _ _ i1 i2 => exact fun d => .app (i1 d) (i2 d)
  | @beta b b' v v' _ _ i1 i2 =>
    intro d
    have e := Tm.put_put2 v' u' d b' 0
    rw [show 0 + d = d by omega] at e
    rw [e]
    exact .beta (i1 (d + 1)) (i2 d)
inductive Star (t : Tm) : Tm → Prop
  | refl : Star t t
  | tail {a b : Tm} (h : Star t a) (p : Par a b) : Star t b
theorem Star.trans {t a b : Tm} (h : Star t a) (k : Star a b) : Star t b := by
  induction k with
  | refl => exact h
  | tail _ p ih => exact .tail ih p
theorem le_trans : ∀ {p q r : PTm}, p.le q = true → q.le r = true → p.le r = true
  | .hole, _, _, _, _ => rfl
  | .var n, q, r, h, k => by
    cases q <;> simp only [PTm.le, Bool.false_eq_true, decide_eq_true_eq] at h
    subst h
    exact k
  | .lam b, q, r, h, k => by
    cases q with
    | lam c =>
      cases r with
      | lam d => exact le_trans (p := b) (q := c) (r := d) h k
      | hole => simp [PTm.le] at k
      | var m => simp [PTm.le] at k
      | app f a => simp [PTm.le] at k
    | hole => simp [PTm.le] at h
    | var m => simp [PTm.le] at h
    | app f a => simp [PTm.le] at h
  | .app f a, q, r, h, k => by
    cases q with
    | app g x =>
      cases r with
      | app o y =>
        simp only [PTm.le, Bool.and_eq_true] at h k ⊢
        exact ⟨le_trans h.1 k.1, le_trans h.2 k.2⟩
      | hole => simp [PTm.le] at k
      | var m => simp [PTm.le] at k
      | lam b => simp [PTm.le] at k
    | hole => simp [PTm.le] at h
    | var m => simp [PTm.le] at h
    | lam b => simp [PTm.le] at h
end Ly
set_option Elab.async false
set_option linter.all false
set_option maxRecDepth 100000
namespace Ly
open PySem PySem.Spec PyProof.Rows L2 Evl
/-- the positions of a number, from s on -/
def posN (j : Nat) : Nat → List Nat → List Nat
  | _, [] => []
  | s, x :: xs => if x = j then s :: posN j (s + 1) xs else posN j (s + 1) xs
theorem posN_app (j : Nat) : ∀ (xs ys : List Nat) (s : Nat), posN j s (xs ++ ys) = posN j s xs ++ posN j (s + xs.length) ys
  | [], ys, s => rfl
  | x :: xs, ys, s => by
    have ih := posN_app j xs ys (s + 1)
    rw [show s + 1 + xs.length = s + (x :: xs).length by simp; omega] at ih
    simp only [List.cons_append, posN]
    rw [ih]
    split <;> simp
theorem posN_shift (j : Nat) : ∀ (xs : List Nat) (s c : Nat), posN j (s + c) xs = (posN j s xs).map (· + c)
  | [], _, _ => rfl
  | x :: xs, s, c => by
    have ih := posN_shift j xs (s + 1) c
    simp only [posN]
    rw [show s + c + 1 = s + 1 + c by omega, ih]
    split <;> simp
theorem posN_map (j c : Nat) : ∀ (xs : List Nat) (s : Nat), posN (j + c) s (xs.map (· + c)) = posN j s xs
  | [], _ => rfl
  | x :: xs, s => by
    simp only [List.map_cons, posN, posN_map j c xs (s + 1)]
    by_cases h : x = j
    · rw [if_pos h, if_pos (by omega)]
    · rw [if_neg h, if_neg (by omega)]
theorem posN_none {j : Nat} : ∀ {xs : List Nat} {s : Nat}, j ∉ xs → posN j s xs = []
  | [], _, _ => rfl
  | x :: xs, s, h => by
    simp only [List.mem_cons, not_or] at h
    rw [posN, if_neg (Ne.symm h.1), posN_none h.2]
theorem posN_range (s k : Nat) : ∀ (n t : Nat), k < n → posN (t + k) s (List.range' t n) = [s + k]
  | 0, _, h => absurd h (Nat.not_lt_zero k)
  | n + 1, t, h => by
    rw [List.range'_succ, posN]
    by_cases e : k = 0
    · subst e
      rw [if_pos (by omega), posN_none (by simp only [List.mem_range'_1]; omega)]
      rfl
    · obtain ⟨m, rfl⟩ : ∃ m, k = m + 1 := ⟨k - 1, by omega⟩
      rw [if_neg (by omega)]
      have ih := posN_range (s + 1) m n (t + 1) (by omega)
      rw [show t + (m + 1) = t + 1 + m by omega, ih, show s + 1 + m = s + (m + 1) by omega]
theorem range_up (t n c : Nat) : (List.range' t n).map (· + c) = List.range' (t + c) n := by
  have := List.map_add_range' (a := c) t n 1
  simpa [Nat.add_comm] using this
/-- a step at an index, and where the nodes come from -/
def rootO (b u : Tm) : List Nat := pO (List.range' (2 + b.enc.length) u.enc.length) b.enc (b.deps 0) (List.range' 2 b.enc.length)
inductive StI : Tm → Nat → Tm → List Nat → Prop
  | root {b u : Tm} : StI (.app (.lam b) u) 0 (Tm.put u 0 b) (rootO b u)
  | lam {b b' : Tm} {k : Nat} {O : List Nat} (h : StI b k b' O) : StI (.lam b) (k + 1) (.lam b') (0 :: O.map (· + 1))
  | fn {f f' a : Tm} {k : Nat} {O : List Nat} (h : StI f k f' O) : StI (.app f a) (k + 1) (.app f' a) (0 :: (O.map (· + 1) ++ List.range' (1 + f.enc.length) a.enc.length))
  | arg {f a a' : Tm} {k : Nat} {O : List Nat} (h : StI a k a' O) : StI (.app f a) (k + (1 + f.enc.length)) (.app f a') (0 :: (List.range' 1 f.enc.length ++ O.map (· + (1 + f.enc.length))))
inductive Als : Tm → List Nat → Tm → Prop
  | nil {t : Tm} : Als t [] t
  | cons {t t1 v : Tm} {k : Nat} {ks O : List Nat} (h : StI t k t1 O) (r : Als t1 ks v) : Als t (k :: ks) v
theorem Als.app {t u v : Tm} {ks js : List Nat} (h : Als t ks u) (g : Als u js v) : Als t (ks ++ js) v := by
  induction h with
  | nil => exact g
  | cons h _ ih => exact .cons h (ih g)
theorem Als.lam {t v : Tm} {ks : List Nat} (h : Als t ks v) : Als (.lam t) (ks.map (· + 1)) (.lam v) := by
  induction h with
  | nil => exact .nil
  | cons h _ ih => exact .cons (.lam h) ih
theorem Als.fn {t v : Tm} {ks : List Nat} (h : Als t ks v) (a : Tm) : Als (.app t a) (ks.map (· + 1)) (.app v a) := by
  induction h with
  | nil => exact .nil
  | cons h _ ih => exact .cons (.fn h) ih
theorem Als.arg {t v : Tm} {ks : List Nat} (h : Als t ks v) (f : Tm) : Als (.app f t) (ks.map (· + (1 + f.enc.length))) (.app f v) := by
  induction h with
  | nil => exact .nil
  | cons h _ ih => exact .cons (.arg h) ih
theorem StI.lt {t v : Tm} {k : Nat} {O : List Nat} (h : StI t k v O) : k + 1 < t.enc.length := by
  induction h with
  | root => simp [Tm.enc]
  | lam _ ih => simp only [Tm.enc, List.length_cons]; omega
  | fn _ ih => simp only [Tm.enc, List.length_cons, List.length_append]; omega
  | arg _ ih => simp only [Tm.enc, List.length_cons, List.length_append]; omega
theorem pT_len (u : Tm) (S : Nat) : ∀ (b : Tm) (d s : Nat), (pO (List.range' S u.enc.length) b.enc (b.deps d) (List.range' s b.enc.length)).length = (Tm.put u d b).enc.length
  | .var n, d, s => by
    have := pO_var (O2 := List.range' S u.enc.length) n d s
    rw [show List.range' s (Tm.var n).enc.length = List.range' s 1 from rfl, this, Tm.put]
    by_cases h : n = d
    · rw [if_pos h, if_neg (by omega), if_pos h, Tm.vmap_len]
      simp
    · rw [if_neg h]
      split <;> first | rfl | (rw [if_neg h]; rfl)
  | .lam b, d, s => by
    rw [pO_lam, Tm.put]
    simp only [Tm.enc, List.length_cons, pT_len u S b (d + 1) (s + 1)]
  | .app f a, d, s => by
    rw [pO_appT, Tm.put]
    simp only [Tm.enc, List.length_cons, List.length_append, pT_len u S f d (s + 1), pT_len u S a d (s + 1 + f.enc.length)]
theorem StI.len {t v : Tm} {k : Nat} {O : List Nat} (h : StI t k v O) : O.length = v.enc.length := by
  induction h with
  | root => exact pT_len _ _ _ _ _
  | lam _ ih => simp only [Tm.enc, List.length_cons, List.length_map]; omega
  | fn _ ih => simp only [Tm.enc, List.length_cons, List.length_append, List.length_map, List.length_range']; omega
  | arg _ ih => simp only [Tm.enc, List.length_cons, List.length_append, List.length_map, List.length_range']; omega
theorem StI.bnd {t v : Tm} {k : Nat} {O : List Nat} (h : StI t k v O) : ∀ o ∈ O, o < t.enc.length := by
  induction h with
  | @root b u =>
    intro o ho
    simp only [Tm.enc, List.length_cons, List.length_append]
    rcases pO_mem ho with g | g <;> (simp only [List.mem_range'_1] at g; omega)
  | lam _ ih =>
    intro o ho
    simp only [Tm.enc, List.length_cons]
    rcases List.mem_cons.mp ho with rfl | g
    · omega
    · obtain ⟨x, hx, rfl⟩ := List.mem_map.mp g
      have := ih x hx
      omega
  | fn _ ih =>
    intro o ho
    simp only [Tm.enc, List.length_cons, List.length_append]
    rcases List.mem_cons.mp ho with rfl | g
    · omega
    · rcases List.mem_append.mp g with g | g
      · obtain ⟨x, hx, rfl⟩ := List.mem_map.mp g
        have := ih x hx
        omega
      · simp only [List.mem_range'_1] at g
        omega
  | arg _ ih =>
    intro o ho
    simp only [Tm.enc, List.length_cons, List.length_append]
    rcases List.mem_cons.mp ho with rfl | g
    · omega
    · rcases List.mem_append.mp g with g | g
      · simp only [List.mem_range'_1] at g
        omega
      · obtain ⟨x, hx, rfl⟩ := List.mem_map.mp g
        have := ih x hx
        omega
theorem StI.lift {t v : Tm} {k : Nat} {O : List Nat} (h : StI t k v O) (c : Nat) : ∀ d, ∃ O', StI (t.vmap (lif c) d) k (v.vmap (lif c) d) O' := by
  induction h with
  | @root b u =>
    intro d
    have := Tm.lif_put u c d b 0
    rw [Nat.zero_add] at this
    rw [this]
    exact ⟨_, .root⟩
  | lam _ ih =>
    intro d
    obtain ⟨O', h⟩ := ih (d + 1)
    exact ⟨_, .lam h⟩
  | fn _ ih =>
    intro d
    obtain ⟨O', h⟩ := ih d
    exact ⟨_, .fn h⟩
  | @arg f a a' k O _ ih =>
    intro d
    obtain ⟨O', h⟩ := ih d
    have := StI.arg (f := f.vmap (lif c) d) h
    rw [Tm.vmap_len] at this
    exact ⟨_, this⟩
/-- a redex in the body -/
theorem StI.body {b b' : Tm} {k : Nat} {Ob : List Nat} (h : StI b k b' Ob) (u : Tm) : ∀ (d s S : Nat), s + b.enc.length ≤ S →
    ∃ kx Ox, StI (Tm.put u d b) kx (Tm.put u d b') Ox ∧ posN (s + k) 0 (pO (List.range' S u.enc.length) b.enc (b.deps d) (List.range' s b.enc.length)) = [kx] := by
  induction h with
  | @root b1 u1 =>
    intro d s S hS
    have e := Tm.put_put2 u1 u d b1 0
    rw [Nat.zero_add] at e
    refine ⟨0, _, by rw [e]; exact .root, ?_⟩
    rw [pO_appT, posN, if_pos (by omega), posN_none]
    intro hm
    simp only [Tm.enc, List.length_cons, List.length_append] at hS
    rcases List.mem_append.mp hm with g | g <;> rcases pO_mem g with g | g <;> (simp only [List.mem_range'_1] at g; omega)
  | @lam b1 b1' k O _ ih =>
    intro d s S hS
    simp only [Tm.enc, List.length_cons] at hS
    obtain ⟨kx, Ox, h1, h2⟩ := ih (d + 1) (s + 1) S (by omega)
    refine ⟨kx + 1, _, .lam h1, ?_⟩
    rw [pO_lam, posN, if_neg (by omega), show s + (k + 1) = s + 1 + k by omega, posN_shift, h2]
    rfl
  | @fn f f' a k O h0 ih =>
    intro d s S hS
    simp only [Tm.enc, List.length_cons, List.length_append] at hS
    obtain ⟨kx, Ox, h1, h2⟩ := ih d (s + 1) S (by omega)
    have hk := h0.lt
    refine ⟨kx + 1, _, .fn h1, ?_⟩
    rw [pO_appT, posN, if_neg (by omega), show s + (k + 1) = s + 1 + k by omega, posN_app, posN_shift, h2, posN_none (xs := pO _ a.enc _ _)]
    · rfl
    · intro g
      rcases pO_mem g with g | g <;> (simp only [List.mem_range'_1] at g; omega)
  | @arg f a a' k O h0 ih =>
    intro d s S hS
    simp only [Tm.enc, List.length_cons, List.length_append] at hS
    obtain ⟨kx, Ox, h1, h2⟩ := ih d (s + 1 + f.enc.length) S (by omega)
    have hk := h0.lt
    refine ⟨kx + (1 + (Tm.put u d f).enc.length), _, .arg h1, ?_⟩
    rw [pO_appT, posN, if_neg (by omega), show s + (k + (1 + f.enc.length)) = s + 1 + f.enc.length + k by omega, posN_app, posN_none (xs := pO _ f.enc _ _), pT_len, show 0 + 1 + (Tm.put u d f).enc.length = 0 + (1 + (Tm.put u d f).enc.length) by omega, posN_shift, h2]
    · simp
    · intro g
      rcases pO_mem g with g | g <;> (simp only [List.mem_range'_1] at g; omega)
/-- a redex in the argument -/
theorem StI.inArg {u u' : Tm} {k : Nat} {Ou : List Nat} (h : StI u k u' Ou) : ∀ (b : Tm) (d s S : Nat), s + b.enc.length ≤ S →
    Als (Tm.put u d b) (posN (S + k) 0 (pO (List.range' S u.enc.length) b.enc (b.deps d) (List.range' s b.enc.length))).reverse (Tm.put u' d b)
  | .var n, d, s, S, hS => by
    have hk := h.lt
    have := pO_var (O2 := List.range' S u.enc.length) n d s
    rw [show List.range' s (Tm.var n).enc.length = List.range' s 1 from rfl, this]
    by_cases e : n = d
    · subst e
      rw [if_pos rfl, posN_range 0 k _ S (by omega), Tm.put, Tm.put, if_neg (by omega), if_pos rfl, if_neg (by omega), if_pos rfl]
      obtain ⟨O', h'⟩ := h.lift n 0
      rw [Nat.zero_add]
      exact .cons h' .nil
    · rw [if_neg e, posN_none (by
        simp only [Tm.enc, List.length_singleton] at hS
        simp only [List.mem_singleton]
        omega), Tm.put, Tm.put, if_neg e, if_neg e]
      exact .nil
  | .lam b, d, s, S, hS => by
    simp only [Tm.enc, List.length_cons] at hS
    have ih := StI.inArg h b (d + 1) (s + 1) S (by omega)
    rw [pO_lam, posN, if_neg (by omega), posN_shift, ← List.map_reverse]
    exact ih.lam
  | .app f a, d, s, S, hS => by
    simp only [Tm.enc, List.length_cons, List.length_append] at hS
    have i1 := StI.inArg h f d (s + 1) S (by omega)
    have i2 := StI.inArg h a d (s + 1 + f.enc.length) S (by omega)
    rw [pO_appT, posN, if_neg (by omega), posN_app, posN_shift, pT_len, show 0 + 1 + (Tm.put u d f).enc.length = 0 + (1 + (Tm.put u d f).enc.length) by omega, posN_shift, List.reverse_append, ← List.map_reverse, ← List.map_reverse]
    exact (i2.arg (Tm.put u d f)).app (i1.fn (Tm.put u' d a))
theorem dia {t tP : Tm} {i : Nat} {O : List Nat} (h : StI t i tP O) : ∀ {j : Nat} {tQ : Tm} {O2 : List Nat}, StI t j tQ O2 → i < j → ∃ v O3, StI tQ i v O3 ∧ Als tP (posN j 0 O).reverse v := by
  induction h with
  | @root b u =>
    intro j tQ O2 g hij
    cases g with
    | root => omega
    | fn g =>
      cases g with
      | @lam _ b' k O' g =>
        obtain ⟨kx, Ox, h1, h2⟩ := g.body u 0 2 (2 + b.enc.length) (Nat.le_refl _)
        refine ⟨_, _, .root, ?_⟩
        rw [rootO, show k + 1 + 1 = 2 + k by omega, h2]
        exact .cons h1 .nil
    | @arg _ _ u' k O' g =>
      refine ⟨_, _, .root, ?_⟩
      have := g.inArg b 0 2 (2 + b.enc.length) (Nat.le_refl _)
      rw [rootO, show k + (1 + (Tm.lam b).enc.length) = 2 + b.enc.length + k by simp only [Tm.enc, List.length_cons]; omega]
      exact this
  | @lam b b' k O h ih =>
    intro j tQ O2 g hij
    cases g with
    | @lam _ b2 k2 O' g =>
      obtain ⟨v, O3, h1, h2⟩ := ih g (by omega)
      refine ⟨_, _, .lam h1, ?_⟩
      rw [posN, if_neg (by omega), posN_map, posN_shift, ← List.map_reverse]
      exact h2.lam
  | @fn f f' a k O h ih =>
    intro j tQ O2 g hij
    have hb := h.bnd
    have hl := h.len
    cases g with
    | root => omega
    | @fn _ f2 _ k2 O' g =>
      obtain ⟨v, O3, h1, h2⟩ := ih g (by omega)
      have hk := g.lt
      refine ⟨_, _, .fn h1, ?_⟩
      rw [posN, if_neg (by omega), posN_app, posN_map, posN_shift, posN_none (xs := List.range' _ _) (by simp only [List.mem_range'_1]; omega), List.append_nil, ← List.map_reverse]
      exact h2.fn a
    | @arg _ _ a2 k2 O' g =>
      have hk := g.lt
      refine ⟨_, _, .fn h, ?_⟩
      have e : posN (k2 + (1 + f.enc.length)) 0 (0 :: (O.map (· + 1) ++ List.range' (1 + f.enc.length) a.enc.length)) = [k2 + (1 + f'.enc.length)] := by
        rw [posN, if_neg (by omega), posN_app, posN_none (xs := O.map _), List.nil_append, show k2 + (1 + f.enc.length) = 1 + f.enc.length + k2 by omega, posN_range _ _ _ _ (by omega), List.length_map, hl]
        · congr 1
          omega
        · intro hm
          obtain ⟨x, hx, he⟩ := List.mem_map.mp hm
          have := hb x hx
          omega
      rw [e]
      exact .cons (.arg g) .nil
  | @arg f a a' k O h ih =>
    intro j tQ O2 g hij
    cases g with
    | root => omega
    | fn g =>
      have := g.lt
      omega
    | @arg _ _ a2 k2 O' g =>
      obtain ⟨v, O3, h1, h2⟩ := ih g (by omega)
      refine ⟨_, _, .arg h1, ?_⟩
      rw [posN, if_neg (by omega), posN_app, posN_none (xs := List.range' _ _) (by simp only [List.mem_range'_1]; omega), List.nil_append, posN_map, List.length_range', show 0 + 1 + f.enc.length = 0 + (1 + f.enc.length) by omega, posN_shift, ← List.map_reverse]
      exact h2.arg f
theorem red_sti : ∀ {t : Tm} {p : List Nat} {i : Nat} {b u : Tm}, t.Red p i b u → StI t i (t.step p) (stepO t i b u)
  | t, [], i, b, u, h => by
    have h2 : t.sub [] = some (i, .app (.lam b) u) := h
    rw [Tm.sub_nil] at h2
    cases h2
    rw [Tm.step_red h, Tm.rep_nil]
    have e : stepO (.app (.lam b) u) 0 b u = rootO b u := by
      unfold stepO rootO
      rw [show (Tm.app (.lam b) u).enc.length = 0 + 2 + b.enc.length + u.enc.length by simp only [Tm.enc, List.length_cons, List.length_append]; omega, Nat.sub_self, Nat.zero_add]
      simp
    rw [e]
    exact .root
  | .var n, c :: p, i, b, u, h => by simp [Tm.Red, Tm.sub] at h
  | .lam c0, c :: p, i, b, u, h => by
    have h2 : (Tm.lam c0).sub (c :: p) = some (i, .app (.lam b) u) := h
    simp only [Tm.sub] at h2
    split at h2
    · rename_i hc
      subst hc
      obtain ⟨⟨k, x⟩, hk, e⟩ := Option.map_eq_some_iff.mp h2
      cases e
      have hr : c0.Red p k b u := hk
      have ih := red_sti hr
      have lt := Tm.sub_lt hk
      rw [Tm.step_red h, show Tm.rep (Tm.put u 0 b) (.lam c0) (98 :: p) = .lam (Tm.rep (Tm.put u 0 b) c0 p) from rfl, ← Tm.step_red hr]
      have e : stepO (.lam c0) (k + 1) b u = 0 :: (stepO c0 k b u).map (· + 1) := by
        unfold stepO
        rw [List.map_append, List.map_append, pO_map, range_up, range_up, range_up, range_up, List.range'_succ (n := k)]
        simp only [Tm.enc, List.length_cons, List.cons_append]
        rw [show k + 1 + 2 + b.enc.length = k + 2 + b.enc.length + 1 by omega, show k + 1 + 2 = k + 2 + 1 by omega, show k + 2 + b.enc.length + 1 + u.enc.length = k + 2 + b.enc.length + u.enc.length + 1 by omega, show c0.enc.length + 1 - (k + 2 + b.enc.length + u.enc.length + 1) = c0.enc.length - (k + 2 + b.enc.length + u.enc.length) by omega]
      rw [e]
      exact .lam ih
    · cases h2
  | .app f a, c :: p, i, b, u, h => by
    have h2 : (Tm.app f a).sub (c :: p) = some (i, .app (.lam b) u) := h
    simp only [Tm.sub] at h2
    split at h2
    · rename_i hc
      subst hc
      obtain ⟨⟨k, x⟩, hk, e⟩ := Option.map_eq_some_iff.mp h2
      cases e
      have hr : f.Red p k b u := hk
      have ih := red_sti hr
      have lt := Tm.sub_lt hk
      have hal : (Tm.app (.lam b) u).enc.length = b.enc.length + u.enc.length + 2 := by
        simp only [Tm.enc, List.length_cons, List.length_append]
        omega
      rw [hal] at lt
      rw [Tm.step_red h, show Tm.rep (Tm.put u 0 b) (.app f a) (102 :: p) = .app (Tm.rep (Tm.put u 0 b) f p) a from rfl, ← Tm.step_red hr]
      have e : stepO (.app f a) (k + 1) b u = 0 :: ((stepO f k b u).map (· + 1) ++ List.range' (1 + f.enc.length) a.enc.length) := by
        unfold stepO
        rw [List.map_append, List.map_append, pO_map, range_up, range_up, range_up, range_up, List.range'_succ (n := k)]
        simp only [Tm.enc, List.length_cons, List.cons_append, List.length_append, List.append_assoc]
        rw [show k + 1 + 2 + b.enc.length = k + 2 + b.enc.length + 1 by omega, show k + 1 + 2 = k + 2 + 1 by omega, show k + 2 + b.enc.length + 1 + u.enc.length = k + 2 + b.enc.length + u.enc.length + 1 by omega]
        have ha := List.range'_append (s := k + 2 + b.enc.length + u.enc.length + 1) (m := f.enc.length - (k + 2 + b.enc.length + u.enc.length)) (n := a.enc.length) (step := 1)
        rw [Nat.one_mul, show k + 2 + b.enc.length + u.enc.length + 1 + (f.enc.length - (k + 2 + b.enc.length + u.enc.length)) = 1 + f.enc.length by omega, show f.enc.length - (k + 2 + b.enc.length + u.enc.length) + a.enc.length = f.enc.length + a.enc.length + 1 - (k + 2 + b.enc.length + u.enc.length + 1) by omega] at ha
        rw [ha]
      rw [e]
      exact .fn ih
    · split at h2
      · rename_i hc1 hc
        subst hc
        obtain ⟨⟨k, x⟩, hk, e⟩ := Option.map_eq_some_iff.mp h2
        cases e
        have hr : a.Red p k b u := hk
        have ih := red_sti hr
        have lt := Tm.sub_lt hk
        have hal : (Tm.app (.lam b) u).enc.length = b.enc.length + u.enc.length + 2 := by
          simp only [Tm.enc, List.length_cons, List.length_append]
          omega
        rw [hal] at lt
        rw [Tm.step_red h, show Tm.rep (Tm.put u 0 b) (.app f a) (97 :: p) = .app f (Tm.rep (Tm.put u 0 b) a p) from rfl, ← Tm.step_red hr]
        have e : stepO (.app f a) (k + (1 + f.enc.length)) b u = 0 :: (List.range' 1 f.enc.length ++ (stepO a k b u).map (· + (1 + f.enc.length))) := by
          unfold stepO
          rw [List.map_append, List.map_append, pO_map, range_up, range_up, range_up, range_up]
          have ha := List.range'_append (s := 0) (m := 1 + f.enc.length) (n := k) (step := 1)
          rw [Nat.one_mul] at ha
          rw [show k + (1 + f.enc.length) = 1 + f.enc.length + k by omega, ← ha, show 1 + f.enc.length = f.enc.length + 1 by omega, List.range'_succ (n := f.enc.length)]
          simp only [Tm.enc, List.length_cons, List.cons_append, List.length_append, List.append_assoc]
          rw [show f.enc.length + 1 + k + 2 + b.enc.length = k + 2 + b.enc.length + (f.enc.length + 1) by omega, show f.enc.length + 1 + k + 2 = k + 2 + (f.enc.length + 1) by omega, show k + 2 + b.enc.length + (f.enc.length + 1) + u.enc.length = k + 2 + b.enc.length + u.enc.length + (f.enc.length + 1) by omega, show f.enc.length + a.enc.length + 1 - (k + 2 + b.enc.length + u.enc.length + (f.enc.length + 1)) = a.enc.length - (k + 2 + b.enc.length + u.enc.length) by omega]
        rw [e]
        exact .arg ih
      · cases h2
theorem getE_left {α : Type} {xs ys : List α} {i : Nat} (h : i < xs.length) : (xs ++ ys)[i]? = xs[i]? := List.getElem?_append_left h
theorem getE_right {α : Type} (xs ys : List α) (i : Nat) : (xs ++ ys)[i + xs.length]? = ys[i]? := by
  rw [List.getElem?_append_right (by omega), Nat.add_sub_cancel]
theorem StI.redB {t v : Tm} {k : Nat} {O : List Nat} (h : StI t k v O) : redB t.enc k = true := by
  induction h with
  | root => exact redB_iff.mpr ⟨rfl, rfl⟩
  | lam _ ih =>
    obtain ⟨h1, h2⟩ := redB_iff.mp ih
    exact redB_iff.mpr ⟨h1, h2⟩
  | @fn f f' a k O h ih =>
    obtain ⟨h1, h2⟩ := redB_iff.mp ih
    have hk := h.lt
    refine redB_iff.mpr ⟨?_, ?_⟩
    · show (f.enc ++ a.enc)[k]? = _
      rw [getE_left (by omega), h1]
    · show (f.enc ++ a.enc)[k + 1]? = _
      rw [getE_left (by omega), h2]
  | @arg f a a' k O h ih =>
    obtain ⟨h1, h2⟩ := redB_iff.mp ih
    refine redB_iff.mpr ⟨?_, ?_⟩
    · rw [show k + (1 + f.enc.length) = k + f.enc.length + 1 by omega]
      show (f.enc ++ a.enc)[k + f.enc.length]? = _
      rw [getE_right, h1]
    · rw [show k + (1 + f.enc.length) + 1 = k + 1 + f.enc.length + 1 by omega]
      show (f.enc ++ a.enc)[k + 1 + f.enc.length]? = _
      rw [getE_right, h2]
def plc (t : Tm) (k : Nat) : List Nat := (t.pls []).getD k []
theorem red_plc {t : Tm} {p : List Nat} {k : Nat} {b u : Tm} (h : t.Red p k b u) : plc t k = p := by
  obtain ⟨_, hp⟩ := Tm.sub_at t p [] h
  unfold plc
  rw [List.getD_eq_getElem?_getD, hp]
  rfl
theorem red_of_redB {t : Tm} {k : Nat} (h : Ly.redB t.enc k = true) : ∃ b u, t.Red (plc t k) k b u := by
  have lt := redB_lt h
  obtain ⟨q, hq⟩ : ∃ q, (t.pls [])[k]? = some q := ⟨_, List.getElem?_eq_getElem (by rw [t.pls_len]; omega)⟩
  obtain ⟨s, j, u, e, hs⟩ := Tm.sub_of t [] (List.mem_of_getElem? hq)
  simp only [List.nil_append] at e
  subst e
  obtain ⟨_, hp⟩ := Tm.sub_at t q [] hs
  have e2 : k = j := same_at (Tm.pls_order t []) hq hp
  subst e2
  obtain ⟨b, c, rfl⟩ := (red_of hs).mp h
  have hr : t.Red q k b c := hs
  rw [red_plc hr]
  exact ⟨b, c, hr⟩
theorem StI.uniq {t v : Tm} {k : Nat} {O : List Nat} (h : StI t k v O) : ∀ {v' : Tm} {O' : List Nat}, StI t k v' O' → v' = v ∧ O' = O := by
  induction h with
  | @root b u =>
    intro v' O' g
    generalize hk : (0 : Nat) = z at g
    cases g with
    | root => exact ⟨rfl, rfl⟩
    | fn => omega
    | arg => omega
  | lam _ ih =>
    intro v' O' g
    cases g with
    | lam g =>
      obtain ⟨rfl, rfl⟩ := ih g
      exact ⟨rfl, rfl⟩
  | @fn f f' a k O h ih =>
    intro v' O' g
    have hk := h.lt
    generalize hz : k + 1 = z at g
    cases g with
    | root => omega
    | @fn _ _ _ k2 _ g =>
      have e : k2 = k := by omega
      subst e
      obtain ⟨rfl, rfl⟩ := ih g
      exact ⟨rfl, rfl⟩
    | arg g => omega
  | @arg f a a' k O h ih =>
    intro v' O' g
    generalize hz : k + (1 + f.enc.length) = z at g
    cases g with
    | root => omega
    | fn g =>
      have := g.lt
      omega
    | @arg _ _ _ k2 _ g =>
      have e : k2 = k := by omega
      subst e
      obtain ⟨rfl, rfl⟩ := ih g
      exact ⟨rfl, rfl⟩
theorem sti_red {t v : Tm} {k : Nat} {O : List Nat} (h : StI t k v O) : ∃ b u, t.Red (plc t k) k b u ∧ t.step (plc t k) = v ∧ stepO t k b u = O := by
  obtain ⟨b, u, hr⟩ := red_of_redB h.redB
  obtain ⟨e1, e2⟩ := h.uniq (red_sti hr)
  exact ⟨b, u, hr, e1, e2⟩
theorem sti_of_redB {t : Tm} {k : Nat} (h : Ly.redB t.enc k = true) : ∃ O, StI t k (t.step (plc t k)) O := by
  obtain ⟨b, u, hr⟩ := red_of_redB h
  exact ⟨_, red_sti hr⟩
theorem pls_head (t : Tm) (q : List Nat) : (t.pls q)[0]? = some q := by cases t <;> rfl
/-- what stands in front of a step stays -/
theorem StI.front {t v : Tm} {k : Nat} {O : List Nat} (h : StI t k v O) : ∀ x, x < k → v.enc[x]? = t.enc[x]? ∧ O[x]? = some x := by
  induction h with
  | root => exact fun x hx => absurd hx (Nat.not_lt_zero x)
  | @lam b b' k O h ih =>
    intro x hx
    cases x with
    | zero => exact ⟨rfl, rfl⟩
    | succ x =>
      obtain ⟨h1, h2⟩ := ih x (by omega)
      refine ⟨h1, ?_⟩
      show (O.map (· + 1))[x]? = _
      rw [List.getElem?_map, h2]
      rfl
  | @fn f f' a k O h ih =>
    intro x hx
    cases x with
    | zero => exact ⟨rfl, rfl⟩
    | succ x =>
      obtain ⟨h1, h2⟩ := ih x (by omega)
      have hk := h.lt
      have hO := (List.getElem?_eq_some_iff.mp h2).1
      have hl := h.len
      refine ⟨?_, ?_⟩
      · show (f'.enc ++ a.enc)[x]? = (f.enc ++ a.enc)[x]?
        rw [getE_left (by omega), getE_left (by omega), h1]
      · show (O.map (· + 1) ++ _)[x]? = _
        rw [getE_left (by rw [List.length_map]; exact hO), List.getElem?_map, h2]
        rfl
  | @arg f a a' k O h ih =>
    intro x hx
    cases x with
    | zero => exact ⟨rfl, rfl⟩
    | succ x =>
      by_cases hf : x < f.enc.length
      · refine ⟨?_, ?_⟩
        · show (f.enc ++ a'.enc)[x]? = (f.enc ++ a.enc)[x]?
          rw [getE_left hf, getE_left hf]
        · show (List.range' 1 f.enc.length ++ _)[x]? = _
          rw [getE_left (by rw [List.length_range']; exact hf), List.getElem?_range' hf]
          congr 1
          omega
      · obtain ⟨y, rfl⟩ : ∃ y, x = y + f.enc.length := ⟨x - f.enc.length, by omega⟩
        obtain ⟨h1, h2⟩ := ih y (by omega)
        refine ⟨?_, ?_⟩
        · show (f.enc ++ a'.enc)[y + f.enc.length]? = (f.enc ++ a.enc)[y + f.enc.length]?
          rw [getE_right, getE_right, h1]
        · show (List.range' 1 f.enc.length ++ _)[y + f.enc.length]? = _
          have := getE_right (List.range' 1 f.enc.length) (O.map (· + (1 + f.enc.length))) y
          rw [List.length_range'] at this
          rw [this, List.getElem?_map, h2]
          show some (y + (1 + f.enc.length)) = _
          congr 1
          omega
theorem StI.plc_le {t v : Tm} {k : Nat} {O : List Nat} (h : StI t k v O) : ∀ (q : List Nat) (x : Nat), x ≤ k → (v.pls q)[x]? = (t.pls q)[x]? := by
  induction h with
  | root =>
    intro q x hx
    have e : x = 0 := by omega
    subst e
    rw [pls_head, pls_head]
  | lam _ ih =>
    intro q x hx
    cases x with
    | zero => rfl
    | succ x => exact ih _ x (by omega)
  | @fn f f' a k O h ih =>
    intro q x hx
    cases x with
    | zero => rfl
    | succ x =>
      have h1 := ih (q ++ [102]) x (by omega)
      have hk := h.lt
      have hx1 : x < (f.pls (q ++ [102])).length := by rw [Tm.pls_len]; omega
      have hx2 : x < (f'.pls (q ++ [102])).length := by
        obtain ⟨z, hz⟩ : ∃ z, (f.pls (q ++ [102]))[x]? = some z := ⟨_, List.getElem?_eq_getElem hx1⟩
        rw [hz] at h1
        exact (List.getElem?_eq_some_iff.mp h1).1
      show (f'.pls (q ++ [102]) ++ a.pls (q ++ [97]))[x]? = (f.pls (q ++ [102]) ++ a.pls (q ++ [97]))[x]?
      rw [getE_left hx1, getE_left hx2, h1]
  | @arg f a a' k O h ih =>
    intro q x hx
    cases x with
    | zero => rfl
    | succ x =>
      show (f.pls (q ++ [102]) ++ a'.pls (q ++ [97]))[x]? = (f.pls (q ++ [102]) ++ a.pls (q ++ [97]))[x]?
      by_cases hf : x < f.enc.length
      · rw [getE_left (by rw [Tm.pls_len]; exact hf), getE_left (by rw [Tm.pls_len]; exact hf)]
      · obtain ⟨y, rfl⟩ : ∃ y, x = y + f.enc.length := ⟨x - f.enc.length, by omega⟩
        have e1 := getE_right (f.pls (q ++ [102])) (a'.pls (q ++ [97])) y
        have e2 := getE_right (f.pls (q ++ [102])) (a.pls (q ++ [97])) y
        rw [Tm.pls_len] at e1 e2
        rw [e1, e2]
        exact ih _ y (by omega)
theorem StI.plc_eq {t v : Tm} {k : Nat} {O : List Nat} (h : StI t k v O) {x : Nat} (hx : x ≤ k) : plc v x = plc t x := by
  unfold plc
  rw [List.getD_eq_getElem?_getD, List.getD_eq_getElem?_getD, h.plc_le [] x hx]
/-- indices from the last to the first: all their places are told beforehand -/
def Dec : List Nat → Prop
  | [] => True
  | x :: xs => (∀ y ∈ xs, y < x) ∧ Dec xs
theorem Als.road {t v : Tm} {ks : List Nat} (h : Als t ks v) : Dec ks → Road t (ks.map (plc t)) ∧ t.along (ks.map (plc t)) = v := by
  induction h with
  | nil => exact fun _ => ⟨.nil, rfl⟩
  | @cons t t1 v k ks O h r ih =>
    rintro ⟨hd, hd2⟩
    obtain ⟨g1, g2⟩ := ih hd2
    have e : ks.map (plc t1) = ks.map (plc t) := List.map_congr_left fun y hy => h.plc_eq (Nat.le_of_lt (hd y hy))
    obtain ⟨b, u, hr, hs, _⟩ := sti_red h
    rw [e, ← hs] at g1 g2
    refine ⟨.cons ?_ g1, g2⟩
    unfold Tm.isRed
    exact decide_eq_true (Tm.red_mem.mpr ⟨_, _, _, hr⟩)
theorem posN_ge {j : Nat} : ∀ {xs : List Nat} {s y : Nat}, y ∈ posN j s xs → s ≤ y ∧ y < s + xs.length
  | [], _, _, h => by simp [posN] at h
  | x :: xs, s, y, h => by
    rw [posN] at h
    have key : y ∈ posN j (s + 1) xs → s ≤ y ∧ y < s + (x :: xs).length := fun g => by
      have := posN_ge g
      simp only [List.length_cons]
      omega
    split at h
    · rcases List.mem_cons.mp h with rfl | g
      · simp
      · exact key g
    · exact key h
theorem dec_snoc : ∀ {xs : List Nat} {y : Nat}, Dec xs → (∀ x ∈ xs, y < x) → Dec (xs ++ [y])
  | [], _, _, _ => ⟨by simp, trivial⟩
  | x :: xs, y, h, k => by
    refine ⟨fun z hz => ?_, dec_snoc h.2 fun z hz => k z (List.mem_cons_of_mem _ hz)⟩
    rcases List.mem_append.mp hz with g | g
    · exact h.1 z g
    · rw [List.mem_singleton.mp g]
      exact k x List.mem_cons_self
theorem posN_dec (j : Nat) : ∀ (xs : List Nat) (s : Nat), Dec (posN j s xs).reverse
  | [], _ => trivial
  | x :: xs, s => by
    rw [posN]
    split
    · rw [List.reverse_cons]
      refine dec_snoc (posN_dec j xs (s + 1)) fun y hy => ?_
      have := posN_ge (List.mem_reverse.mp hy)
      omega
    · exact posN_dec j xs (s + 1)
end Ly
set_option Elab.async false
set_option linter.all false
set_option maxRecDepth 100000
namespace Ly
open PySem PySem.Spec PyProof.Rows L2 Evl
theorem rn_head {t v : Tm} {r : List (List Nat)} {ms : List Mv} (h : Run t r ms v) {m : Mv} (hm : ms[0]? = some m) : m.t = t := by
  cases h with
  | nil => simp at hm
  | cons => simp at hm; rw [← hm]
theorem rn_next {t v : Tm} {r : List (List Nat)} {ms : List Mv} (h : Run t r ms v) : ∀ {k : Nat} {m m' : Mv}, ms[k]? = some m → ms[k + 1]? = some m' → m'.t = m.nx := by
  induction h with
  | nil =>
    intro k m m' h
    simp at h
  | @cons t v p i b u r ms h hf hr ih =>
    intro k m m' h1 h2
    cases k with
    | zero =>
      simp at h1
      rw [← h1]
      exact rn_head hr (by simpa using h2)
    | succ k => exact ih (by simpa using h1) (by simpa using h2)
theorem Mv.sti {m : Mv} (h : m.ok) : StI m.t m.i m.nx m.O := red_sti h
theorem Mv.plc {m : Mv} (h : m.ok) : Ly.plc m.t m.i = m.p := red_plc h
theorem StI.ge {t v : Tm} {k : Nat} {O : List Nat} (h : StI t k v O) : ∀ y o, O[y]? = some o → o < k → y = o := by
  induction h with
  | root => exact fun _ _ _ h => absurd h (Nat.not_lt_zero _)
  | @lam b b' k O h ih =>
    intro y o hy ho
    cases y with
    | zero => simp at hy; exact hy
    | succ y =>
      have hy : (O.map (· + 1))[y]? = some o := hy
      rw [List.getElem?_map] at hy
      obtain ⟨x, hx, rfl⟩ := Option.map_eq_some_iff.mp hy
      have := ih y x hx (by omega)
      omega
  | @fn f f' a k O h ih =>
    intro y o hy ho
    have hk := h.lt
    cases y with
    | zero => simp at hy; exact hy
    | succ y =>
      have hy : (O.map (· + 1) ++ List.range' (1 + f.enc.length) a.enc.length)[y]? = some o := hy
      by_cases hl : y < (O.map (· + 1)).length
      · rw [getE_left hl, List.getElem?_map] at hy
        obtain ⟨x, hx, rfl⟩ := Option.map_eq_some_iff.mp hy
        have := ih y x hx (by omega)
        omega
      · rw [List.getElem?_append_right (by omega)] at hy
        have := List.mem_of_getElem? hy
        simp only [List.mem_range'_1] at this
        omega
  | @arg f a a' k O h ih =>
    intro y o hy ho
    cases y with
    | zero => simp at hy; exact hy
    | succ y =>
      have hy : (List.range' 1 f.enc.length ++ O.map (· + (1 + f.enc.length)))[y]? = some o := hy
      by_cases hl : y < f.enc.length
      · rw [getE_left (by rw [List.length_range']; exact hl), List.getElem?_range' hl] at hy
        have := Option.some.inj hy
        omega
      · rw [List.getElem?_append_right (by rw [List.length_range']; omega), List.length_range', List.getElem?_map] at hy
        obtain ⟨x, hx, rfl⟩ := Option.map_eq_some_iff.mp hy
        have := ih _ x hx (by omega)
        omega
/-- steps behind p and its abstraction leave both as they are -/
theorem ahead {t v : Tm} {road : List (List Nat)} {ms : List Mv} (h : Run t road ms v) (p : Nat) : ∀ {k : Nat} {m : Mv}, ms[k]? = some m → (∀ j mj, j < k → ms[j]? = some mj → p + 1 < mj.i) →
    (∀ x, x ≤ p + 1 → m.t.enc[x]? = t.enc[x]? ∧ back (ms.take k) x = x) ∧ (∀ x, x ≤ p → redB t.enc x = true → src (ms.take k) x = some x) ∧ (∀ y, y < m.t.enc.length → back (ms.take k) y ≤ p + 1 → y ≤ p + 1)
  | 0, m, hm, _ => by
    rw [rn_head h hm]
    exact ⟨fun x _ => ⟨rfl, rfl⟩, fun x _ _ => rfl, fun y _ hy => hy⟩
  | k + 1, m, hm, hb => by
    obtain ⟨mk, hmk⟩ : ∃ mk, ms[k]? = some mk := ⟨_, List.getElem?_eq_getElem (by have := (List.getElem?_eq_some_iff.mp hm).1; omega)⟩
    obtain ⟨i1, i2, i3⟩ := ahead h p hmk fun j mj hj => hb j mj (by omega)
    have hpi := hb k mk (by omega) hmk
    have hok := (h.sub hmk).1
    have hs := mk.sti hok
    rw [rn_next h hmk hm]
    have tk : ms.take (k + 1) = ms.take k ++ [mk] := by rw [List.take_add_one, hmk]; rfl
    have hg : ∀ x, x ≤ p + 1 → mk.O.getD x 0 = x := fun x hx => by
      rw [List.getD_eq_getElem?_getD, (hs.front x (by omega)).2]
      rfl
    refine ⟨fun x hx => ?_, fun x hx hr => ?_, fun y hy hb2 => ?_⟩
    · rw [(hs.front x (by omega)).1, tk, back_app, hg x hx]
      exact i1 x hx
    · rw [tk, src_snoc, hg x (by omega), if_pos (by
        obtain ⟨r1, r2⟩ := redB_iff.mp hr
        exact redB_iff.mpr ⟨by rw [(i1 x (by omega)).1, r1], by rw [(i1 (x + 1) (by omega)).1, r2]⟩)]
      exact i2 x hx hr
    · obtain ⟨o, ho, he, hol⟩ := Mv.at mk hok hy
      rw [tk, back_app, he] at hb2
      have ho1 := i3 o hol hb2
      have := hs.ge y o ho (by omega)
      omega
theorem src_red {t v : Tm} {road : List (List Nat)} {ms : List Mv} (h : Run t road ms v) : ∀ {k : Nat} {m : Mv} {x s : Nat}, ms[k]? = some m → redB m.t.enc x = true → src (ms.take k) x = some s → redB t.enc s = true
  | 0, m, x, s, hm, hx, hs => by
    rw [rn_head h hm] at hx
    have : x = s := Option.some.inj hs
    rw [← this]
    exact hx
  | k + 1, m, x, s, hm, hx, hs => by
    obtain ⟨mk, hmk⟩ : ∃ mk, ms[k]? = some mk := ⟨_, List.getElem?_eq_getElem (by have := (List.getElem?_eq_some_iff.mp hm).1; omega)⟩
    rw [show ms.take (k + 1) = ms.take k ++ [mk] by rw [List.take_add_one, hmk]; rfl, src_snoc] at hs
    split at hs
    · rename_i hr
      exact src_red h hmk hr hs
    · cases hs
/-- the least source, and the first move with it -/
structure Least (ms : List Mv) (p n : Nat) : Prop where
  at_ : ∃ m, ms[n]? = some m ∧ src (ms.take n) m.i = some p
  min : ∀ k m s, ms[k]? = some m → src (ms.take k) m.i = some s → p ≤ s ∧ (s = p → n ≤ k)
theorem fsN_least {ms : List Mv} {m0 : Mv} (h0 : ms[0]? = some m0) : ∀ j, j < ms.length → (fsN ms m0.i j).2 ≤ j ∧ (∃ m, ms[(fsN ms m0.i j).2]? = some m ∧ src (ms.take (fsN ms m0.i j).2) m.i = some (fsN ms m0.i j).1) ∧
    ∀ k m s, k ≤ j → ms[k]? = some m → src (ms.take k) m.i = some s → (fsN ms m0.i j).1 ≤ s ∧ (s = (fsN ms m0.i j).1 → (fsN ms m0.i j).2 ≤ k)
  | 0, _ => by
    refine ⟨Nat.le_refl 0, ⟨m0, h0, rfl⟩, fun k m s hk hm hs => ?_⟩
    have e : k = 0 := by omega
    subst e
    rw [h0] at hm
    cases hm
    have : m0.i = s := Option.some.inj hs
    exact ⟨by rw [← this]; exact Nat.le_refl _, fun _ => Nat.le_refl 0⟩
  | j + 1, hj => by
    obtain ⟨i1, ⟨mi, i2, i3⟩, i4⟩ := fsN_least h0 j (by omega)
    obtain ⟨mj, hmj⟩ : ∃ mj, ms[j + 1]? = some mj := ⟨_, List.getElem?_eq_getElem hj⟩
    have e : fsN ms m0.i (j + 1) = match src (ms.take (j + 1)) mj.i with
        | some s => if s < (fsN ms m0.i j).1 then (s, j + 1) else fsN ms m0.i j
        | none => fsN ms m0.i j := by
      show (match (ms[j + 1]?).bind fun m => src (ms.take (j + 1)) m.i with | some s => _ | none => _) = _
      rw [hmj]
      rfl
    have keep : (∀ s, src (ms.take (j + 1)) mj.i = some s → (fsN ms m0.i j).1 ≤ s) → fsN ms m0.i (j + 1) = fsN ms m0.i j → (fsN ms m0.i (j + 1)).2 ≤ j + 1 ∧ (∃ m, ms[(fsN ms m0.i (j + 1)).2]? = some m ∧ src (ms.take (fsN ms m0.i (j + 1)).2) m.i = some (fsN ms m0.i (j + 1)).1) ∧
        ∀ k m s, k ≤ j + 1 → ms[k]? = some m → src (ms.take k) m.i = some s → (fsN ms m0.i (j + 1)).1 ≤ s ∧ (s = (fsN ms m0.i (j + 1)).1 → (fsN ms m0.i (j + 1)).2 ≤ k) := by
      intro hle he
      rw [he]
      refine ⟨by omega, ⟨mi, i2, i3⟩, fun k m s hk hm hs => ?_⟩
      by_cases hkj : k = j + 1
      · subst hkj
        rw [hmj] at hm
        cases hm
        exact ⟨hle s hs, fun _ => by omega⟩
      · exact i4 k m s (by omega) hm hs
    cases hs : src (ms.take (j + 1)) mj.i with
    | none =>
      rw [hs] at e
      exact keep (fun s z => by rw [hs] at z; cases z) e
    | some s =>
      rw [hs] at e
      by_cases hlt : s < (fsN ms m0.i j).1
      · have e2 : fsN ms m0.i (j + 1) = (s, j + 1) := by rw [e]; exact if_pos hlt
        rw [e2]
        refine ⟨Nat.le_refl _, ⟨mj, hmj, hs⟩, fun k m s2 hk hm hs2 => ?_⟩
        by_cases hkj : k = j + 1
        · subst hkj
          rw [hmj] at hm
          cases hm
          rw [hs] at hs2
          cases hs2
          exact ⟨Nat.le_refl _, fun _ => Nat.le_refl _⟩
        · have := (i4 k m s2 (by omega) hm hs2).1
          exact ⟨by show s ≤ s2; omega, fun z => by have z : s2 = s := z; omega⟩
      · refine keep (fun s2 z => ?_) (by rw [e]; exact if_neg hlt)
        rw [hs] at z
        cases z
        omega
theorem fsN_Least {ms : List Mv} {m0 : Mv} (h0 : ms[0]? = some m0) : Least ms (fsN ms m0.i (ms.length - 1)).1 (fsN ms m0.i (ms.length - 1)).2 := by
  have hl := (List.getElem?_eq_some_iff.mp h0).1
  obtain ⟨_, h2, h3⟩ := fsN_least h0 (ms.length - 1) (by omega)
  refine ⟨h2, fun k m s hm hs => h3 k m s ?_ hm hs⟩
  have := (List.getElem?_eq_some_iff.mp hm).1
  omega
theorem Least.red {t v : Tm} {road : List (List Nat)} {ms : List Mv} (h : Run t road ms v) {p n : Nat} (L : Least ms p n) : redB t.enc p = true := by
  obtain ⟨m, hm, hs⟩ := L.at_
  exact src_red h hm (m.sti (h.sub hm).1).redB hs
theorem Least.behind {t v : Tm} {road : List (List Nat)} {ms : List Mv} (h : Run t road ms v) {p n : Nat} (L : Least ms p n) : ∀ k, k < n → ∀ j mj, j < k + 1 → ms[j]? = some mj → p + 1 < mj.i := by
  intro k
  have key : ∀ k mk, k < n → ms[k]? = some mk → (∀ j mj, j < k → ms[j]? = some mj → p + 1 < mj.i) → p + 1 < mk.i := by
    intro k mk hk hmk hb
    obtain ⟨i1, i2, _⟩ := ahead h p hmk hb
    obtain ⟨r1, r2⟩ := redB_iff.mp (mk.sti (h.sub hmk).1).redB
    obtain ⟨p1, p2⟩ := redB_iff.mp (L.red h)
    by_cases hle : mk.i ≤ p
    · have hr : redB t.enc mk.i = true := redB_iff.mpr ⟨by rw [← (i1 mk.i (by omega)).1, r1], by rw [← (i1 (mk.i + 1) (by omega)).1, r2]⟩
      have hs := i2 mk.i hle hr
      obtain ⟨h1, h2⟩ := L.min k mk mk.i hmk hs
      have := h2 (by omega)
      omega
    · by_cases he : mk.i = p + 1
      · rw [he, (i1 (p + 1) (by omega)).1, p2] at r1
        exact absurd (V.str.inj (Option.some.inj r1)) str_ne1
      · omega
  induction k with
  | zero =>
    intro hk j mj hj hmj
    have e : j = 0 := by omega
    subst e
    exact key 0 mj hk hmj fun j _ hj => absurd hj (Nat.not_lt_zero j)
  | succ k ih =>
    intro hk j mj hj hmj
    by_cases e : j = k + 1
    · subst e
      exact key (k + 1) mj hk hmj (ih (by omega))
    · exact ih (by omega) j mj (by omega) hmj
theorem Least.front {t v : Tm} {road : List (List Nat)} {ms : List Mv} (h : Run t road ms v) {p n : Nat} (L : Least ms p n) : ∀ j mj, j < n → ms[j]? = some mj → p + 1 < mj.i := by
  intro j mj hj hm
  exact L.behind h j hj j mj (by omega) hm
theorem Least.here {t v : Tm} {road : List (List Nat)} {ms : List Mv} (h : Run t road ms v) {p n : Nat} (L : Least ms p n) {m : Mv} (hm : ms[n]? = some m) : m.i = p := by
  obtain ⟨m', hm', hs⟩ := L.at_
  rw [hm] at hm'
  cases hm'
  obtain ⟨i1, _, i3⟩ := ahead h p hm (L.front h)
  have hb := src_some hs
  have hlt := (m.sti (h.sub hm).1).lt
  have hle := i3 m.i (by omega) (by omega)
  have := (i1 m.i hle).2
  omega
def OP (t : Tm) (p : Nat) : List Nat := match t.sub (plc t p) with
  | some (_, .app (.lam b) u) => stepO t p b u
  | _ => []
theorem OP_eq {t v : Tm} {p : Nat} {O : List Nat} (h : StI t p v O) : OP t p = O := by
  obtain ⟨b, u, hr, _, e⟩ := sti_red h
  unfold OP
  have hr2 : t.sub (plc t p) = some (p, .app (.lam b) u) := hr
  rw [hr2]
  exact e
def stp (t : Tm) (p : Nat) : Tm := t.step (plc t p)
/-- the copies of a move's redex behind the step at p, from the last to the first -/
def crd (p : Nat) (m : Mv) : List (List Nat) := (posN m.i 0 (OP m.t p)).reverse.map (plc (stp m.t p))
def nrd (p : Nat) (ms : List Mv) : List (List Nat) := (ms.map (crd p)).flatten
theorem sti_stp {t : Tm} {p : Nat} (h : redB t.enc p = true) : ∃ O, StI t p (stp t p) O := sti_of_redB h
theorem crd_ok {m : Mv} (hok : m.ok) {p : Nat} (hp : p < m.i) (hr : redB m.t.enc p = true) : Road (stp m.t p) (crd p m) ∧ (stp m.t p).along (crd p m) = stp m.nx p ∧ redB m.nx.enc p = true := by
  obtain ⟨O, hs⟩ := sti_stp hr
  obtain ⟨v, O3, h1, h2⟩ := dia hs (m.sti hok) hp
  obtain ⟨g1, g2⟩ := h2.road (posN_dec _ _ _)
  have e : stp m.nx p = v := by
    obtain ⟨_, _, _, e, _⟩ := sti_red h1
    exact e
  unfold crd
  rw [OP_eq hs, e]
  exact ⟨g1, g2, h1.redB⟩
theorem road_app {t : Tm} {r s : List (List Nat)} (h : Road t r) (g : Road (t.along r) s) : Road t (r ++ s) := by
  induction h with
  | nil => exact g
  | cons h _ ih => exact .cons h (ih g)
theorem nrd_ok {t v : Tm} {road : List (List Nat)} {ms : List Mv} (h : Run t road ms v) {p n : Nat} (hr : redB t.enc p = true) (hb : ∀ j mj, j < n → ms[j]? = some mj → p + 1 < mj.i) : ∀ {k : Nat} {m : Mv}, k ≤ n → ms[k]? = some m → Road (stp t p) (nrd p (ms.take k)) ∧ (stp t p).along (nrd p (ms.take k)) = stp m.t p ∧ redB m.t.enc p = true
  | 0, m, _, hm => by
    rw [rn_head h hm]
    exact ⟨.nil, rfl, hr⟩
  | k + 1, m, hk, hm => by
    obtain ⟨mk, hmk⟩ : ∃ mk, ms[k]? = some mk := ⟨_, List.getElem?_eq_getElem (by have := (List.getElem?_eq_some_iff.mp hm).1; omega)⟩
    obtain ⟨i1, i2, i3⟩ := nrd_ok h hr hb (by omega) hmk
    have hpi := hb k mk (by omega) hmk
    obtain ⟨c1, c2, c3⟩ := crd_ok (h.sub hmk).1 (by omega) i3
    have tk : nrd p (ms.take (k + 1)) = nrd p (ms.take k) ++ crd p mk := by
      rw [List.take_add_one, hmk]
      simp [nrd]
    rw [tk, rn_next h hmk hm]
    refine ⟨road_app i1 (by rw [i2]; exact c1), ?_, c3⟩
    rw [Tm.along_app, i2, c2]
theorem run_road {t v : Tm} {r : List (List Nat)} {ms : List Mv} (h : Run t r ms v) : Road t r ∧ t.along r = v := by
  induction h with
  | nil => exact ⟨.nil, rfl⟩
  | @cons t v p i b u r ms h hf hr ih =>
    refine ⟨.cons ?_ ih.1, ih.2⟩
    unfold Tm.isRed
    exact decide_eq_true (Tm.red_mem.mpr ⟨_, _, _, h⟩)
theorem run_drop {t v : Tm} {r : List (List Nat)} {ms : List Mv} (h : Run t r ms v) : ∀ {k : Nat} {m : Mv}, ms[k]? = some m → Run m.nx (r.drop (k + 1)) (ms.drop (k + 1)) v := by
  induction h with
  | nil =>
    intro k m hm
    simp at hm
  | @cons t v p i b u r ms h hf hr ih =>
    intro k m hm
    cases k with
    | zero =>
      simp at hm
      rw [← hm]
      exact hr
    | succ k => exact ih (by simpa using hm)
def newRoad (p n : Nat) (ms : List Mv) (road : List (List Nat)) : List (List Nat) := nrd p (ms.take n) ++ road.drop (n + 1)
theorem newRoad_ok {t v : Tm} {road : List (List Nat)} {ms : List Mv} (h : Run t road ms v) {p n : Nat} (L : Least ms p n) : Road (stp t p) (newRoad p n ms road) ∧ (stp t p).along (newRoad p n ms road) = v := by
  obtain ⟨m, hm, _⟩ := L.at_
  obtain ⟨i1, i2, i3⟩ := nrd_ok h (L.red h) (L.front h) (Nat.le_refl n) hm
  have hd := run_drop h hm
  have e : stp m.t p = m.nx := by
    unfold stp Mv.nx
    rw [← L.here h hm, m.plc (h.sub hm).1]
  rw [e] at i2
  obtain ⟨d1, d2⟩ := run_road hd
  exact ⟨road_app i1 (by rw [i2]; exact d1), by rw [newRoad, Tm.along_app, i2, d2]⟩
def mvs : Tm → List (List Nat) → List Mv
  | _, [] => []
  | t, p :: r => match t.sub p with
    | some (i, .app (.lam b) u) => ⟨t, p, i, b, u⟩ :: mvs (t.step p) r
    | _ => []
theorem run_mvs {t v : Tm} {r : List (List Nat)} {ms : List Mv} (h : Run t r ms v) : mvs t r = ms := by
  induction h with
  | nil => rfl
  | @cons t v p i b u r ms h hf hr ih =>
    have h2 : t.sub p = some (i, .app (.lam b) u) := h
    rw [mvs, h2, ← ih]
theorem road_run {t : Tm} {r : List (List Nat)} (h : Road t r) : (∃ ms v, Run t r ms v) ∨ Tm.pass t r = .large := by
  induction h with
  | nil => exact .inl ⟨_, _, .nil⟩
  | @cons t p r hp hr ih =>
    obtain ⟨i, b, u, hred⟩ := Tm.red_mem.mp (of_decide_eq_true hp)
    by_cases hf : fitsV (t.step p).enc = true
    · rcases ih with ⟨ms, v, h⟩ | h
      · exact .inl ⟨_, _, .cons hred hf h⟩
      · right
        rw [Tm.pass, if_neg (by rw [hp]; decide), if_neg (by rw [hf]; decide), h]
        rfl
    · right
      rw [Tm.pass, if_neg (by rw [hp]; decide), if_pos (by simpa using hf)]
def i0 : List Mv → Nat
  | [] => 0
  | m :: _ => m.i
def lst (t : Tm) (road : List (List Nat)) : Nat × Nat := fsN (mvs t road) (i0 (mvs t road)) ((mvs t road).length - 1)
def nxR (t : Tm) (road : List (List Nat)) : List (List Nat) := newRoad (lst t road).1 (lst t road).2 (mvs t road) road
def nxT (t : Tm) (road : List (List Nat)) : Tm := stp t (lst t road).1
theorem lst_least {t v : Tm} {road : List (List Nat)} {ms : List Mv} (h : Run t road ms v) (hne : road ≠ []) : Least ms (lst t road).1 (lst t road).2 := by
  unfold lst
  rw [run_mvs h]
  cases h with
  | nil => exact absurd rfl hne
  | cons => exact fsN_Least rfl
theorem nx_ok {t v : Tm} {road : List (List Nat)} {ms : List Mv} (h : Run t road ms v) (hne : road ≠ []) : redB t.enc (lst t road).1 = true ∧ Road (nxT t road) (nxR t road) ∧ (nxT t road).along (nxR t road) = v := by
  have L := lst_least h hne
  unfold nxT nxR
  rw [run_mvs h]
  exact ⟨L.red h, newRoad_ok h L⟩
def okPass (t : Tm) (r : List (List Nat)) : Bool := match Tm.pass t r with
  | .ok _ => true
  | _ => false
/-- the standard road: so many places more at most -/
def stdS : Nat → Tm → List (List Nat) → Option (List (List Nat))
  | 0, _, road => if road = [] then some [] else none
  | n + 1, t, road => if road = [] then some [] else if 200 < road.length ∨ fitsV (nxT t road).enc = false ∨ okPass (nxT t road) (nxR t road) = false then none
    else (stdS n (nxT t road) (nxR t road)).map fun l => plc t (lst t road).1 :: l
theorem okPass_run {t : Tm} {r : List (List Nat)} (h : Road t r) (k : okPass t r = true) : ∃ ms v, Run t r ms v := by
  rcases road_run h with g | g
  · exact g
  · unfold okPass at k
    rw [g] at k
    cases k
theorem run_pass {t v : Tm} {r : List (List Nat)} {ms : List Mv} (h : Run t r ms v) : ∃ ts, Tm.pass t r = .ok ts := by
  induction h with
  | nil => exact ⟨_, rfl⟩
  | @cons t v p i b u r ms h hf hr ih =>
    obtain ⟨ts, ih⟩ := ih
    have hp : t.isRed p = true := decide_eq_true (Tm.red_mem.mpr ⟨_, _, _, h⟩)
    rw [Tm.pass, if_neg (by rw [hp]; decide), if_neg (by rw [hf]; decide), ih]
    exact ⟨_, rfl⟩
theorem run_okPass {t v : Tm} {r : List (List Nat)} {ms : List Mv} (h : Run t r ms v) : okPass t r = true := by
  obtain ⟨ts, e⟩ := run_pass h
  unfold okPass
  rw [e]
theorem posN_filter (r : Nat) (os : List Nat) : ((List.range' 0 os.length).filter fun j => decide (os[j]? = some r)) = posN r 0 os := by
  have key : ∀ (xs : List Nat) (s : Nat) (f : Nat → Option Nat), (∀ j, j < xs.length → f (s + j) = xs[j]?) → ((List.range' s xs.length).filter fun j => decide (f j = some r)) = posN r s xs := by
    intro xs
    induction xs with
    | nil => intro s f _; rfl
    | cons x xs ih =>
      intro s f hf
      have h0 := hf 0 (by simp)
      rw [Nat.add_zero] at h0
      have ih2 := ih (s + 1) f fun j hj => by
        have := hf (j + 1) (by simp; omega)
        rw [show s + 1 + j = s + (j + 1) by omega, this]
        rfl
      rw [List.length_cons, List.range'_succ, List.filter_cons, posN, ih2]
      by_cases e : x = r
      · rw [if_pos e, if_pos (by rw [h0]; simpa using e)]
      · rw [if_neg e, if_neg (by rw [h0]; simpa using e)]
  exact key os 0 (fun j => os[j]?) fun j _ => by rw [Nat.zero_add]
theorem run_app {t u v : Tm} {r s : List (List Nat)} {ms ns : List Mv} (h : Run t r ms u) (g : Run u s ns v) : Run t (r ++ s) (ms ++ ns) v := by
  induction h with
  | nil => exact g
  | cons h hf _ ih => exact .cons h hf (ih g)
theorem okPass_big {t u : Tm} {r : List (List Nat)} {ms : List Mv} (h : Run t r ms u) {p : List Nat} {i : Nat} {b w : Tm} (hp : u.Red p i b w) (hf : fitsV (u.step p).enc = false) (s : List (List Nat)) : okPass t (r ++ p :: s) = false := by
  have key : Tm.pass t (r ++ p :: s) = .large := by
    induction h with
    | @nil t =>
      have hr : t.isRed p = true := decide_eq_true (Tm.red_mem.mpr ⟨_, _, _, hp⟩)
      rw [List.nil_append, Tm.pass, if_neg (by rw [hr]; decide), if_pos hf]
    | @cons t v q i b u r ms h hf2 hr ih =>
      have hq : t.isRed q = true := decide_eq_true (Tm.red_mem.mpr ⟨_, _, _, h⟩)
      rw [List.cons_append, Tm.pass, if_neg (by rw [hq]; decide), if_neg (by rw [hf2]; decide), ih hp hf]
      rfl
  unfold okPass
  rw [key]
theorem posN_len (j : Nat) : ∀ (xs : List Nat) (s : Nat), (posN j s xs).length ≤ xs.length
  | [], _ => Nat.le_refl 0
  | x :: xs, s => by
    have := posN_len j xs (s + 1)
    rw [posN]
    split
    · simp only [List.length_cons]
      omega
    · simp only [List.length_cons]
      omega
/-- the copies of one move: all their steps -/
theorem crd_als {m : Mv} (hok : m.ok) {p : Nat} (hp : p < m.i) (hr : redB m.t.enc p = true) : Als (stp m.t p) (posN m.i 0 (OP m.t p)).reverse (stp m.nx p) ∧ (OP m.t p).length = (stp m.t p).enc.length := by
  obtain ⟨O, hs⟩ := sti_stp hr
  obtain ⟨v, O3, h1, h2⟩ := dia hs (m.sti hok) hp
  have e : stp m.nx p = v := by
    obtain ⟨_, _, _, e, _⟩ := sti_red h1
    exact e
  rw [OP_eq hs, e]
  exact ⟨h2, hs.len⟩
/-- one of them: its step, and its place, which is as told beforehand -/
theorem Als.get {t v : Tm} {ks : List Nat} (h : Als t ks v) : Dec ks → ∀ {i k : Nat}, ks[i]? = some k → ∃ w O, StI (t.along ((ks.take i).map (plc t))) k w O ∧ plc (t.along ((ks.take i).map (plc t))) k = plc t k := by
  induction h with
  | nil =>
    intro _ i k hk
    simp at hk
  | @cons t t1 v k0 ks O h r ih =>
    rintro ⟨hd, hd2⟩ i k hk
    cases i with
    | zero =>
      simp at hk
      subst hk
      exact ⟨_, _, h, rfl⟩
    | succ i =>
      have hk : ks[i]? = some k := by simpa using hk
      obtain ⟨w, O', g1, g2⟩ := ih hd2 hk
      obtain ⟨b, u, hr, hs, _⟩ := sti_red h
      have e : (ks.take i).map (plc t1) = (ks.take i).map (plc t) := List.map_congr_left fun y hy => h.plc_eq (Nat.le_of_lt (hd y (List.mem_of_mem_take hy)))
      rw [e, ← hs] at g1 g2
      refine ⟨w, O', g1, ?_⟩
      show plc ((t.step (plc t k0)).along ((ks.take i).map (plc t))) k = plc t k
      rw [g2, hs]
      exact h.plc_eq (Nat.le_of_lt (hd k (List.mem_of_getElem? hk)))
theorem stdS_nil (n : Nat) (t : Tm) : stdS n t [] = some [] := by cases n <;> rfl
theorem stdS_long {n : Nat} {t : Tm} {road : List (List Nat)} (h : 200 < road.length) : stdS n t road = none := by
  have hne : road ≠ [] := fun z => by rw [z] at h; simp at h
  cases n with
  | zero => exact if_neg hne
  | succ n => rw [stdS, if_neg hne, if_pos (.inl h)]
theorem stdS_bad {n : Nat} {t : Tm} {road : List (List Nat)} (hne : road ≠ []) (h : fitsV (nxT t road).enc = false ∨ okPass (nxT t road) (nxR t road) = false) : stdS n t road = none := by
  cases n with
  | zero => exact if_neg hne
  | succ n => rw [stdS, if_neg hne, if_pos (.inr h)]
theorem stdS_more {n : Nat} {t : Tm} {road : List (List Nat)} (hne : road ≠ []) (h : 200 < (nxR t road).length) : stdS n t road = none := by
  cases n with
  | zero => exact if_neg hne
  | succ n =>
    rw [stdS, if_neg hne]
    split
    · rfl
    · rw [stdS_long h]
      rfl
theorem stdS_next {n : Nat} {t : Tm} {road : List (List Nat)} (hne : road ≠ []) (h : road.length ≤ 200) (hf : fitsV (nxT t road).enc = true) (hp : okPass (nxT t road) (nxR t road) = true) : stdS (n + 1) t road = (stdS n (nxT t road) (nxR t road)).map fun l => plc t (lst t road).1 :: l := by
  rw [stdS, if_neg hne, if_neg (by rw [hf, hp]; simp; omega)]
/-- the mark of the k-th step -/
def mrk (ms : List Mv) (k : Nat) (m : Mv) : Nat := back (ms.take k) (m.i + 1)
theorem Least.mark {t v : Tm} {road : List (List Nat)} {ms : List Mv} (h : Run t road ms v) {p n : Nat} (L : Least ms p n) {m : Mv} (hm : ms[n]? = some m) : mrk ms n m = p + 1 := by
  unfold mrk
  rw [L.here h hm]
  exact ((ahead h p hm (L.front h)).1 (p + 1) (Nat.le_refl _)).2
end Ly
set_option Elab.async false
set_option linter.all false
set_option maxRecDepth 100000
namespace Ly
open PySem PySem.Spec PyProof.Rows L2 Evl
theorem reds_redB {t : Tm} (h : t.reds [] = []) (x : Nat) : redB t.enc x = false := by
  cases e : redB t.enc x with
  | false => rfl
  | true =>
    obtain ⟨b, u, hr⟩ := red_of_redB e
    have : plc t x ∈ t.reds [] := Tm.red_mem.mpr ⟨_, _, _, hr⟩
    rw [h] at this
    cases this
theorem run_last {t v : Tm} {road : List (List Nat)} {ms : List Mv} (h : Run t road ms v) : (ms = [] ∧ v = t) ∨ ∃ m, ms[ms.length - 1]? = some m ∧ 0 < ms.length ∧ v = m.nx := by
  induction h with
  | nil => exact .inl ⟨rfl, rfl⟩
  | @cons t v p i b u r ms h hf hr ih =>
    right
    rcases ih with ⟨rfl, rfl⟩ | ⟨m, h1, h2, h3⟩
    · exact ⟨_, rfl, by simp, rfl⟩
    · refine ⟨m, ?_, by simp, h3⟩
      rw [List.length_cons, Nat.add_sub_cancel]
      obtain ⟨k, hk⟩ : ∃ k, ms.length = k + 1 := ⟨ms.length - 1, by omega⟩
      rw [hk, Nat.add_sub_cancel] at h1
      rw [hk]
      exact h1
/-- a road to a normal term steps at the first redex some time -/
theorem lst_first {t v : Tm} {road : List (List Nat)} {ms : List Mv} (h : Run t road ms v) (hne : road ≠ []) (hv : v.reds [] = []) : ∀ x, redB t.enc x = true → (lst t road).1 ≤ x := by
  intro x hx
  have L := lst_least h hne
  generalize (lst t road).1 = p at *
  generalize (lst t road).2 = n at *
  by_cases hxp : p ≤ x
  · exact hxp
  exfalso
  obtain ⟨x1, x2⟩ := redB_iff.mp hx
  have key : ∀ k, ∀ (j : Nat) (mj : Mv), j < k → ms[j]? = some mj → x + 1 < mj.i := by
    intro k
    induction k with
    | zero => exact fun j _ hj => absurd hj (Nat.not_lt_zero j)
    | succ k ih =>
      intro j mj hj hmj
      by_cases e : j < k
      · exact ih j mj e hmj
      have e2 : j = k := by omega
      subst e2
      obtain ⟨i1, i2, _⟩ := ahead h x hmj ih
      obtain ⟨r1, r2⟩ := redB_iff.mp (mj.sti (h.sub hmj).1).redB
      by_cases hle : mj.i ≤ x
      · have hr : redB t.enc mj.i = true := redB_iff.mpr ⟨by rw [← (i1 mj.i (by omega)).1, r1], by rw [← (i1 (mj.i + 1) (by omega)).1, r2]⟩
        have := (L.min j mj mj.i hmj (i2 mj.i hle hr)).1
        omega
      · by_cases he : mj.i = x + 1
        · rw [he, (i1 (x + 1) (by omega)).1, x2] at r1
          exact absurd (V.str.inj (Option.some.inj r1)) str_ne1
        · omega
  have hvx : redB v.enc x = true := by
    rcases run_last h with ⟨_, rfl⟩ | ⟨m, hm, hl, rfl⟩
    · exact hx
    · obtain ⟨i1, _, _⟩ := ahead h x hm (fun j mj hj => key _ j mj hj)
      have hi := key (ms.length) _ m (by omega) hm
      have hs := m.sti (h.sub hm).1
      exact redB_iff.mpr ⟨by rw [(hs.front x (by omega)).1, (i1 x (by omega)).1, x1], by rw [(hs.front (x + 1) (by omega)).1, (i1 (x + 1) (by omega)).1, x2]⟩
  rw [reds_redB hv x] at hvx
  cases hvx
theorem std_first : ∀ (n : Nat) {t v : Tm} {road out : List (List Nat)} {ms : List Mv}, Run t road ms v → v.reds [] = [] → stdS n t road = some out → Tm.nf out.length t = (out, .done v) := by
  intro n
  induction n with
  | zero =>
    intro t v road out ms h hv hs
    by_cases hne : road = []
    · subst hne
      rw [stdS_nil] at hs
      cases hs
      cases h
      exact Tm.nf_none hv 0
    · rw [stdS, if_neg hne] at hs
      cases hs
  | succ n ih =>
    intro t v road out ms h hv hs
    by_cases hne : road = []
    · subst hne
      rw [stdS_nil] at hs
      cases hs
      cases h
      exact Tm.nf_none hv 0
    · rw [stdS, if_neg hne] at hs
      split at hs
      · cases hs
      · rename_i hc
        simp only [not_or, Bool.not_eq_false] at hc
        obtain ⟨l, hl, rfl⟩ := Option.map_eq_some_iff.mp hs
        obtain ⟨hred, hroad, hal⟩ := nx_ok h hne
        obtain ⟨ms2, v2, h2⟩ := okPass_run hroad hc.2.2
        have e2 : v2 = v := by rw [← (run_road h2).2, hal]
        subst e2
        have hn := ih h2 hv hl
        have hlt := redB_lt hred
        obtain ⟨p, r, b, c, hp, hrs, hred2⟩ := Tm.first_red (t := t) (i := (lst t road).1) (by omega) hred (fun j hj => by
          cases e : redB t.enc j with
          | false => rfl
          | true =>
            have := lst_first h hne hv j e
            omega)
        have ep : plc t (lst t road).1 = p := red_plc hred2
        have hf : fitsV (t.step p).enc = true := by
          have := hc.2.1
          unfold nxT stp at this
          rw [ep] at this
          exact this
        rw [ep, List.length_cons, Tm.nf_step hrs hf]
        have e3 : nxT t road = t.step p := by
          unfold nxT stp
          rw [ep]
        rw [e3] at hn
        rw [hn]
        rfl
end Ly
set_option Elab.async false
set_option linter.all false
set_option maxRecDepth 100000
namespace Ly
open PySem PySem.Spec PyProof.Rows L2 Evl
theorem run_split {r s : List (List Nat)} : ∀ {t v : Tm} {ns : List Mv}, Run t (r ++ s) ns v → ∃ (ns1 : List Mv) (u : Tm) (ns2 : List Mv), ns = ns1 ++ ns2 ∧ Run t r ns1 u ∧ Run u s ns2 v := by
  induction r with
  | nil => exact fun {t v ns} h => ⟨[], t, ns, rfl, .nil, h⟩
  | cons q r ih =>
    intro t v ns h
    rw [List.cons_append] at h
    cases h with
    | cons h hf hr =>
      obtain ⟨a, u, b, e, h1, h2⟩ := ih hr
      exact ⟨_ :: a, u, b, by rw [e]; rfl, .cons h hf h1, h2⟩
theorem run_end {t u v : Tm} {r : List (List Nat)} {ms ns : List Mv} (h : Run t r ms u) (g : Run t r ns v) : u = v ∧ ms = ns := by
  obtain ⟨_, e1⟩ := run_road h
  obtain ⟨_, e2⟩ := run_road g
  exact ⟨by rw [← e1, ← e2], by rw [← run_mvs h, ← run_mvs g]⟩
/-- one more step of the standard road -/
theorem std_inv {n : Nat} {t v : Tm} {road out : List (List Nat)} {ms : List Mv} (h : Run t road ms v) (hne : road ≠ []) (e : stdS n t road = some out) : ∃ (k p q : Nat) (out' : List (List Nat)) (ns : List Mv), n = k + 1 ∧ Least ms p q ∧ out = plc t p :: out' ∧ stdS k (stp t p) (newRoad p q ms road) = some out' ∧ Run (stp t p) (newRoad p q ms road) ns v ∧ fitsV (stp t p).enc = true := by
  cases n with
  | zero => simp [stdS, hne] at e
  | succ k =>
    unfold stdS at e
    rw [if_neg hne] at e
    split at e
    · cases e
    · rename_i hc
      obtain ⟨out', h1, h2⟩ := Option.map_eq_some_iff.mp e
      obtain ⟨_, hroad, hal⟩ := nx_ok h hne
      have hok : okPass (nxT t road) (nxR t road) = true := by
        cases c : okPass (nxT t road) (nxR t road) with
        | true => rfl
        | false => exact absurd (.inr (.inr c)) hc
      have hf : fitsV (nxT t road).enc = true := by
        cases c : fitsV (nxT t road).enc with
        | true => rfl
        | false => exact absurd (.inr (.inl c)) hc
      obtain ⟨ns, v', hr⟩ := okPass_run hroad hok
      have ev : v' = v := by
        rw [← (run_road hr).2, hal]
      subst ev
      have L := lst_least h hne
      have en : nxR t road = newRoad (lst t road).1 (lst t road).2 ms road := by
        unfold nxR
        rw [run_mvs h]
      rw [en] at h1 hr
      exact ⟨k, (lst t road).1, (lst t road).2, out', ns, rfl, L, h2.symm, h1, hr, hf⟩
/-- a standard road is its own standard road -/
theorem std_self : ∀ {n : Nat} {t v : Tm} {road : List (List Nat)} {ms : List Mv}, Run t road ms v → stdL ms → road.length ≤ n → road.length ≤ 200 → stdS n t road = some road := by
  intro n
  induction n with
  | zero =>
    intro t v road ms h hs hl h2
    have : road = [] := List.length_eq_zero_iff.mp (by omega)
    subst this
    exact stdS_nil 0 t
  | succ n ih =>
    intro t v road ms h hs hl h2
    by_cases hne : road = []
    · subst hne
      exact stdS_nil _ t
    · have L := lst_least h hne
      obtain ⟨p, hp⟩ : ∃ p, p = (lst t road).1 := ⟨_, rfl⟩
      obtain ⟨q, hq⟩ : ∃ q, q = (lst t road).2 := ⟨_, rfl⟩
      rw [← hp, ← hq] at L
      have h0 := h
      cases h with
      | nil => exact absurd rfl hne
      | @cons _ _ q0 i b u r ms' hr hf hrun =>
        obtain ⟨mq, hmq, _⟩ := L.at_
        have hq0 : q = 0 := by
          rcases Nat.eq_zero_or_pos q with c | c
          · exact c
          · exfalso
            obtain ⟨d, rfl⟩ : ∃ d, q = d + 1 := ⟨q - 1, by omega⟩
            have hfr := L.front h0 0 _ (by omega) rfl
            have hfr : p + 1 < i := hfr
            have hm := L.mark h0 hmq
            have hs1 := (stdI_iff _ _ _).mp hs.1 d mq (by simpa using hmq)
            refine hs1 ⟨p, ?_, hm⟩
            show (decide (p < i) && redB t.enc p) = true
            rw [L.red h0, decide_eq_true (by omega)]
            rfl
        subst hq0
        have hi := L.here h0 hmq
        cases hmq
        have hi : i = p := hi
        subst hi
        have ep : plc t i = q0 := red_plc hr
        have eT : nxT t (q0 :: r) = t.step q0 := by
          unfold nxT stp
          rw [← hp, ep]
        have eR : nxR t (q0 :: r) = r := by
          unfold nxR
          rw [← hp, ← hq, run_mvs h0]
          rfl
        have hl1 : r.length ≤ n := by simpa using hl
        have h21 : r.length ≤ 200 := by
          simp only [List.length_cons] at h2
          omega
        rw [stdS_next hne h2 (by rw [eT]; exact hf) (by rw [eT, eR]; exact run_okPass hrun), eT, eR, ih hrun hs.2 hl1 h21, ← hp, ep]
        rfl
theorem plcT_small (t : Tm) (k : Nat) : ∀ c ∈ plc t k, c < 200 := by
  unfold plc
  rw [List.getD_eq_getElem?_getD]
  cases e : (t.pls [])[k]? with
  | none => intro c hc; simp at hc
  | some q => exact Tm.pls_small t [] (by simp) q (List.mem_of_getElem? e)
theorem stdT_small : ∀ {n : Nat} {t : Tm} {road out : List (List Nat)}, stdS n t road = some out → Small out
  | 0, t, road, out, h => by
    unfold stdS at h
    split at h
    · cases h
      exact fun q hq => absurd hq (by simp)
    · cases h
  | n + 1, t, road, out, h => by
    unfold stdS at h
    split at h
    · cases h
      exact fun q hq => absurd hq (by simp)
    · split at h
      · cases h
      · obtain ⟨l, hl, rfl⟩ := Option.map_eq_some_iff.mp h
        intro q hq
        rcases List.mem_cons.mp hq with rfl | hq
        · exact plcT_small _ _
        · exact stdT_small hl q hq
theorem stdT_len : ∀ {n : Nat} {t : Tm} {road out : List (List Nat)}, stdS n t road = some out → out.length ≤ n
  | 0, t, road, out, h => by
    unfold stdS at h
    split at h
    · cases h
      exact Nat.le_refl 0
    · cases h
  | n + 1, t, road, out, h => by
    unfold stdS at h
    split at h
    · cases h
      exact Nat.zero_le _
    · split at h
      · cases h
      · obtain ⟨l, hl, rfl⟩ := Option.map_eq_some_iff.mp h
        have := stdT_len hl
        simp only [List.length_cons]
        omega
theorem std_run : ∀ {n : Nat} {t v : Tm} {road out : List (List Nat)} {ms : List Mv}, stdS n t road = some out → Run t road ms v → ∃ os, Run t out os v := by
  intro n
  induction n with
  | zero =>
    intro t v road out ms e h
    by_cases hne : road = []
    · subst hne
      rw [stdS_nil] at e
      cases e
      exact ⟨_, h⟩
    · simp [stdS, hne] at e
  | succ n ih =>
    intro t v road out ms e h
    by_cases hne : road = []
    · subst hne
      rw [stdS_nil] at e
      cases e
      exact ⟨_, h⟩
    · obtain ⟨k', p, q, out', ns, e1, L, rfl, h1, h2, hf⟩ := std_inv h hne e
      have : k' = n := by omega
      subst this
      obtain ⟨os', g⟩ := ih h1 h2
      obtain ⟨b, u, hr⟩ := red_of_redB (L.red h)
      exact ⟨_, .cons hr hf g⟩
end Ly
set_option Elab.async false
set_option linter.all false
set_option maxRecDepth 100000
namespace Ly
open PySem PySem.Spec PyProof.Rows L2 Evl
/-- how often a variable stands in a term -/
def Tm.cnt : Nat → Tm → Nat
  | d, .var n => if n = d then 1 else 0
  | d, .lam b => b.cnt (d + 1)
  | d, .app f a => f.cnt d + a.cnt d
def Tm.aff : Tm → Prop
  | .var _ => True
  | .lam b => b.cnt 0 ≤ 1 ∧ b.aff
  | .app f a => f.aff ∧ a.aff
theorem cnt_lif_lo (c : Nat) : ∀ (t : Tm) {e d : Nat}, d < e → (t.vmap (lif c) e).cnt d = t.cnt d
  | .var n, e, d, h => by
    show (if lif c e n = d then 1 else 0) = if n = d then 1 else 0
    unfold lif
    split
    · rw [if_neg (by omega), if_neg (by omega)]
    · rfl
  | .lam b, e, d, h => cnt_lif_lo c b (by omega)
  | .app f a, e, d, h => by
    show (f.vmap (lif c) e).cnt d + (a.vmap (lif c) e).cnt d = _
    rw [cnt_lif_lo c f h, cnt_lif_lo c a h]
    rfl
theorem cnt_lif_mid (c : Nat) : ∀ (t : Tm) {e d : Nat}, e ≤ d → d < e + c → (t.vmap (lif c) e).cnt d = 0
  | .var n, e, d, h, h2 => by
    show (if lif c e n = d then 1 else 0) = 0
    unfold lif
    split
    · rw [if_neg (by omega)]
    · rw [if_neg (by omega)]
  | .lam b, e, d, h, h2 => cnt_lif_mid c b (by omega) (by omega)
  | .app f a, e, d, h, h2 => by
    show (f.vmap (lif c) e).cnt d + (a.vmap (lif c) e).cnt d = _
    rw [cnt_lif_mid c f h h2, cnt_lif_mid c a h h2]
theorem cnt_lif_hi (c : Nat) : ∀ (t : Tm) {e d : Nat}, e ≤ d → (t.vmap (lif c) e).cnt (d + c) = t.cnt d
  | .var n, e, d, h => by
    show (if lif c e n = d + c then 1 else 0) = if n = d then 1 else 0
    unfold lif
    split
    · by_cases z : n = d
      · rw [if_pos (by omega), if_pos z]
      · rw [if_neg (by omega), if_neg z]
    · rw [if_neg (by omega), if_neg (by omega)]
  | .lam b, e, d, h => by
    have := cnt_lif_hi c b (e := e + 1) (d := d + 1) (by omega)
    show (b.vmap (lif c) (e + 1)).cnt (d + c + 1) = b.cnt (d + 1)
    rw [show d + c + 1 = d + 1 + c by omega, this]
  | .app f a, e, d, h => by
    show (f.vmap (lif c) e).cnt (d + c) + (a.vmap (lif c) e).cnt (d + c) = _
    rw [cnt_lif_hi c f h, cnt_lif_hi c a h]
    rfl
theorem aff_lif (c : Nat) : ∀ (t : Tm) {e : Nat}, t.aff → (t.vmap (lif c) e).aff
  | .var _, _, _ => trivial
  | .lam b, e, h => ⟨by rw [cnt_lif_lo c b (by omega)]; exact h.1, aff_lif c b h.2⟩
  | .app f a, e, h => ⟨aff_lif c f h.1, aff_lif c a h.2⟩
theorem cnt_put_lo (u : Tm) : ∀ (b : Tm) {e d : Nat}, d < e → (Tm.put u e b).cnt d = b.cnt d
  | .var n, e, d, h => by
    rw [Tm.put]
    split
    · rfl
    · split
      · rename_i h1 h2
        have := cnt_lif_mid e u (e := 0) (d := d) (by omega) (by omega)
        rw [this]
        show 0 = if n = d then 1 else 0
        rw [if_neg (by omega)]
      · show (if n - 1 = d then 1 else 0) = if n = d then 1 else 0
        rw [if_neg (by omega), if_neg (by omega)]
  | .lam b, e, d, h => cnt_put_lo u b (by omega)
  | .app f a, e, d, h => by
    show (Tm.put u e f).cnt d + (Tm.put u e a).cnt d = _
    rw [cnt_put_lo u f h, cnt_put_lo u a h]
    rfl
theorem cnt_put_hi (u : Tm) : ∀ (b : Tm) (e d : Nat), (Tm.put u e b).cnt (d + e) = b.cnt (d + e + 1) + b.cnt e * u.cnt d
  | .var n, e, d => by
    rw [Tm.put]
    split
    · show (if n = d + e then 1 else 0) = (if n = d + e + 1 then 1 else 0) + (if n = e then 1 else 0) * _
      rw [if_neg (by omega), if_neg (by omega), if_neg (by omega)]
      omega
    · split
      · rename_i h1 h2
        have := cnt_lif_hi e u (e := 0) (d := d) (by omega)
        rw [this]
        show _ = (if n = d + e + 1 then 1 else 0) + (if n = e then 1 else 0) * _
        rw [if_neg (by omega), if_pos h2]
        omega
      · show (if n - 1 = d + e then 1 else 0) = (if n = d + e + 1 then 1 else 0) + (if n = e then 1 else 0) * _
        rename_i h1 h2
        rw [if_neg h2]
        by_cases z : n = d + e + 1
        · rw [if_pos (by omega), if_pos z]
          omega
        · rw [if_neg (by omega), if_neg z]
          omega
  | .lam b, e, d => by
    have := cnt_put_hi u b (e + 1) d
    show (Tm.put u (e + 1) b).cnt (d + e + 1) = b.cnt (d + e + 1 + 1) + b.cnt (e + 1) * u.cnt d
    rw [show d + e + 1 = d + (e + 1) by omega, this]
  | .app f a, e, d => by
    show (Tm.put u e f).cnt (d + e) + (Tm.put u e a).cnt (d + e) = (f.cnt (d + e + 1) + a.cnt (d + e + 1)) + (f.cnt e + a.cnt e) * u.cnt d
    rw [cnt_put_hi u f e d, cnt_put_hi u a e d, Nat.add_mul]
    omega
theorem aff_put (u : Tm) (hu : u.aff) : ∀ (b : Tm) {e : Nat}, b.aff → (Tm.put u e b).aff
  | .var n, e, _ => by
    rw [Tm.put]
    split
    · trivial
    · split
      · exact aff_lif e u hu
      · trivial
  | .lam b, e, h => ⟨by rw [cnt_put_lo u b (by omega)]; exact h.1, aff_put u hu b h.2⟩
  | .app f a, e, h => ⟨aff_put u hu f h.1, aff_put u hu a h.2⟩
theorem put_lenC (u : Tm) : ∀ (b : Tm) (e : Nat), (Tm.put u e b).enc.length + b.cnt e = b.enc.length + b.cnt e * u.enc.length
  | .var n, e => by
    rw [Tm.put]
    split
    · show 1 + (if n = e then 1 else 0) = 1 + (if n = e then 1 else 0) * _
      rw [if_neg (by omega)]
      omega
    · split
      · rename_i h1 h2
        rw [Tm.vmap_len]
        show _ + (if n = e then 1 else 0) = 1 + (if n = e then 1 else 0) * _
        rw [if_pos h2]
        omega
      · rename_i h1 h2
        show 1 + (if n = e then 1 else 0) = 1 + (if n = e then 1 else 0) * _
        rw [if_neg h2]
        omega
  | .lam b, e => by
    have := put_lenC u b (e + 1)
    show (Tm.put u (e + 1) b).enc.length + 1 + b.cnt (e + 1) = b.enc.length + 1 + b.cnt (e + 1) * _
    omega
  | .app f a, e => by
    have h1 := put_lenC u f e
    have h2 := put_lenC u a e
    show (Tm.app (Tm.put u e f) (Tm.put u e a)).enc.length + (f.cnt e + a.cnt e) = (Tm.app f a).enc.length + (f.cnt e + a.cnt e) * _
    simp only [Tm.enc, List.length_cons, List.length_append, Nat.add_mul]
    omega
/-- a step of such a term is smaller, such a term again, and uses no variable more often -/
theorem StI.aff {t v : Tm} {k : Nat} {O : List Nat} (h : StI t k v O) : t.aff → v.aff ∧ (∀ d, v.cnt d ≤ t.cnt d) ∧ v.enc.length < t.enc.length := by
  induction h with
  | @root b u =>
    rintro ⟨⟨h1, h2⟩, h3⟩
    refine ⟨aff_put u h3 b h2, fun d => ?_, ?_⟩
    · have := cnt_put_hi u b 0 d
      rw [Nat.add_zero] at this
      rw [this]
      show _ ≤ b.cnt (d + 1) + u.cnt d
      have : b.cnt 0 * u.cnt d ≤ 1 * u.cnt d := Nat.mul_le_mul h1 (Nat.le_refl _)
      omega
    · have h4 := put_lenC u b 0
      have h5 : b.cnt 0 * u.enc.length ≤ 1 * u.enc.length := Nat.mul_le_mul h1 (Nat.le_refl _)
      simp only [Tm.enc, List.length_cons, List.length_append]
      omega
  | @lam b b' k O h ih =>
    rintro ⟨h1, h2⟩
    obtain ⟨i1, i2, i3⟩ := ih h2
    refine ⟨⟨Nat.le_trans (i2 0) h1, i1⟩, fun d => i2 (d + 1), ?_⟩
    simp only [Tm.enc, List.length_cons]
    omega
  | @fn f f' a k O h ih =>
    rintro ⟨h1, h2⟩
    obtain ⟨i1, i2, i3⟩ := ih h1
    refine ⟨⟨i1, h2⟩, fun d => ?_, ?_⟩
    · have := i2 d
      show f'.cnt d + a.cnt d ≤ f.cnt d + a.cnt d
      omega
    · simp only [Tm.enc, List.length_cons, List.length_append]
      omega
  | @arg f a a' k O h ih =>
    rintro ⟨h1, h2⟩
    obtain ⟨i1, i2, i3⟩ := ih h2
    refine ⟨⟨h1, i1⟩, fun d => ?_, ?_⟩
    · have := i2 d
      show f.cnt d + a'.cnt d ≤ f.cnt d + a.cnt d
      omega
    · simp only [Tm.enc, List.length_cons, List.length_append]
      omega
theorem posN_rng (r s0 l s : Nat) : (posN r s (List.range' s0 l)).length ≤ 1 ∧ (¬ (s0 ≤ r ∧ r < s0 + l) → (posN r s (List.range' s0 l)).length = 0) := by
  by_cases h : s0 ≤ r ∧ r < s0 + l
  · obtain ⟨k, rfl⟩ : ∃ k, r = s0 + k := ⟨r - s0, by omega⟩
    rw [posN_range s k l s0 (by omega)]
    exact ⟨Nat.le_refl _, fun z => absurd h z⟩
  · rw [posN_none (by simp only [List.mem_range'_1]; omega)]
    exact ⟨Nat.zero_le _, fun _ => rfl⟩
theorem posN_cons (r s x : Nat) (xs : List Nat) : (posN r s (x :: xs)).length = (if x = r then 1 else 0) + (posN r (s + 1) xs).length := by
  rw [posN]
  split
  · simp only [List.length_cons]
    omega
  · omega
theorem pO_cnt (r S l : Nat) : ∀ (b : Tm) (d s0 s : Nat), (posN r s (pO (List.range' S l) b.enc (b.deps d) (List.range' s0 b.enc.length))).length ≤ (if s0 ≤ r ∧ r < s0 + b.enc.length then 1 else 0) + b.cnt d * (if S ≤ r ∧ r < S + l then 1 else 0)
  | .var n, d, s0, s => by
    rw [show List.range' s0 (Tm.var n).enc.length = List.range' s0 1 from rfl, pO_var]
    show _ ≤ (if s0 ≤ r ∧ r < s0 + 1 then 1 else 0) + (if n = d then 1 else 0) * _
    by_cases h : n = d
    · rw [if_pos h, if_pos h]
      have := posN_rng r S l s
      by_cases c : S ≤ r ∧ r < S + l
      · rw [if_pos c]
        have := this.1
        omega
      · rw [this.2 c]
        exact Nat.zero_le _
    · rw [if_neg h, if_neg h, posN_cons]
      show _ + 0 ≤ _
      split
      · rw [if_pos (by omega)]
        omega
      · omega
  | .lam b, d, s0, s => by
    rw [pO_lam, posN_cons]
    have := pO_cnt r S l b (d + 1) (s0 + 1) (s + 1)
    show _ ≤ (if s0 ≤ r ∧ r < s0 + (b.enc.length + 1) then 1 else 0) + b.cnt (d + 1) * _
    by_cases c : s0 = r
    · rw [if_neg (by omega)] at this
      rw [if_pos c, if_pos (by omega)]
      omega
    · rw [if_neg c]
      by_cases c2 : s0 + 1 ≤ r ∧ r < s0 + 1 + b.enc.length
      · rw [if_pos c2] at this
        rw [if_pos (by omega)]
        omega
      · rw [if_neg c2] at this
        rw [if_neg (by omega)]
        omega
  | .app f a, d, s0, s => by
    rw [pO_appT, posN_cons, posN_app, List.length_append]
    have h1 := pO_cnt r S l f d (s0 + 1) (s + 1)
    have h2 := pO_cnt r S l a d (s0 + 1 + f.enc.length) (s + 1 + (pO (List.range' S l) f.enc (f.deps d) (List.range' (s0 + 1) f.enc.length)).length)
    have e : (Tm.app f a).enc.length = f.enc.length + a.enc.length + 1 := by simp only [Tm.enc, List.length_cons, List.length_append]
    rw [e]
    show _ ≤ _ + (f.cnt d + a.cnt d) * _
    rw [Nat.add_mul]
    by_cases c : s0 = r
    · rw [if_neg (by omega)] at h1 h2
      rw [if_pos c, if_pos (by omega)]
      omega
    · rw [if_neg c]
      by_cases c2 : s0 + 1 ≤ r ∧ r < s0 + 1 + f.enc.length
      · rw [if_pos c2] at h1
        rw [if_neg (by omega)] at h2
        rw [if_pos (by omega)]
        omega
      · rw [if_neg c2] at h1
        by_cases c3 : s0 + 1 + f.enc.length ≤ r ∧ r < s0 + 1 + f.enc.length + a.enc.length
        · rw [if_pos c3] at h2
          rw [if_pos (by omega)]
          omega
        · rw [if_neg c3] at h2
          rw [if_neg (by omega)]
          omega
/-- a step of such a term copies no redex -/
theorem StI.once {t v : Tm} {k : Nat} {O : List Nat} (h : StI t k v O) : t.aff → ∀ r s, (posN r s O).length ≤ 1 := by
  induction h with
  | @root b u =>
    rintro ⟨⟨h1, _⟩, _⟩ r s
    have := pO_cnt r (2 + b.enc.length) u.enc.length b 0 2 s
    unfold rootO
    by_cases c : 2 + b.enc.length ≤ r ∧ r < 2 + b.enc.length + u.enc.length
    · rw [if_pos c, if_neg (by omega)] at this
      omega
    · rw [if_neg c] at this
      split at this <;> omega
  | @lam b b' k O h ih =>
    rintro ⟨_, h2⟩ r s
    rw [posN_cons]
    cases r with
    | zero =>
      rw [posN_none (by simp)]
      simp
    | succ r =>
      rw [posN_map r 1, if_neg (by omega)]
      have := ih h2 r (s + 1)
      omega
  | @fn f f' a k O h ih =>
    rintro ⟨h1, _⟩ r s
    rw [posN_cons, posN_app, List.length_append]
    have hg := posN_rng r (1 + f.enc.length) a.enc.length (s + 1 + (O.map (· + 1)).length)
    cases r with
    | zero =>
      rw [posN_none (xs := O.map (· + 1)) (by simp), hg.2 (by omega)]
      simp
    | succ r =>
      rw [posN_map r 1, if_neg (by omega)]
      have := ih h1 r (s + 1)
      by_cases c : r < f.enc.length
      · rw [hg.2 (by omega)]
        omega
      · rw [posN_none (fun z => by have := h.bnd r z; omega)]
        have := hg.1
        simp only [List.length_nil]
        omega
  | @arg f a a' k O h ih =>
    rintro ⟨_, h2⟩ r s
    rw [posN_cons, posN_app, List.length_append]
    have hg := posN_rng r 1 f.enc.length (s + 1)
    by_cases c : r < 1 + f.enc.length
    · rw [posN_none (xs := O.map (· + (1 + f.enc.length))) (fun z => by
        obtain ⟨x, _, e⟩ := List.mem_map.mp z
        omega)]
      by_cases c2 : 0 = r
      · rw [if_pos c2, hg.2 (by omega)]
        simp
      · rw [if_neg c2]
        have := hg.1
        simp only [List.length_nil]
        omega
    · obtain ⟨r', rfl⟩ : ∃ r', r = r' + (1 + f.enc.length) := ⟨r - (1 + f.enc.length), by omega⟩
      rw [if_neg (by omega), hg.2 (by omega), posN_map]
      have := ih h2 r' (s + 1 + (List.range' 1 f.enc.length).length)
      omega
theorem Tm.wfA_fr : ∀ {t : Tm} {d M : Nat}, (∀ j, t.fr d j → j < M) → t.wf (d + M)
  | .var n, d, M, h => by
    show n < d + M
    by_cases c : d ≤ n
    · have := h (n - d) (show n = d + (n - d) by omega)
      omega
    · omega
  | .lam b, d, M, h => by
    have := Tm.wfA_fr (t := b) (d := d + 1) (M := M) h
    show b.wf (d + M + 1)
    rw [show d + M + 1 = d + 1 + M by omega]
    exact this
  | .app f a, d, M, h => ⟨Tm.wfA_fr fun j hj => h j (.inl hj), Tm.wfA_fr fun j hj => h j (.inr hj)⟩
theorem Tm.wfA_step {t : Tm} {p : List Nat} {i : Nat} {b u : Tm} {d : Nat} (h : t.Red p i b u) (hw : t.wf d) : (t.step p).wf d := by
  have h1 : (t.step p).wf (0 + d) := Tm.wfA_fr fun j hj => Tm.fr_wf (t := t) (d := 0) (M := d) (by rw [Nat.zero_add]; exact hw) (Tm.fr_step h hj)
  rw [Nat.zero_add] at h1
  exact h1
theorem fitsA_w8 {t : Tm} (h : t.wf 8) : fitsV t.enc = decide (t.enc.length ≤ 1000) := by
  by_cases l : t.enc.length ≤ 1000
  · rw [decide_eq_true l]
    exact fits_of (Tm.vars_mono (by omega) (Tm.vars_wf h)) l
  · rw [decide_eq_false l]
    cases e : fitsV t.enc with
    | false => rfl
    | true => exact absurd (fits_len e) l
theorem aff_run {t : Tm} {r : List (List Nat)} (h : Road t r) : t.aff → t.wf 8 → t.enc.length ≤ 1000 → ∃ ms v, Run t r ms v := by
  induction h with
  | nil => exact fun _ _ _ => ⟨_, _, .nil⟩
  | cons hp _ ih =>
    intro ha hw hl
    obtain ⟨i, b, u, hr⟩ := Tm.isRed_iff.mp hp
    obtain ⟨a1, _, a3⟩ := (red_sti hr).aff ha
    have w1 := Tm.wfA_step hr hw
    obtain ⟨ms, v, h2⟩ := ih a1 w1 (by omega)
    exact ⟨_, _, .cons hr (by rw [fitsA_w8 w1]; exact decide_eq_true (by omega)) h2⟩
theorem run_aff {t v : Tm} {r : List (List Nat)} {ms : List Mv} (h : Run t r ms v) : t.aff → ∀ {k : Nat} {m : Mv}, ms[k]? = some m → m.t.aff := by
  induction h with
  | nil => intro _ k m hm; simp at hm
  | @cons t v p i b u q ms h hf hrun ih =>
    intro ha k m hm
    cases k with
    | zero =>
      simp at hm
      subst hm
      exact ha
    | succ k => exact ih ((red_sti h).aff ha).1 (k := k) (m := m) (by simpa using hm)
theorem nrd_aff {t v : Tm} {road : List (List Nat)} {ms : List Mv} (h : Run t road ms v) (ha : t.aff) {p n : Nat} (hr : redB t.enc p = true) (hb : ∀ j mj, j < n → ms[j]? = some mj → p + 1 < mj.i) : ∀ {k : Nat} {m : Mv}, k ≤ n → ms[k]? = some m → (nrd p (ms.take k)).length ≤ k
  | 0, m, _, _ => Nat.le_refl 0
  | k + 1, m, hk, hm => by
    obtain ⟨mk, hmk⟩ : ∃ mk, ms[k]? = some mk := ⟨_, List.getElem?_eq_getElem (by have := (List.getElem?_eq_some_iff.mp hm).1; omega)⟩
    have ih := nrd_aff h ha hr hb (k := k) (by omega) hmk
    have tk : nrd p (ms.take (k + 1)) = nrd p (ms.take k) ++ crd p mk := by
      rw [List.take_add_one, hmk]
      simp [nrd]
    obtain ⟨_, _, c3⟩ := nrd_ok h hr hb (by omega) hmk
    obtain ⟨O, hs⟩ := sti_stp c3
    have h1 := hs.once (run_aff h ha hmk) mk.i 0
    rw [tk, List.length_append]
    unfold crd
    rw [List.length_map, List.length_reverse, OP_eq hs]
    omega
/-- such a term's roads have standard roads, that are no longer -/
theorem std_aff : ∀ {n : Nat} {t v : Tm} {road : List (List Nat)} {ms : List Mv}, Run t road ms v → t.aff → t.wf 8 → t.enc.length ≤ 1000 → road.length ≤ n → road.length ≤ 200 → ∃ out, stdS n t road = some out ∧ out.length ≤ road.length := by
  intro n
  induction n with
  | zero =>
    intro t v road ms h _ _ _ hl _
    have : road = [] := List.length_eq_zero_iff.mp (by omega)
    subst this
    exact ⟨[], stdS_nil 0 t, Nat.le_refl _⟩
  | succ n ih =>
    intro t v road ms h ha hw h1 hl h2
    by_cases hne : road = []
    · subst hne
      exact ⟨[], stdS_nil _ t, Nat.le_refl _⟩
    · have L := lst_least h hne
      obtain ⟨hr, hroad, hal⟩ := nx_ok h hne
      obtain ⟨b, u, hred⟩ := red_of_redB hr
      obtain ⟨a1, _, a3⟩ := (red_sti hred).aff ha
      have w1 := Tm.wfA_step hred hw
      have a1 : (nxT t road).aff := a1
      have a3 : (nxT t road).enc.length < t.enc.length := a3
      have w1 : (nxT t road).wf 8 := w1
      obtain ⟨ns, v2, hrun⟩ := aff_run hroad a1 w1 (by omega)
      obtain ⟨mq, hmq, _⟩ := L.at_
      have hql := (List.getElem?_eq_some_iff.mp hmq).1
      have hml := h.len
      have hnl := nrd_aff h ha hr (L.front h) (Nat.le_refl _) hmq
      have hlen : (nxR t road).length + 1 ≤ road.length := by
        unfold nxR newRoad
        rw [run_mvs h, List.length_append, List.length_drop]
        omega
      obtain ⟨out, e1, e2⟩ := ih hrun a1 w1 (by omega) (by omega) (by omega)
      refine ⟨plc t (lst t road).1 :: out, ?_, ?_⟩
      · rw [stdS_next hne h2 (by rw [fitsA_w8 w1]; exact decide_eq_true (by omega)) (run_okPass hrun), e1]
        rfl
      · simp only [List.length_cons]
        omega
end Ly
set_option Elab.async false
set_option linter.all false
set_option maxRecDepth 100000
namespace Ly
open PySem PySem.Spec PyProof.Rows L2 Evl
def rDGet (x y : V) (H : Hp) (Q : VK) : Prop := ∃ a v, x = .ref a ∧ DGet H a y (some v) ∧ Q v H
def rDIn (x y : V) (H : Hp) (Q : VK) : Prop := ∃ a o, x = .ref a ∧ DGet H a y o ∧ Q (.bl o.isSome) H
def rDNotIn (x y : V) (H : Hp) (Q : VK) : Prop := ∃ a o, x = .ref a ∧ DGet H a y o ∧ Q (.bl (!o.isSome)) H
def rDPut (x y v : V) (H : Hp) (N : Hp → Prop) : Prop := ∃ a H4, x = .ref a ∧ DPut H a y v H4 ∧ N H4
section
variable {σ : L2.St} {H : Hp} {Q : VK} {D : Ends} {td ty tx tv : TE} {a : Addr} {kvs : List (L2.Key × V)} {i : Int} {v : V}
theorem w_tdget (h : td σ H fun x H1 => ty σ H1 fun y H2 => rDGet x y H2 Q) : tDGet td ty σ H Q := h
theorem w_tdin (h : ty σ H fun y H1 => td σ H1 fun x H2 => rDIn x y H2 Q) : tDIn ty td σ H Q := h
theorem w_tdnotin (h : ty σ H fun y H1 => td σ H1 fun x H2 => rDNotIn x y H2 Q) : tDNotIn ty td σ H Q := h
theorem w_sdput (h : tv σ H fun v H1 => td σ H1 fun x H2 => ty σ H2 fun y H3 => rDPut x y v H3 fun H4 => D.nx σ H4) : sDPut td ty tv D σ H := h
theorem w_dnew (h : ∀ p, H p = none → Q (.ref p) (upd H p (.dK []))) : tDNewK σ H Q := h
theorem w_dput {N : Hp → Prop} (e : H a = some (.dK kvs)) (z : kvs.length < sizeLine) (q : N (upd H a (.dK (putK kvs (.inl i) v)))) : rDPut (.ref a) (.int i) v H N :=
  ⟨a, _, rfl, DPut.k (k := .inl i) e z, q⟩
theorem w_tdsetd (h : td σ H fun x H1 => ∃ a, x = .ref a ∧ IsD H1 a ∧ ty σ H1 fun y H2 => tx σ H2 fun z H3 => ∃ (kvs : List (L2.Key × V)) (k : L2.Key), H3 a = some (.dK kvs) ∧ y = kV k ∧ kvs.length < sizeLine ∧
  (∀ v, valV kvs k = some v → Q v H3) ∧ (valV kvs k = none → Q z (upd H3 a (.dK (putK kvs k z))))) : tDSetd td ty tx σ H Q := h
theorem isD (e : H a = some (.dK kvs)) : IsD H a := .inl ⟨kvs, .inl e⟩
end
/-- the dict that numbers vs -/
def NumD (vs : List Nat) (kvs : List (L2.Key × V)) : Prop := kvs.length = vs.length ∧ ∀ n : Nat, valV kvs (.inl (n : Int)) = if n ∈ vs then some (.int (vs.idxOf n : Nat)) else none
theorem NumD.nil : NumD [] [] := ⟨rfl, fun n => rfl⟩
theorem NumD.put {vs : List Nat} {kvs : List (L2.Key × V)} {n : Nat} (h : NumD vs kvs) (hn : n ∉ vs) : NumD (vs ++ [n]) (putK kvs (.inl (n : Int)) (.int (vs.length : Nat))) := by
  have h0 : valV kvs (.inl (n : Int)) = none := by rw [h.2 n, if_neg hn]
  refine ⟨?_, fun m => ?_⟩
  · rw [putK_new _ h0, List.length_append, List.length_append, h.1]
    rfl
  · rw [valV_put, h.2 m]
    by_cases e : m = n
    · subst e
      rw [if_pos rfl, if_pos (by simp), List.idxOf_append, if_neg hn]
      simp
    · have e2 : ¬ ((.inl (m : Int) : L2.Key) = .inl (n : Int)) := fun z => e (by have := Sum.inl.inj z; omega)
      rw [if_neg e2]
      by_cases hm : m ∈ vs
      · rw [if_pos hm, if_pos (by simp [hm]), List.idxOf_append, if_pos hm]
      · rw [if_neg hm, if_neg (by simp [hm, e])]
end Ly
set_option Elab.async false
set_option linter.all false
set_option maxRecDepth 100000
set_option maxHeartbeats 2000000
namespace Ly
open PySem PySem.Spec PyProof.Rows L2 Evl
section
variable {σ : L2.St} {H : Hp} {Q : VK} {d : Addr} {o : Obj} {kvs : List (L2.Key × V)} {g : TG} {R : It → Hp → Prop} {td ty tx : TE}
theorem lc_keys {tt : TT} {te : TE} {vs : List Nat} {H1 : Hp} {Dl : Addr} (Pv : Nat → Hp → Prop) (h0 : Pv 0 (upd H1 Dl (.lst []))) (hl : ∀ i H, Pv i H → H d = some (.frz o (.dK kvs)))
    (hs : ∀ i k v H, kvs[i]? = some (k, v) → Pv i H → g (kV k) (wipe σ vs) H fun σ2 H2 => wipe σ2 vs = wipe σ vs ∧ tt σ2 H2 fun b H3 =>
      if b = true then te σ2 H3 fun y H4 => ∃ acc, H4 Dl = some (.lst acc) ∧ acc.length < sizeLine ∧ Pv (i + 1) (upd H4 Dl (.lst (acc ++ [y]))) else Pv (i + 1) H3) (hd : ∀ H, Pv kvs.length H → Q (.ref Dl) H) : LcB (Itk d o kvs) g tt te vs Q σ H1 Dl := by
  refine ⟨fun i m H => m = kvs.length - i ∧ i ≤ kvs.length ∧ Pv i H, ⟨_, rfl, Nat.zero_le _, h0⟩, ?_⟩
  rintro i m H ⟨rfl, hi, p⟩
  have sq := hl i H p
  by_cases hlt : i < kvs.length
  · refine .inr ⟨⟨sq, hlt⟩, Pv (i + 1), fun H' p' => ⟨kvs.length - (i + 1), by omega, rfl, hlt, p'⟩, fun x H' y => ?_⟩
    obtain ⟨rfl, k, v, hk, rfl⟩ := y
    exact hs i k v _ hk p
  · have e : i = kvs.length := by omega
    subst e
    exact .inl ⟨⟨sq, Nat.le_refl _⟩, hd H p⟩
theorem w_iKy (h : td σ H fun x H1 => ∃ d o, x = .ref d ∧ ((∃ kvs, H1 d = some (.frz o (.dK kvs)) ∧ R (Itk d o kvs) H1) ∨ ∃ kvs, H1 d = some (.frz o (.dT kvs)) ∧ R (Itkt d o kvs) H1)) : iKeys td σ H R := h
theorem w_lockE {t : TE} {u : HO} (e : H d = some u) (mu : Mut (some u)) (h : ∀ od, t σ (upd H d (.frz od u)) fun v H' => H' d = some (.frz od u) ∧ Q v (upd H' d u)) : tLockE t σ H Q := ⟨d, u, e, mu, h⟩
theorem w_tdget2 (h : td σ H fun x H1 => ∃ a, x = .ref a ∧ IsD H1 a ∧ ty σ H1 fun y H2 => tx σ H2 fun z H3 => ∃ o, DGet H3 a y o ∧ Q (o.getD z) H3) : tDGet2 td ty tx σ H Q := h
theorem w_dgetF {i : Int} {v : V} {a : Addr} {od : Obj} (e : H a = some (.frz od (.dK kvs))) (hv : valV kvs (.inl i) = some v) (q : Q v H) : rDGet (.ref a) (.int i) H Q :=
  ⟨a, v, rfl, .inl ⟨kvs, .inl i, .inr ⟨od, e⟩, rfl, hv.symm⟩, q⟩
end
/-- the indexes of the abstractions whose variables stand in a term, that begins at i under the abstractions row -/
def Tm.arnd : Nat → List Nat → Tm → List Nat
  | _, row, .var n => (row[n]?).toList
  | i, row, .lam b => b.arnd (i + 1) (i :: row)
  | i, row, .app f a => f.arnd (i + 1) row ++ a.arnd (i + 1 + f.enc.length) row
theorem arnd_len : ∀ (t : Tm) (i : Nat) (row : List Nat), (t.arnd i row).length ≤ t.enc.length
  | .var n, i, row => by
    show ((row[n]?).toList).length ≤ 1
    cases row[n]? <;> simp
  | .lam b, i, row => by
    have := arnd_len b (i + 1) (i :: row)
    show (b.arnd (i + 1) (i :: row)).length ≤ b.enc.length + 1
    omega
  | .app f a, i, row => by
    have h1 := arnd_len f (i + 1) row
    have h2 := arnd_len a (i + 1 + f.enc.length) row
    show (f.arnd (i + 1) row ++ a.arnd (i + 1 + f.enc.length) row).length ≤ _
    simp only [Tm.enc, List.length_cons, List.length_append]
    omega
theorem arnd_cnt : ∀ (t : Tm) (i : Nat) (row : List Nat) {d x : Nat}, row[d]? = some x → t.cnt d ≤ (t.arnd i row).count x
  | .var n, i, row, d, x, h => by
    show (if n = d then 1 else 0) ≤ ((row[n]?).toList).count x
    by_cases e : n = d
    · subst e
      rw [h, if_pos rfl]
      simp
    · rw [if_neg e]
      exact Nat.zero_le _
  | .lam b, i, row, d, x, h => arnd_cnt b (i + 1) (i :: row) (d := d + 1) (by simpa using h)
  | .app f a, i, row, d, x, h => by
    have h1 := arnd_cnt f (i + 1) row h
    have h2 := arnd_cnt a (i + 1 + f.enc.length) row h
    show f.cnt d + a.cnt d ≤ (f.arnd (i + 1) row ++ a.arnd (i + 1 + f.enc.length) row).count x
    rw [List.count_append]
    omega
theorem arnd_aff : ∀ (t : Tm) (i : Nat) (row : List Nat), (∀ x, (t.arnd i row).count x ≤ 1) → t.aff
  | .var n, i, row, h => trivial
  | .lam b, i, row, h => ⟨Nat.le_trans (arnd_cnt b (i + 1) (i :: row) (d := 0) (x := i) rfl) (h i), arnd_aff b (i + 1) (i :: row) h⟩
  | .app f a, i, row, h => by
    have hh : ∀ x, (f.arnd (i + 1) row).count x + (a.arnd (i + 1 + f.enc.length) row).count x ≤ 1 := fun x => by
      rw [← List.count_append]
      exact h x
    exact ⟨arnd_aff f (i + 1) row fun x => Nat.le_trans (Nat.le_add_right _ _) (hh x), arnd_aff a (i + 1 + f.enc.length) row fun x => Nat.le_trans (Nat.le_add_left _ _) (hh x)⟩
def arnds : Nat → List Tm → List (List Nat) → List Nat
  | i, t :: ts, r :: rs => t.arnd i r ++ arnds (i + t.enc.length) ts rs
  | _, _, _ => []
/-- in the midst of the walk: the rows that wait (the last one first), as many as terms are left -/
def UInv (t : Tm) (i : Nat) (found : List Nat) (rows : List (List Nat)) : Prop := ∃ ts : List Tm, t.enc.drop i = encs ts ∧ ts.length = rows.length ∧ t.arnd 0 [] = found ++ arnds i ts rows.reverse ∧ (t.deps 0).drop i = depss ts (rows.reverse.map List.length)
theorem UInv.start (t : Tm) : UInv t 0 [] [[]] := ⟨[t], by simp [encs], rfl, by simp [arnds], by simp [depss]⟩
theorem UInv.done {t : Tm} {found : List Nat} {rows : List (List Nat)} (h : UInv t t.enc.length found rows) : found = t.arnd 0 [] := by
  obtain ⟨ts, h1, h2, h3, _⟩ := h
  rw [List.drop_length] at h1
  have e := encs_nil h1.symm
  subst e
  rw [h3]
  cases rows.reverse <;> simp [arnds]
theorem UInv.step {t : Tm} {i : Nat} {v : V} {found : List Nat} {rows : List (List Nat)} (h : UInv t i found rows) (hi : t.enc[i]? = some v) : ∃ rs row, rows = rs ++ [row] ∧ (t.deps 0)[i]? = some row.length ∧
    ((∃ n : Nat, v = .int n ∧ (∀ x, row[n]? = some x → n < row.length ∧ UInv t (i + 1) (found ++ [x]) rs) ∧ (¬ n < row.length → UInv t (i + 1) found rs)) ∨ (v = .str "lam" ∧ UInv t (i + 1) found (rs ++ [i :: row])) ∨ (v = .str "app" ∧ UInv t (i + 1) found (rs ++ [row, row]))) := by
  obtain ⟨ts, h1, h2, h3, h4⟩ := h
  cases ts with
  | nil =>
    exfalso
    have := drop_at hi
    rw [h1] at this
    simp [encs] at this
  | cons u ts =>
    obtain ⟨rs, row, rfl⟩ : ∃ rs row, rows = rs ++ [row] := by
      refine ⟨rows.dropLast, rows.getLast (by intro z; rw [z] at h2; simp at h2), (List.dropLast_concat_getLast _).symm⟩
    have rv : (rs ++ [row]).reverse = row :: rs.reverse := by simp
    rw [rv] at h3 h4
    have hl : ts.length = rs.length := by simpa using h2
    have hd := drop_at hi
    rw [h1] at hd
    have d0 : ∀ (x : Nat) (l : List Nat), (t.deps 0).drop i = x :: l → (t.deps 0)[i]? = some x ∧ (t.deps 0).drop (i + 1) = l := fun x l e => by
      refine ⟨?_, ?_⟩
      · have := congrArg (fun z => z[0]?) e
        simpa using this
      · rw [← List.drop_drop, e]
        rfl
    refine ⟨rs, row, rfl, ?_⟩
    cases u with
    | var n =>
      obtain ⟨e1, e2⟩ := List.cons.inj (show V.int (n : Int) :: encs ts = v :: t.enc.drop (i + 1) from hd)
      obtain ⟨g1, g2⟩ := d0 row.length (depss ts (rs.reverse.map List.length)) h4
      refine ⟨g1, .inl ⟨n, e1.symm, fun x hx => ⟨(List.getElem?_eq_some_iff.mp hx).1, ts, e2.symm, hl, ?_, g2⟩, fun hx => ⟨ts, e2.symm, hl, ?_, g2⟩⟩⟩
      · rw [h3]
        show found ++ ((row[n]?).toList ++ arnds (i + 1) ts rs.reverse) = _
        rw [hx]
        simp
      · rw [h3]
        show found ++ ((row[n]?).toList ++ arnds (i + 1) ts rs.reverse) = _
        rw [List.getElem?_eq_none (by omega)]
        simp
    | lam b =>
      obtain ⟨e1, e2⟩ := List.cons.inj (show V.str "lam" :: (b.enc ++ encs ts) = v :: t.enc.drop (i + 1) from hd)
      obtain ⟨g1, g2⟩ := d0 row.length (b.deps (row.length + 1) ++ depss ts (rs.reverse.map List.length)) h4
      refine ⟨g1, .inr (.inl ⟨e1.symm, b :: ts, e2.symm, by simp [hl], ?_, ?_⟩)⟩
      · rw [h3]
        have : (rs ++ [i :: row]).reverse = (i :: row) :: rs.reverse := by simp
        rw [this]
        show found ++ (b.arnd (i + 1) (i :: row) ++ arnds (i + (b.enc.length + 1)) ts rs.reverse) = found ++ (b.arnd (i + 1) (i :: row) ++ arnds (i + 1 + b.enc.length) ts rs.reverse)
        rw [show i + (b.enc.length + 1) = i + 1 + b.enc.length by omega]
      · rw [g2]
        have : (rs ++ [i :: row]).reverse = (i :: row) :: rs.reverse := by simp
        rw [this]
        rfl
    | app f a =>
      obtain ⟨e1, e2⟩ := List.cons.inj (show V.str "app" :: ((f.enc ++ a.enc) ++ encs ts) = v :: t.enc.drop (i + 1) from hd)
      obtain ⟨g1, g2⟩ := d0 row.length ((f.deps row.length ++ a.deps row.length) ++ depss ts (rs.reverse.map List.length)) h4
      refine ⟨g1, .inr (.inr ⟨e1.symm, f :: a :: ts, by rw [← e2]; simp [encs], by simp [hl], ?_, ?_⟩)⟩
      · rw [h3]
        have : (rs ++ [row, row]).reverse = row :: row :: rs.reverse := by simp
        rw [this]
        show found ++ ((f.arnd (i + 1) row ++ a.arnd (i + 1 + f.enc.length) row) ++ arnds (i + (Tm.app f a).enc.length) ts rs.reverse) = found ++ (f.arnd (i + 1) row ++ (a.arnd (i + 1 + f.enc.length) row ++ arnds (i + 1 + f.enc.length + a.enc.length) ts rs.reverse))
        rw [List.append_assoc, show i + (Tm.app f a).enc.length = i + 1 + f.enc.length + a.enc.length by simp only [Tm.enc, List.length_cons, List.length_append]; omega]
      · rw [g2]
        have : (rs ++ [row, row]).reverse = row :: row :: rs.reverse := by simp
        rw [this]
        show _ = f.deps row.length ++ (a.deps row.length ++ _)
        rw [List.append_assoc]
/-- a dict that counts what stands in a list -/
def CntD (kvs : List (L2.Key × V)) (xs : List Nat) : Prop := kvs.length ≤ xs.length ∧ (∀ x : Nat, valV kvs (.inl (x : Int)) = if x ∈ xs then some (.int (xs.count x : Nat)) else none) ∧ ∀ p ∈ kvs, ∃ x : Nat, p.1 = .inl (x : Int) ∧ x ∈ xs
theorem CntD.nil : CntD [] [] := ⟨Nat.le_refl _, fun x => by rw [if_neg (by simp)]; rfl, fun p h => by simp at h⟩
theorem CntD.had {kvs : List (L2.Key × V)} {xs : List Nat} (h : CntD kvs xs) (x : Nat) : (valV kvs (.inl (x : Int))).getD (.int 0) = .int (xs.count x : Nat) := by
  rw [h.2.1 x]
  split
  · rfl
  · rename_i hn
    rw [List.count_eq_zero.mpr hn]
    rfl
theorem mem_putK {kvs : List (L2.Key × V)} {k : L2.Key} {v : V} {p : L2.Key × V} (h : p ∈ putK kvs k v) : p.1 = k ∨ ∃ q ∈ kvs, q.1 = p.1 := by
  unfold putK at h
  split at h
  · obtain ⟨q, hq, e⟩ := List.mem_map.mp h
    refine .inr ⟨q, hq, ?_⟩
    split at e <;> rw [← e]
  · rcases List.mem_append.mp h with h | h
    · exact .inr ⟨p, h, rfl⟩
    · rw [List.mem_singleton.mp h]
      exact .inl rfl
theorem CntD.put {kvs : List (L2.Key × V)} {xs : List Nat} (h : CntD kvs xs) (x : Nat) : CntD (putK kvs (.inl (x : Int)) (.int ((xs.count x : Nat) + 1 : Int))) (xs ++ [x]) := by
  refine ⟨?_, fun y => ?_, fun p hp => ?_⟩
  · have := length_putK kvs (.inl (x : Int)) (.int ((xs.count x : Nat) + 1 : Int))
    have := h.1
    rw [List.length_append, List.length_singleton]
    omega
  · rw [valV_put]
    by_cases e : y = x
    · subst e
      rw [if_pos rfl, if_pos (by simp), List.count_append]
      simp
    · have e2 : ¬ (Sum.inl (y : Int) : L2.Key) = .inl (x : Int) := fun z => e (by have := Sum.inl.inj z; omega)
      rw [if_neg e2, h.2.1 y, List.count_append]
      have e3 : [x].count y = 0 := List.count_eq_zero.mpr (by simpa using e)
      rw [e3, Nat.add_zero]
      by_cases m : y ∈ xs
      · rw [if_pos m, if_pos (by simp [m])]
      · rw [if_neg m, if_neg (by simp [m, e])]
  · rcases mem_putK hp with e | ⟨q, hq, e⟩
    · exact ⟨x, e, by simp⟩
    · obtain ⟨y, e2, hy⟩ := h.2.2 q hq
      exact ⟨y, by rw [← e, e2], by simp [hy]⟩
theorem CntD.key {kvs : List (L2.Key × V)} {xs : List Nat} (h : CntD kvs xs) {x : Nat} (hx : x ∈ xs) : ∃ (i : Nat) (v : V), kvs[i]? = some (.inl (x : Int), v) := by
  have h1 := h.2.1 x
  rw [if_pos hx] at h1
  unfold valV at h1
  cases e : kvs.find? fun kv => decide (kv.1 = .inl (x : Int)) with
  | none => rw [e] at h1; cases h1
  | some p =>
    have h2 := List.find?_some e
    obtain ⟨i, hi⟩ := List.getElem?_of_mem (List.mem_of_find?_eq_some e)
    obtain ⟨k, v⟩ := p
    refine ⟨i, v, ?_⟩
    rw [hi]
    have : k = .inl (x : Int) := by simpa using h2
    rw [this]
end Ly
namespace Ly
open PySem PySem.Spec PyProof.Rows L2 Evl
theorem redI_pred (xs : List V) : redI xs (xs.length - 1) = redI xs xs.length := by
  cases h : xs.length with
  | zero => rfl
  | succ n =>
    have : redB xs n = false := by
      unfold redB
      rw [List.getElem?_eq_none (show xs.length ≤ n + 1 by omega)]
      simp
    show redI xs n = redI xs n ++ (if redB xs n = true then [n] else [])
    rw [this]
    simp
theorem reds_map (t : Tm) : t.reds [] = (redI t.enc (t.enc.length - 1)).map (plc t) := by
  rw [redI_pred, ← redK_all, ← redI_K]
  rfl
theorem redI_asc (xs : List V) : ∀ n, (redI xs n).Pairwise (· < ·)
  | 0 => List.Pairwise.nil
  | n + 1 => by
    show (redI xs n ++ (if redB xs n = true then [n] else [])).Pairwise (· < ·)
    split
    · refine List.pairwise_append.mpr ⟨redI_asc xs n, List.pairwise_singleton _ _, fun x hx y hy => ?_⟩
      rw [List.mem_singleton.mp hy]
      exact (redI_mem.mp hx).1
    · rw [List.append_nil]
      exact redI_asc xs n
theorem first_least {t : Tm} {p : List Nat} {r : List (List Nat)} {i : Nat} {b u : Tm} (h : t.reds [] = p :: r) (hr : t.Red p i b u) : ∀ j, j < i → redB t.enc j = false := by
  rw [reds_map] at h
  cases e : redI t.enc (t.enc.length - 1) with
  | nil => rw [e] at h; cases h
  | cons x xs =>
    rw [e] at h
    obtain ⟨hx, _⟩ := List.cons.inj h
    have mem : x ∈ redI t.enc (t.enc.length - 1) := by rw [e]; exact List.mem_cons_self
    obtain ⟨_, hb⟩ := redI_mem.mp mem
    obtain ⟨b2, u2, h2⟩ := red_of_redB hb
    rw [hx] at h2
    have ei : i = x := by
      have h3 := Option.some.inj ((show t.sub p = _ from h2).symm.trans (show t.sub p = _ from hr))
      exact (Prod.mk.inj h3).1.symm
    intro j hj
    cases eb : redB t.enc j with
    | false => rfl
    | true =>
      exfalso
      have hlt := redB_lt eb
      have hm : j ∈ redI t.enc (t.enc.length - 1) := redI_mem.mpr ⟨by omega, eb⟩
      rw [e] at hm
      rcases List.mem_cons.mp hm with rfl | hm
      · omega
      · have asc := redI_asc t.enc (t.enc.length - 1)
        rw [e] at asc
        have := (List.pairwise_cons.mp asc).1 j hm
        omega
theorem stdI_free {m : Mv} (h : ∀ r, m.bad r = false) : ∀ (ms done : List Mv), stdI m done ms
  | [], _ => trivial
  | x :: ms, done => ⟨(fun ⟨r, hr, _⟩ => by rw [h r] at hr; cases hr), stdI_free h ms _⟩
/-- a road of first redexes is standard -/
theorem std_firsts {t v : Tm} {road : List (List Nat)} {ms : List Mv} (h : Run t road ms v) : (Tm.nf road.length t).1 = road → stdL ms := by
  induction h with
  | nil => exact fun _ => trivial
  | @cons t v p i b u r ms hr hf hrun ih =>
    intro e
    have mem : p ∈ t.reds [] := Tm.red_mem.mpr ⟨i, b, u, hr⟩
    cases er : t.reds [] with
    | nil => rw [er] at mem; simp at mem
    | cons q rs =>
      have hq : q = p := by
        rw [List.length_cons] at e
        cases fq : fitsV (t.step q).enc with
        | false =>
          rw [Tm.nf_large er fq] at e
          exact (List.cons.inj e).1
        | true =>
          rw [Tm.nf_step er fq] at e
          exact (List.cons.inj e).1
      subst hq
      rw [List.length_cons, Tm.nf_step er hf] at e
      have e2 := (List.cons.inj e).2
      refine ⟨stdI_free (fun x => ?_) ms _, ih e2⟩
      unfold Mv.bad
      cases ex : decide (x < i) with
      | false => rfl
      | true =>
        have := first_least er hr x (of_decide_eq_true ex)
        rw [this]
        rfl
section
variable {K : PySem.W.Frag} {H : Hp} {Q : VK} {a b : Addr} {xs ys : List V}
theorem nds_nums (ds : List Nat) : Nds (nums ds) := fun v hv => by
  obtain ⟨d, _, rfl⟩ := List.mem_map.mp hv
  exact .inl ⟨_, rfl⟩
theorem nds_nil : Nds [] := fun v hv => nomatch hv
end
/-- rows of numbers in lists -/
def RowsAt (H : Hp) (P : Addr → Prop) : List Addr → List (List Nat) → Prop
  | [], [] => True
  | a :: as, r :: rs => (P a ∧ H a = some (.lst (nums r))) ∧ RowsAt H P as rs
  | _, _ => False
theorem RowsAt.snoc {H : Hp} {P : Addr → Prop} {a : Addr} {r : List Nat} (p : P a) (h : H a = some (.lst (nums r))) : ∀ {as : List Addr} {rs : List (List Nat)}, RowsAt H P as rs → RowsAt H P (as ++ [a]) (rs ++ [r])
  | [], [], _ => ⟨⟨p, h⟩, trivial⟩
  | _ :: _, _ :: _, g => ⟨g.1, RowsAt.snoc p h g.2⟩
  | [], _ :: _, g => g.elim
  | _ :: _, [], g => g.elim
theorem RowsAt.last {H : Hp} {P : Addr → Prop} {r : List Nat} : ∀ {as : List Addr} {rs : List (List Nat)}, RowsAt H P as (rs ++ [r]) → ∃ as' a, as = as' ++ [a] ∧ RowsAt H P as' rs ∧ P a ∧ H a = some (.lst (nums r))
  | [], [], g => g.elim
  | [], _ :: _, g => g.elim
  | [a], [], g => ⟨[], a, rfl, trivial, g.1.1, g.1.2⟩
  | _ :: _ :: _, [], g => g.2.elim
  | a :: as, x :: rs, g => by
    obtain ⟨as', b, e, h1, h2, h3⟩ := RowsAt.last (as := as) (rs := rs) (r := r) g.2
    exact ⟨a :: as', b, by rw [e]; rfl, ⟨g.1, h1⟩, h2, h3⟩
theorem RowsAt.mono {H H' : Hp} {P : Addr → Prop} (e : ∀ a o, P a → H a = some o → H' a = some o) : ∀ {as : List Addr} {rs : List (List Nat)}, RowsAt H P as rs → RowsAt H' P as rs
  | [], [], _ => trivial
  | _ :: _, _ :: _, g => ⟨⟨g.1.1, e _ _ g.1.1 g.1.2⟩, RowsAt.mono e g.2⟩
  | [], _ :: _, g => g.elim
  | _ :: _, [], g => g.elim
theorem RowsAt.len {H : Hp} {P : Addr → Prop} : ∀ {as : List Addr} {rs : List (List Nat)}, RowsAt H P as rs → as.length = rs.length
  | [], [], _ => rfl
  | _ :: _, _ :: _, g => by rw [List.length_cons, List.length_cons, RowsAt.len g.2]
  | [], _ :: _, g => g.elim
  | _ :: _, [], g => g.elim
theorem sqT_lst {K : PySem.W.Frag} {H : Hp} {x l : Addr} {xs ys zs : List V} (h : SqT K H x xs) (hl : H l = some (.lst ys)) : SqT K (upd H l (.lst zs)) x xs := by
  rcases h with (h | ⟨ob, h⟩) | h
  · exact .inl (.inl (by rw [upd_ne (fun z => by rw [z, hl] at h; cases h)]; exact h))
  · exact .inl (.inr ⟨ob, by rw [upd_ne (fun z => by rw [z, hl] at h; cases h)]; exact h⟩)
  · exact .inr h
end Ly
set_option Elab.async false
set_option linter.all false
set_option maxRecDepth 100000
set_option maxHeartbeats 8000000
namespace Ly
open PySem PySem.Spec PyProof.Rows L2 Evl
local macro_rules | `(tactic| walk_at "ne") => `(tactic| first
  | assumption
  | ((refine' Ne.symm ?hq); (case hq => assumption))
  | ((refine' ne_of_none ?nh1 ?nh2); (case nh2 => assumption); (case nh1 => walk_at "hp"))
  | ((refine' Ne.symm (ne_of_none ?nh1 ?nh2)); (case nh2 => assumption); (case nh1 => walk_at "hp")))
local macro_rules | `(tactic| walk_at "hp") => `(tactic| first
  | assumption
  | exact upd_same
  | ((refine' SqL.of ?hq); (case hq => walk_at "hp"))
  | ((refine' SqT.of ?hq); (case hq => walk_at "hp"))
  | ((refine' (upd_ne ?hne).trans ?hrest); (case hne => walk_at "ne"); (case hrest => walk_at "hp"))
  | ((refine' ly_at ?hex ?hh); (case hex => assumption); (case hh => walk_at "hp"))
  | ((refine' ly_atF ?hex ?hnn ?hh); (case hex => assumption); (case hh => walk_at "hp"); (case hnn => walk_at "ne"))
  | ((refine' ex_t ?hex ?hh); (case hh => assumption); (case hex => walk_at "ex"))
  | ((refine' ex_l ?hex ?hh); (case hh => assumption); (case hex => walk_at "ex")))
local macro_rules | `(tactic| walk_at "ex") => `(tactic| first
  | assumption
  | exact Ex.refl _
  | ((refine' ex_new ?xa ?xb); (case xb => assumption); (case xa => walk_at "ex"))
  | ((refine' ex_upd ?xa ?xb); (case xb => walk_at "free"); (case xa => walk_at "ex"))
  | ((refine' Ex.trans ?xa ?xb); (case xb => assumption); (case xa => walk_at "ex")))
local macro_rules | `(tactic| walk_at "free") => `(tactic| first
  | assumption
  | ((refine' fresh_back ?xa ?xb); (case xb => assumption); (case xa => walk_at "ex")))
local macro_rules | `(tactic| walk_at "fr") => `(tactic| first
  | assumption
  | exact Fr.refl _ _
  | ((refine' Fr.own ?hq); (case hq => walk_at "fr"))
  | ((refine' Fr.new ?xa ?xb); (case xb => assumption); (case xa => walk_at "fr"))
  | ((refine' Fr.mut ?xa ?xb); (case xb => assumption); (case xa => walk_at "fr"))
  | ((refine' Fr.trans ?xa ?xb); (case xb => assumption); (case xa => walk_at "fr"))
  | ((refine' Fr.trans ?xa (Fr.ex ?xb)); (case xb => assumption); (case xa => walk_at "fr")))
local macro_rules | `(tactic| walk_at "go1") => `(tactic| first
  | (with_reducible refine' w_seq ?_)
  | (with_reducible refine' w_asg ?_)
  | (with_reducible refine' w_ret ?_)
  | (with_reducible refine' w_drop ?_)
  | (with_reducible refine' w_if ?_)
  | (with_reducible refine' w_next ?_)
  | (with_reducible refine' w_name ?_)
  | (with_reducible refine' w_sub ?_)
  | ((with_reducible refine' w_var ?hv ?_); (case hv => exact rfl))
  | (with_reducible refine' w_c ?_)
  | (with_reducible refine' w_op ?_)
  | (with_reducible refine' w_un ?_)
  | (with_reducible refine' w_ch ?_)
  | (with_reducible refine' w_I0 ?_)
  | ((with_reducible refine' w_I ?hc ?_); (case hc => first | (exact ly_mulL (by decide) (by decide)) | (exact ly_mulR (by decide) (by decide)) | (exact ly_mulL (by omega) (by omega)) | (show (_ : Int) ≠ 0; decide) | (show (_ : Int) ≠ 0; omega) | (exact ⟨by decide, by decide⟩) | (exact ⟨by omega, by omega⟩)))
  | (with_reducible refine' w_U ?_)
  | ((with_reducible refine' w_eq ?hs ?_); (case hs => exact rfl))
  | ((with_reducible refine' w_ne ?hs ?_); (case hs => exact rfl))
  | (with_reducible refine' w_isB ?_)
  | (with_reducible refine' w_notB ?_)
  | (with_reducible refine' w_nil ?_)
  | (with_reducible refine' w_cons ?_)
  | (with_reducible refine' w_tup ?_)
  | (with_reducible refine' w_lst ?_)
  | (with_reducible refine' w_cb ?_)
  | (with_reducible refine' w_call ?_)
  | (with_reducible refine' w_bm ?_)
  | (with_reducible refine' w_bm0 ?_)
  | ((with_reducible refine' w_app ?hh ?hz ?_); (case hh => walk_at "hp"); (case hz => first | exact ly_lt (by omega) | exact ly_lt (by simp only [List.length_append, List.length_map, List.length_cons, List.length_nil]; omega)))
  | ((with_reducible refine' w_popA ?hh ?_); (case hh => walk_at "hp"))
  | ((with_reducible refine' w_ext ?hh ?hh2 ?hz ?_); (case hh => walk_at "hp"); (case hh2 => walk_at "hp"))
  | ((with_reducible refine' w_ixL ?hh ?ha ?_); (case hh => walk_at "hp"); (case ha => first | exact rfl | exact at_map (by omega) | exact atI_last _ _ | ((refine' at_of ?ae ?ah); (case ah => assumption); (case ae => omega))))
  | ((with_reducible refine' w_ixT ?hh ?ha ?_); (case hh => walk_at "hp"); (case ha => first | exact rfl | exact at_map (by omega) | exact atI_last _ _ | ((refine' at_of ?ae ?ah); (case ah => assumption); (case ae => omega))))
  | ((with_reducible refine' w_cat ?hh ?hh2 ?hz ?_); (case hh => walk_at "hp"); (case hh2 => walk_at "hp"))
  | ((with_reducible refine' w_setL ?hh ?ha ?_); (case hh => walk_at "hp"); (case ha => exact rfl))
  | (with_reducible refine' w_test ?_)
  | (with_reducible refine' w_tB ?_)
  | (with_reducible refine' w_bl ?_)
  | (with_reducible refine' w_and ?_)
  | (with_reducible refine' w_or ?_)
  | (with_reducible refine' w_not ?_)
  | (with_reducible refine' w_andV ?_)
  | (with_reducible refine' w_orV ?_)
  | (with_reducible refine' w_notV ?_)
  | (with_reducible refine' w_ifE ?_)
  | (with_reducible refine' w_for ?_)
  | ((with_reducible refine' w_nin ?hh ?_); (case hh => walk_at "hp"))
  | ((with_reducible refine' w_sorted ?hh ?_); (case hh => walk_at "hp"))
  | (with_reducible refine' w_tsadd ?_)
  | ((with_reducible refine' w_tsadd1 ?hh ?_); (case hh => walk_at "hp"))
  | ((with_reducible refine' w_sadd ?hh ?hr ?_); (case hh => walk_at "hp"); (case hr => omega))
  | (with_reducible refine' w_iZ ?_)
  | ((with_reducible refine' w_iZ1 ?hh ?hh2 ?_); (case hh => walk_at "hp"); (case hh2 => walk_at "hp"))
  | (with_reducible refine' w_iS ?_)
  | (with_reducible refine' w_iS1 ?_)
  | ((with_reducible refine' w_gtup ?hh ?hn ?_); (case hh => walk_at "hp"); (case hn => exact rfl))
  | (with_reducible refine' w_gcons ?_)
  | (with_reducible refine' w_gnil ?_)
  | (with_reducible refine' w_js ?_)
  | (with_reducible refine' w_jsn ?_)
  | ((with_reducible refine' w_js1 ?hl ?_); (case hl => decide +kernel))
  | (with_reducible refine' w_fmt ?_)
  | ((with_reducible refine' w_fmt1 ?hl ?_); (case hl => decide +kernel))
  | (with_reducible refine' w_callS ?_)
  | ((with_reducible refine' w_truL ?hh ?_); (case hh => walk_at "hp"))
  | (with_reducible refine' w_lc ?_)
  | (with_reducible refine' w_yes ?_)
  | ((with_reducible refine' w_wipe ?he ?_); (case he => exact rfl))
  | (with_reducible refine' w_iL ?_)
  | (with_reducible refine' w_iT ?_)
  | (with_reducible refine' w_iR ?_)
  | ((with_reducible refine' w_iL1 ?hh ?_); (case hh => walk_at "hp"))
  | ((with_reducible refine' w_iT1 ?hh ?_); (case hh => walk_at "hp"))
  | ((with_reducible refine' w_iR1 ?h1 ?h2 ?_); (case h1 => omega); (case h2 => omega))
  | ((with_reducible refine' w_aug ?hv ?_); (case hv => exact rfl))
  | (with_reducible refine' w_ipI ?_)
  | ((with_reducible refine' w_isi ?hy ?hk ?_); (case hy => walk_at "ty"); (case hk => walk_at "kit"))
  | ((with_reducible refine' w_int ?_))
  | ((with_reducible refine' w_intB ?_))
  | ((with_reducible refine' w_abs ?_))
  | ((with_reducible refine' w_lenL ?hh ?_); (case hh => walk_at "hp"))
  | ((with_reducible refine' w_lenT ?hh ?_); (case hh => walk_at "hp"))
  | ((with_reducible refine' w_tupL ?hh ?_); (case hh => walk_at "hp"))
  | ((with_reducible refine' w_tupT ?hh ?_); (case hh => walk_at "hp"))
  | ((with_reducible refine' w_catA ?hh ?hh2 ?hz ?_); (case hh => walk_at "hp"); (case hh2 => walk_at "hp"); (case hz => walk_at "len"))
  | ((with_reducible refine' w_repB ?hh ?hne ?h2 ?h3 ?hz ?_); (case hh => walk_at "hp"); (case hne => simp); (case h2 => omega); (case h3 => omega); (case hz => exact Nat.le_of_ble_eq_true rfl))
  | ((with_reducible refine' w_eqN ?hh ?hh2 ?n1 ?n2 ?_); (case hh => walk_at "hp"); (case hh2 => walk_at "hp"); (case n1 => walk_at "nd"); (case n2 => walk_at "nd"))
  | ((with_reducible refine' w_neN ?hh ?hh2 ?n1 ?n2 ?_); (case hh => walk_at "hp"); (case hh2 => walk_at "hp"); (case n1 => walk_at "nd"); (case n2 => walk_at "nd"))
  | ((with_reducible refine' w_eqL ?hh ?hh2 ?n1 ?n2 ?_); (case hh => walk_at "hp"); (case hh2 => walk_at "hp"); (case n1 => walk_at "nd"); (case n2 => walk_at "nd"))
  | ((with_reducible refine' w_neL ?hh ?hh2 ?n1 ?n2 ?_); (case hh => walk_at "hp"); (case hh2 => walk_at "hp"); (case n1 => walk_at "nd"); (case n2 => walk_at "nd"))
  | ((with_reducible refine' w_neNon ?hh2 ?n2 ?_); (case hh2 => walk_at "hp"); (case n2 => walk_at "nd"))
  | ((with_reducible refine' w_eqNon ?hh2 ?n2 ?_); (case hh2 => walk_at "hp"); (case n2 => walk_at "nd"))
  | ((with_reducible refine' w_slA ?hh ?_); (case hh => walk_at "hp"))
  | ((with_reducible refine' w_disp ?hz ?_); (case hz => exact sz_of (Nat.le_of_ble_eq_true rfl)))
  | ((with_reducible refine' w_tyL ?hh ?_); (case hh => walk_at "hp"))
  | (with_reducible refine' iteT ?_)
  | (with_reducible refine' iteF ?_)
  | (with_reducible refine' w_nT ?_)
  | (with_reducible refine' w_nn ?_)
  | (with_reducible refine' w_nnT ?_)
  | (with_reducible refine' w_nnR ?_)
  | (with_reducible refine' w_neG ?_)
  | (with_reducible refine' w_eqG ?_)
  | (with_reducible refine' w_neS ?_)
  | (with_reducible refine' w_eqS ?_)
  | (with_reducible refine' w_neSb ?_)
  | (with_reducible refine' w_eqSb ?_)
  | (with_reducible refine' w_deIS ?_)
  | (with_reducible refine' w_deSI ?_)
  | (with_reducible refine' w_deISn ?_)
  | ((with_reducible refine' w_deST ?he ?_); (case he => decide +kernel))
  | ((with_reducible refine' w_deSF ?he ?_); (case he => decide +kernel))
  | ((with_reducible refine' w_deSTn ?he ?_); (case he => decide +kernel))
  | ((with_reducible refine' w_deSFn ?he ?_); (case he => decide +kernel))
  | (with_reducible refine' w_nF ?_)
  | dsimp only [Bool.not_true, Bool.not_false])
local macro_rules | `(tactic| walk_at "ty") => `(tactic| first
  | exact .base (.int _) | exact .base (.str _) | exact .base (.bl _) | exact .base .non
  | ((refine' tyx_t ?hq); (case hq => walk_at "hp")) | ((refine' tyx_l ?hq); (case hq => walk_at "hp")) | ((refine' .base (.tup ?hq)); (case hq => walk_at "hp")) | assumption)
local macro_rules | `(tactic| walk_at "go") => `(tactic| repeat walk_at "go1")
local macro_rules | `(tactic| walk_at "st") => `(tactic| try dsimp only [cxOf, Cx.nox, Cx.wish])
local macro_rules | `(tactic| walk_at "kit") => `(tactic| with_reducible first | exact kit_int_int | exact kit_int_str | exact kit_int_bool | exact kit_int_tuple | exact kit_int_list | exact kit_str_int | exact kit_str_str | exact kit_str_bool | exact kit_str_tuple | exact kit_str_list | exact kit_bool_int | exact kit_bool_str | exact kit_bool_bool | exact kit_bool_tuple | exact kit_bool_list | exact kit_NoneType_int | exact kit_NoneType_str | exact kit_NoneType_bool | exact kit_NoneType_tuple | exact kit_NoneType_list | exact kit_list_int | exact kit_list_str | exact kit_list_bool | exact kit_list_tuple | exact kit_list_list | exact kit_tuple_int | exact kit_tuple_str | exact kit_tuple_bool | exact kit_tuple_tuple | exact kit_tuple_list)
local macro_rules | `(tactic| walk_at "nd") => `(tactic| first
  | assumption
  | exact Tm.nds _
  | exact Nds.nil
  | exact Nds.ofInts _
  | ((refine' Nds.cons ?na ?nb); (case na => first | exact Nds.I _ | exact Nds.L | exact Nds.A); (case nb => walk_at "nd"))
  | ((refine' Nds.app ?na ?nb); (case na => walk_at "nd"); (case nb => walk_at "nd"))
  | ((refine' Nds.rep ?na _); (case na => walk_at "nd")))
local macro_rules | `(tactic| walk_at "len") => `(tactic| first
  | exact ly_sz (by omega)
  | ((simp only [List.length_append, List.length_cons, List.length_nil, List.length_map, PyProof.Rows.lm_len_rep_flat]); exact ly_sz (by omega)))
local macro_rules | `(tactic| walk_at "go1") => `(tactic| first
  | (with_reducible refine' w_kget2 ?_)
  | (with_reducible refine' w_isRN ?_)
  | (with_reducible refine' w_isNN ?_)
  | (with_reducible refine' w_isIN ?_)
  | ((with_reducible refine' w_kg ?hd ?_); (case hd => assumption)))
def topS (i : Nat) : Stmt := PySem.Challenge.pw_lydite_k97_whole_first_steps_end.main.body.getD i (.Pass ⟨0, 0, 0, 0⟩)
abbrev s_part_count : Stmt := topS 10
theorem sc_part_count : FnScope ["node"] ["node"] (defScope s_part_count) := ⟨rfl, rfl, rfl, by decide +kernel, rfl, by decide +kernel, by decide +kernel⟩
abbrev s_check_size : Stmt := topS 11
theorem sc_check_size : FnScope ["size"] ["size"] (defScope s_check_size) := ⟨rfl, rfl, rfl, by decide +kernel, rfl, by decide +kernel, by decide +kernel⟩
abbrev s_checked : Stmt := topS 12
theorem sc_checked : FnScope ["term", "node"] ["term"] (defScope s_checked) := ⟨rfl, rfl, rfl, by decide +kernel, rfl, by decide +kernel, by decide +kernel⟩
abbrev s_depths : Stmt := topS 13
theorem sc_depths : FnScope ["term", "found", "pending", "node", "depth"] ["term"] (defScope s_depths) := ⟨rfl, rfl, rfl, by decide +kernel, rfl, by decide +kernel, by decide +kernel⟩
abbrev s_stands_free : Stmt := topS 14
theorem sc_stands_free : FnScope ["node", "depth"] ["node", "depth"] (defScope s_stands_free) := ⟨rfl, rfl, rfl, by decide +kernel, rfl, by decide +kernel, by decide +kernel⟩
abbrev s_lifted_nodes : Stmt := topS 15
theorem sc_lifted_nodes : FnScope ["term", "count", "nodes", "node", "depth"] ["term", "count"] (defScope s_lifted_nodes) := ⟨rfl, rfl, rfl, by decide +kernel, rfl, by decide +kernel, by decide +kernel⟩
abbrev s_put : Stmt := topS 16
theorem sc_put : FnScope ["term", "value", "nodes", "node", "depth"] ["term", "value"] (defScope s_put) := ⟨rfl, rfl, rfl, by decide +kernel, rfl, by decide +kernel, by decide +kernel⟩
abbrev s_put_origins : Stmt := topS 17
theorem sc_put_origins : FnScope ["term", "value", "of_value", "found", "at", "depth"] ["term", "value"] (defScope s_put_origins) := ⟨rfl, rfl, rfl, by decide +kernel, rfl, by decide +kernel, by decide +kernel⟩
abbrev s_letters_of : Stmt := topS 19
theorem sc_letters_of : FnScope ["node"] ["node"] (defScope s_letters_of) := ⟨rfl, rfl, rfl, by decide +kernel, rfl, by decide +kernel, by decide +kernel⟩
abbrev s_places : Stmt := topS 20
theorem sc_places : FnScope ["term", "found", "pending", "node", "place", "letter"] ["term"] (defScope s_places) := ⟨rfl, rfl, rfl, by decide +kernel, rfl, by decide +kernel, by decide +kernel⟩
abbrev s_end_of : Stmt := topS 21
theorem sc_end_of : FnScope ["term", "start", "missing", "end"] ["term", "start"] (defScope s_end_of) := ⟨rfl, rfl, rfl, by decide +kernel, rfl, by decide +kernel, by decide +kernel⟩
abbrev s_start_of : Stmt := topS 22
theorem sc_start_of : FnScope ["term", "place", "start", "letter"] ["term", "place"] (defScope s_start_of) := ⟨rfl, rfl, rfl, by decide +kernel, rfl, by decide +kernel, by decide +kernel⟩
abbrev s_is_redex : Stmt := topS 24
theorem sc_is_redex : FnScope ["term", "at"] ["term", "at"] (defScope s_is_redex) := ⟨rfl, rfl, rfl, by decide +kernel, rfl, by decide +kernel, by decide +kernel⟩
abbrev s_first_redex : Stmt := topS 25
theorem sc_first_redex : FnScope ["term", "start", "at"] ["term", "start"] (defScope s_first_redex) := ⟨rfl, rfl, rfl, by decide +kernel, rfl, by decide +kernel, by decide +kernel⟩
abbrev s_index_at : Stmt := topS 26
theorem sc_index_at : FnScope ["term", "place"] ["term", "place"] (defScope s_index_at) := ⟨rfl, rfl, rfl, by decide +kernel, rfl, by decide +kernel, by decide +kernel⟩
abbrev s_redex_at : Stmt := topS 27
theorem sc_redex_at : FnScope ["term", "place", "at"] ["term", "place"] (defScope s_redex_at) := ⟨rfl, rfl, rfl, by decide +kernel, rfl, by decide +kernel, by decide +kernel⟩
abbrev s_stepped : Stmt := topS 28
theorem sc_stepped : FnScope ["term", "at", "middle", "end", "result"] ["term", "at"] (defScope s_stepped) := ⟨rfl, rfl, rfl, by decide +kernel, rfl, by decide +kernel, by decide +kernel⟩
abbrev s_step_origins : Stmt := topS 29
theorem sc_step_origins : FnScope ["term", "at", "middle", "end", "found", "origin"] ["term", "at"] (defScope s_step_origins) := ⟨rfl, rfl, rfl, by decide +kernel, rfl, by decide +kernel, by decide +kernel⟩
abbrev s_copies : Stmt := topS 33
abbrev N_copies : List Str := ["origins", "at", "index", "origin"]
theorem sc_copies : FnScope ["origins", "at", "index", "origin"] ["origins", "at"] (defScope s_copies) := ⟨rfl, rfl, rfl, by decide +kernel, rfl, by decide +kernel, by decide +kernel⟩
abbrev s_moves_of : Stmt := topS 34
theorem sc_moves_of : FnScope ["term", "road", "moves", "place", "move"] ["term", "road"] (defScope s_moves_of) := ⟨rfl, rfl, rfl, by decide +kernel, rfl, by decide +kernel, by decide +kernel⟩
abbrev s_source : Stmt := topS 35
theorem sc_source : FnScope ["moves", "number", "at", "move"] ["moves", "number"] (defScope s_source) := ⟨rfl, rfl, rfl, by decide +kernel, rfl, by decide +kernel, by decide +kernel⟩
abbrev s_first_source : Stmt := topS 36
theorem sc_first_source : FnScope ["moves", "first", "first_number", "number", "at"] ["moves"] (defScope s_first_source) := ⟨rfl, rfl, rfl, by decide +kernel, rfl, by decide +kernel, by decide +kernel⟩
abbrev s_moves_without : Stmt := topS 37
theorem sc_moves_without : FnScope ["moves", "p", "number", "found", "term", "move", "copied", "at"] ["moves", "p", "number"] (defScope s_moves_without) := ⟨rfl, rfl, rfl, by decide +kernel, rfl, by decide +kernel, by decide +kernel⟩
abbrev s_check_length : Stmt := topS 38
theorem sc_check_length : FnScope ["road"] ["road"] (defScope s_check_length) := ⟨rfl, rfl, rfl, by decide +kernel, rfl, by decide +kernel, by decide +kernel⟩
abbrev s_standard : Stmt := topS 39
theorem sc_standard : FnScope ["term", "road", "moves", "found", "p", "number"] ["term", "road"] (defScope s_standard) := ⟨rfl, rfl, rfl, by decide +kernel, rfl, by decide +kernel, by decide +kernel⟩
abbrev s_next_redex : Stmt := topS 40
theorem sc_next_redex : FnScope ["term", "at"] ["term", "at"] (defScope s_next_redex) := ⟨rfl, rfl, rfl, by decide +kernel, rfl, by decide +kernel, by decide +kernel⟩
abbrev s_repeated : Stmt := topS 41
theorem sc_repeated : FnScope ["term", "steps", "next_at", "step_at", "count", "at"] ["term", "steps", "next_at", "step_at"] (defScope s_repeated) := ⟨rfl, rfl, rfl, by decide +kernel, rfl, by decide +kernel, by decide +kernel⟩
abbrev s_normal : Stmt := topS 42
theorem sc_normal : FnScope ["term", "steps"] ["term", "steps"] (defScope s_normal) := ⟨rfl, rfl, rfl, by decide +kernel, rfl, by decide +kernel, by decide +kernel⟩
abbrev s_law_stream : Stmt := topS 44
theorem sc_law_stream : FnScope ["script", "mixed", "cell"] ["script"] (defScope s_law_stream) := ⟨rfl, rfl, rfl, by decide +kernel, rfl, by decide +kernel, by decide +kernel⟩
abbrev s_law_draw : Stmt := topS 45
theorem sc_law_draw : FnScope ["stream", "many", "value"] ["stream", "many"] (defScope s_law_draw) := ⟨rfl, rfl, rfl, by decide +kernel, rfl, by decide +kernel, by decide +kernel⟩
abbrev s_law_end : Stmt := topS 46
theorem sc_law_end : FnScope ["term", "at", "missing", "node"] ["term", "at"] (defScope s_law_end) := ⟨rfl, rfl, rfl, by decide +kernel, rfl, by decide +kernel, by decide +kernel⟩
abbrev s_law_depths : Stmt := topS 47
theorem sc_law_depths : FnScope ["term", "found", "waiting", "node", "depth"] ["term"] (defScope s_law_depths) := ⟨rfl, rfl, rfl, by decide +kernel, rfl, by decide +kernel, by decide +kernel⟩
abbrev s_law_lift : Stmt := topS 48
theorem sc_law_lift : FnScope ["term", "count", "depths_v", "nodes", "k"] ["term", "count"] (defScope s_law_lift) := ⟨rfl, rfl, rfl, by decide +kernel, rfl, by decide +kernel, by decide +kernel⟩
abbrev s_law_put : Stmt := topS 49
theorem sc_law_put : FnScope ["term", "value", "depths_v", "nodes", "k", "node"] ["term", "value"] (defScope s_law_put) := ⟨rfl, rfl, rfl, by decide +kernel, rfl, by decide +kernel, by decide +kernel⟩
abbrev s_law_step : Stmt := topS 50
theorem sc_law_step : FnScope ["term", "at", "middle", "end"] ["term", "at"] (defScope s_law_step) := ⟨rfl, rfl, rfl, by decide +kernel, rfl, by decide +kernel, by decide +kernel⟩
abbrev s_law_redexes : Stmt := topS 51
abbrev N_law_redexes : List Str := ["term", "k"]
theorem sc_law_redexes : FnScope ["term", "k"] ["term"] (defScope s_law_redexes) := ⟨rfl, rfl, rfl, by decide +kernel, rfl, by decide +kernel, by decide +kernel⟩
abbrev s_law_places : Stmt := topS 52
theorem sc_law_places : FnScope ["term", "found", "waiting", "node", "place"] ["term"] (defScope s_law_places) := ⟨rfl, rfl, rfl, by decide +kernel, rfl, by decide +kernel, by decide +kernel⟩
abbrev s_law_follow : Stmt := topS 53
theorem sc_law_follow : FnScope ["term", "road", "place", "places_v", "at"] ["term", "road"] (defScope s_law_follow) := ⟨rfl, rfl, rfl, by decide +kernel, rfl, by decide +kernel, by decide +kernel⟩
abbrev s_law_inner : Stmt := topS 54
theorem sc_law_inner : FnScope ["stream", "size", "half"] ["stream", "size"] (defScope s_law_inner) := ⟨rfl, rfl, rfl, by decide +kernel, rfl, by decide +kernel, by decide +kernel⟩
abbrev s_law_body : Stmt := topS 55
theorem sc_law_body : FnScope ["stream", "widest", "size", "pick", "half"] ["stream", "widest", "size"] (defScope s_law_body) := ⟨rfl, rfl, rfl, by decide +kernel, rfl, by decide +kernel, by decide +kernel⟩
abbrev s_law_road : Stmt := topS 56
theorem sc_law_road : FnScope ["stream", "term", "count", "road", "k", "rows", "at"] ["stream", "term", "count"] (defScope s_law_road) := ⟨rfl, rfl, rfl, by decide +kernel, rfl, by decide +kernel, by decide +kernel⟩
abbrev s_law_standard : Stmt := topS 57
theorem sc_law_standard : FnScope ["term", "road"] ["term", "road"] (defScope s_law_standard) := ⟨rfl, rfl, rfl, by decide +kernel, rfl, by decide +kernel, by decide +kernel⟩
abbrev s_law_uses : Stmt := topS 58
abbrev N_law_uses : List Str := ["term", "depths_v", "around", "counts", "waiting", "k", "row", "at"]
theorem sc_law_uses : FnScope ["term", "depths_v", "around", "counts", "waiting", "k", "row", "at"] ["term"] (defScope s_law_uses) := ⟨rfl, rfl, rfl, by decide +kernel, rfl, by decide +kernel, by decide +kernel⟩
abbrev s_law_first : Stmt := topS 59
theorem sc_law_first : FnScope ["term", "count", "road", "k", "rows"] ["term", "count"] (defScope s_law_first) := ⟨rfl, rfl, rfl, by decide +kernel, rfl, by decide +kernel, by decide +kernel⟩
abbrev s_law : Stmt := topS 60
theorem sc_law : FnScope ["script", "stream", "term", "road", "end", "given", "actual", "first", "found"] ["script"] (defScope s_law) := ⟨rfl, rfl, rfl, by decide +kernel, rfl, by decide +kernel, by decide +kernel⟩
abbrev s_Move_init : Stmt := inClass (topS 32) 0
theorem sc_Move_init : FnScope ["self", "term", "at"] ["self", "term", "at"] (defScope s_Move_init) := ⟨rfl, rfl, rfl, by decide +kernel, rfl, by decide +kernel, by decide +kernel⟩
structure Txt (w : World) (K : PySem.W.Frag) (mg : Str → Option Value) (tk : Nat → Tok) (cl : Nat → Addr) : Prop where
  n_int : mg "int" = none
  n_list : mg "list" = none
  n_len : mg "len" = none
  n_abs : mg "abs" = none
  n_isinstance : mg "isinstance" = none
  n_tuple : mg "tuple" = none
  n_range : mg "range" = none
  n_zip : mg "zip" = none
  n_reversed : mg "reversed" = none
  n_max : mg "max" = none
  n_enumerate : mg "enumerate" = none
  n_bool : mg "bool" = none
  g_MOST_NODES : mg "MOST_NODES" = some (.int 1000 (tk 0))
  g_MOST_VARIABLE : mg "MOST_VARIABLE" = some (.int 1000000 (tk 1))
  g_MOST_ROAD : mg "MOST_ROAD" = some (.int 200 (tk 2))
  g_PART_COUNTS : mg "PART_COUNTS" = some (.ref (cl 40))
  d_PART_COUNTS : KD K w (cl 40) [("lam", .int 1), ("app", .int 2), ("to", .int 2)]
  n_ValueError : mg "ValueError" = none
  g_LyditeError : mg "LyditeError" = some (.ref (cl 0))
  t_LyditeError : PySem.W.typeIn K (.ref (cl 0)) = some (.type "type")
  h3_LyditeError : PySem.W.hasDictIn K (cl 0) = true
  g_TooLarge : mg "TooLarge" = some (.ref (cl 1))
  x_TooLarge : PySem.W.excIn K (cl 1) [.type "ValueError", .type "Exception", .type "BaseException", .type "object"] "ValueError.__new__" = true
  k_TooLarge : PySem.W.keepIn K (.ref (cl 1)) = true
  b_TooLarge : PySem.W.subIn K (.ref (cl 1)) (.type "BaseException") = some true
  t_TooLarge : PySem.W.typeIn K (.ref (cl 1)) = some (.type "type")
  s0_TooLarge : PySem.W.subIn K (.ref (cl 1)) (.ref (cl 0)) = some true
  sv_TooLarge : PySem.W.subIn K (.ref (cl 1)) (.type "ValueError") = some true
  s1_TooLarge : PySem.W.subIn K (.ref (cl 1)) (.ref (cl 1)) = some true
  s2_TooLarge : PySem.W.subIn K (.ref (cl 1)) (.ref (cl 2)) = some false
  s3_TooLarge : PySem.W.subIn K (.ref (cl 1)) (.ref (cl 3)) = some false
  s4_TooLarge : PySem.W.subIn K (.ref (cl 1)) (.ref (cl 4)) = some false
  h1_TooLarge : PySem.W.findIn K (.ref (cl 1)) "__getattribute__" = some (some (.builtin "BaseException.__getattribute__"))
  h2_TooLarge : PySem.W.findIn K (.ref (cl 1)) "__getattr__" = some none
  h3_TooLarge : PySem.W.hasDictIn K (cl 1) = true
  h4_TooLarge : PySem.W.findIn K (.ref (cl 1)) "__class__" = some (some (.builtin "object.__class__"))
  h7_TooLarge : PySem.W.mroIn K (cl 1) (.type "object") = some true
  h5_TooLarge : PySem.W.specialIn K (.builtin "object.__class__") "__get__" = some (some (.builtin "getset_descriptor.__get__"))
  h6_TooLarge : PySem.W.takesIn K (.builtin "object.__class__") = some true
  g_NoRedex : mg "NoRedex" = some (.ref (cl 2))
  x_NoRedex : PySem.W.excIn K (cl 2) [.type "ValueError", .type "Exception", .type "BaseException", .type "object"] "ValueError.__new__" = true
  k_NoRedex : PySem.W.keepIn K (.ref (cl 2)) = true
  b_NoRedex : PySem.W.subIn K (.ref (cl 2)) (.type "BaseException") = some true
  t_NoRedex : PySem.W.typeIn K (.ref (cl 2)) = some (.type "type")
  s0_NoRedex : PySem.W.subIn K (.ref (cl 2)) (.ref (cl 0)) = some true
  sv_NoRedex : PySem.W.subIn K (.ref (cl 2)) (.type "ValueError") = some true
  s1_NoRedex : PySem.W.subIn K (.ref (cl 2)) (.ref (cl 1)) = some false
  s2_NoRedex : PySem.W.subIn K (.ref (cl 2)) (.ref (cl 2)) = some true
  s3_NoRedex : PySem.W.subIn K (.ref (cl 2)) (.ref (cl 3)) = some false
  s4_NoRedex : PySem.W.subIn K (.ref (cl 2)) (.ref (cl 4)) = some false
  h1_NoRedex : PySem.W.findIn K (.ref (cl 2)) "__getattribute__" = some (some (.builtin "BaseException.__getattribute__"))
  h2_NoRedex : PySem.W.findIn K (.ref (cl 2)) "__getattr__" = some none
  h3_NoRedex : PySem.W.hasDictIn K (cl 2) = true
  h4_NoRedex : PySem.W.findIn K (.ref (cl 2)) "__class__" = some (some (.builtin "object.__class__"))
  h7_NoRedex : PySem.W.mroIn K (cl 2) (.type "object") = some true
  g_NoPlace : mg "NoPlace" = some (.ref (cl 3))
  x_NoPlace : PySem.W.excIn K (cl 3) [.type "ValueError", .type "Exception", .type "BaseException", .type "object"] "ValueError.__new__" = true
  k_NoPlace : PySem.W.keepIn K (.ref (cl 3)) = true
  b_NoPlace : PySem.W.subIn K (.ref (cl 3)) (.type "BaseException") = some true
  t_NoPlace : PySem.W.typeIn K (.ref (cl 3)) = some (.type "type")
  s0_NoPlace : PySem.W.subIn K (.ref (cl 3)) (.ref (cl 0)) = some true
  sv_NoPlace : PySem.W.subIn K (.ref (cl 3)) (.type "ValueError") = some true
  s1_NoPlace : PySem.W.subIn K (.ref (cl 3)) (.ref (cl 1)) = some false
  s2_NoPlace : PySem.W.subIn K (.ref (cl 3)) (.ref (cl 2)) = some false
  s3_NoPlace : PySem.W.subIn K (.ref (cl 3)) (.ref (cl 3)) = some true
  s4_NoPlace : PySem.W.subIn K (.ref (cl 3)) (.ref (cl 4)) = some false
  h1_NoPlace : PySem.W.findIn K (.ref (cl 3)) "__getattribute__" = some (some (.builtin "BaseException.__getattribute__"))
  h2_NoPlace : PySem.W.findIn K (.ref (cl 3)) "__getattr__" = some none
  h3_NoPlace : PySem.W.hasDictIn K (cl 3) = true
  h4_NoPlace : PySem.W.findIn K (.ref (cl 3)) "__class__" = some (some (.builtin "object.__class__"))
  h7_NoPlace : PySem.W.mroIn K (cl 3) (.type "object") = some true
  g_OutOfSteps : mg "OutOfSteps" = some (.ref (cl 4))
  x_OutOfSteps : PySem.W.excIn K (cl 4) [.type "ValueError", .type "Exception", .type "BaseException", .type "object"] "ValueError.__new__" = true
  k_OutOfSteps : PySem.W.keepIn K (.ref (cl 4)) = true
  b_OutOfSteps : PySem.W.subIn K (.ref (cl 4)) (.type "BaseException") = some true
  t_OutOfSteps : PySem.W.typeIn K (.ref (cl 4)) = some (.type "type")
  s0_OutOfSteps : PySem.W.subIn K (.ref (cl 4)) (.ref (cl 0)) = some true
  sv_OutOfSteps : PySem.W.subIn K (.ref (cl 4)) (.type "ValueError") = some true
  s1_OutOfSteps : PySem.W.subIn K (.ref (cl 4)) (.ref (cl 1)) = some false
  s2_OutOfSteps : PySem.W.subIn K (.ref (cl 4)) (.ref (cl 2)) = some false
  s3_OutOfSteps : PySem.W.subIn K (.ref (cl 4)) (.ref (cl 3)) = some false
  s4_OutOfSteps : PySem.W.subIn K (.ref (cl 4)) (.ref (cl 4)) = some true
  h1_OutOfSteps : PySem.W.findIn K (.ref (cl 4)) "__getattribute__" = some (some (.builtin "BaseException.__getattribute__"))
  h2_OutOfSteps : PySem.W.findIn K (.ref (cl 4)) "__getattr__" = some none
  h3_OutOfSteps : PySem.W.hasDictIn K (cl 4) = true
  h4_OutOfSteps : PySem.W.findIn K (.ref (cl 4)) "__class__" = some (some (.builtin "object.__class__"))
  h7_OutOfSteps : PySem.W.mroIn K (cl 4) (.type "object") = some true
  g_Move : mg "Move" = some (.ref (cl 20))
  pg_Move : PySem.W.plainGet K (cl 20) Str.empty = true
  hd_Move : PySem.W.hasDictIn K (cl 20) = true
  po_Move : PySem.W.plainOver K (cl 20) = true
  sa_Move : PySem.W.findIn K (.ref (cl 20)) "__setattr__" = some (some (.builtin "object.__setattr__"))
  mk_Move : PySem.W.makesIn K (cl 20) = true
  kc_Move : PySem.W.keepIn K (.ref (cl 20)) = true
  nf_Move_term : PySem.W.findIn K (.ref (cl 20)) "term" = some none
  nf_Move_at : PySem.W.findIn K (.ref (cl 20)) "at" = some none
  nf_Move_result : PySem.W.findIn K (.ref (cl 20)) "result" = some none
  nf_Move_origins : PySem.W.findIn K (.ref (cl 20)) "origins" = some none
theorem Txt.e_TooLarge_TooLarge {w : World} {K : PySem.W.Frag} {mg : Str → Option Value} {tk : Nat → Tok} {cl : Nat → Addr} (T : Txt w K mg tk cl) : PySem.W.exmOne K (.ref (cl 1)) (.ref (cl 1)) = some true := exm_mk T.b_TooLarge T.h3_TooLarge T.t_TooLarge T.s1_TooLarge
theorem Txt.e_NoPlace_NoPlace {w : World} {K : PySem.W.Frag} {mg : Str → Option Value} {tk : Nat → Tok} {cl : Nat → Addr} (T : Txt w K mg tk cl) : PySem.W.exmOne K (.ref (cl 3)) (.ref (cl 3)) = some true := exm_mk T.b_NoPlace T.h3_NoPlace T.t_NoPlace T.s3_NoPlace
theorem Txt.cls_Move {w : World} {K : PySem.W.Frag} {mg : Str → Option Value} {tk : Nat → Tok} {cl : Nat → Addr} (T : Txt w K mg tk cl) : Cls K (cl 20) := ⟨T.pg_Move, T.hd_Move, T.po_Move, T.sa_Move⟩

section
variable {P : Program} {w : World} {K : PySem.W.Frag} {mg : Str → Option Value} {base : Heap} {tk : Nat → Tok} {cl : Nat → Addr}
def spStream (K : PySem.W.Frag) : Sp := fun vs H Q _ => ∃ (a : Addr) (ns : List Int), vs = [.ref a] ∧ SqL K H a (ns.map V.int) ∧ ns.length ≤ 63 ∧ ∀ H' p l, Ex H H' → H p = none → StAt H' p ⟨l, ns, 0, 0, mixOf ns⟩ → Q (.ref p) H'
theorem ok_stream {f : Addr} {fd : FuncData} {k : Nat} (F : Fun K "_law_stream" "_law_stream" s_law_stream f fd) (T : Txt w K mg tk cl) : FnOk P w K mg base CX0 (k + 1) f fd ["script"] (spStream K) := by
  refine F.ok sc_law_stream (fun vs H Q E h => ?_) (fun cdv A outer s H vs Q E hr h => ?_)
  · obtain ⟨a, ns, rfl, _⟩ := h
    rfl
  · obtain ⟨a, ns, rfl, hS, hlen, q⟩ := h
    refine ⟨_, (pss_cons (ps_set (i := 1) sc_law_stream.nd rfl (.inl rfl) pe_int) (pss_cons (ps_for PassesOwn.never rfl (pi_list (pv 0)) (pg_name (i := 2) sc_law_stream.nd rfl (.inl rfl)) (pss_one (ps_set (i := 1) sc_law_stream.nd rfl (.inl rfl) (pe_op op_modN (pe_callTy call_int1 (by rfl) T.n_int (by decide +kernel) (pa_cons (pe_op op_add (pe_op op_add (pe_op op_mul (pv 1) pe_int) (pe_op op_modN (pe_callTy call_int1 (by rfl) T.n_int (by decide +kernel) (pa_cons (pv 2) pa_nil)) pe_int)) pe_int) pa_nil)) pe_int)))) (pss_one (ps_ret (pe_lst (pa_cons (pe_callTy call_list_of (by rfl) T.n_list (by decide +kernel) (pa_cons (pv 0) pa_nil)) (pa_cons pe_int (pa_cons pe_int (pa_cons (pv 1) pa_nil))))))))), ?_⟩
    refine sl_of (σ2 := [some _, none, none]) rfl ?_
    walk_at "st"
    walk_at "go"
    refine for_list (K := K) (a := a) (xs := ns.map V.int) (fun i σ H' => H' = H ∧ ∃ y, σ = [some (.ref a), some (.int (mixOf (ns.take i))), y]) ⟨rfl, none, rfl⟩ (fun i σ H' _ e => by rw [e.1]; exact hS) ?_ ?_
    · rintro i x σ H' hi ⟨rfl, y, rfl⟩
      obtain ⟨z, hz, rfl⟩ := get_int hi
      walk_at "go"
      exact ⟨rfl, _, by rw [mixOf_take hz]; rfl⟩
    · rintro σ H' ⟨rfl, y, rfl⟩
      walk_at "go"
      intro l hl
      walk_at "go"
      intro p hp
      rw [List.take_of_length_le (by simp)]
      refine q _ _ l ?_ ?_ ⟨?_, ?_, ?_⟩
      · walk_at "ex"
      · walk_at "free"
      · walk_at "ne"
      · walk_at "hp"
      · walk_at "hp"
def spDraw : Sp := fun vs H Q _ => ∃ (s : Addr) (m : Stm) (n : Int), vs = [.ref s, .int n] ∧ StAt H s m ∧ 0 < n ∧ n < 1073741824 ∧ ∀ H', Fr s H H' → StAt H' s (m.next n) → Q (.int (m.val n)) H'
theorem ok_draw {f : Addr} {fd : FuncData} {k : Nat} (F : Fun K "_law_draw" "_law_draw" s_law_draw f fd) (T : Txt w K mg tk cl) : FnOk P w K mg base CX0 (k + 1) f fd ["stream", "many"] spDraw := by
  refine F.ok sc_law_draw (fun vs H Q E h => ?_) (fun cdv A outer s H vs Q E hr h => ?_)
  · obtain ⟨a, m, n, rfl, _⟩ := h
    rfl
  · obtain ⟨a, m, n, rfl, ⟨hla, ha, hl⟩, n0, n1, q⟩ := h
    refine ⟨_, (pss_cut (ps_if (PW.pt (pw_and (pt_cmpR op_eq (pe_ix ix_list (pv 0) pe_int (fun _ _ => rfl)) pe_int (nomark _)) (pw_and1 (pt_cmpR op_lt (pe_ix ix_list (pv 0) pe_int (fun _ _ => rfl)) (pe_callB call_len_seq (by rfl) T.n_len (by decide +kernel) (pa_cons (pe_ix ix_list (pv 0) pe_int (fun _ _ => rfl)) pa_nil)) (nomark _))))) (pss_cons (ps_asg (pe_callB call_abs (by rfl) T.n_abs (by decide +kernel) (pa_cons (pe_callTy call_int1 (by rfl) T.n_int (by decide +kernel) (pa_cons (pe_ix ix_list (pe_ix ix_list (pv 0) pe_int (fun _ _ => rfl)) (pe_ix ix_list (pv 0) pe_int (fun _ _ => rfl)) (fun _ _ => rfl)) pa_nil)) pa_nil)) (pg_sub (pv 0) pe_int set_list)) (pss_one (ps_asg (pe_op op_add (pe_ix ix_list (pv 0) pe_int (fun _ _ => rfl)) pe_int) (pg_sub (pv 0) pe_int set_list)))) pss_nil) (pss_cons (ps_if (pt_cmpR op_eq (pe_ix ix_list (pv 0) pe_int (fun _ _ => rfl)) pe_int (nomark _)) (pss_cons (ps_asg (pe_op op_modN (pe_callTy call_int1 (by rfl) T.n_int (by decide +kernel) (pa_cons (pe_op op_add (pe_op op_mul (pe_ix ix_list (pv 0) pe_int (fun _ _ => rfl)) pe_int) pe_int) pa_nil)) pe_int) (pg_sub (pv 0) pe_int set_list)) (pss_one (ps_ret (pe_op op_modN (pe_callTy call_int1 (by rfl) T.n_int (by decide +kernel) (pa_cons (pe_op op_fdivN (pe_ix ix_list (pv 0) pe_int (fun _ _ => rfl)) pe_int) pa_nil)) (pv 1))))) pss_nil) (pss_cons (ps_set (i := 2) sc_law_draw.nd rfl (.inl rfl) (pe_op op_modN (pe_callTy call_int1 (by rfl) T.n_int (by decide +kernel) (pa_cons (pe_ix ix_list (pv 0) pe_int (fun _ _ => rfl)) pa_nil)) (pv 1))) (pss_cons (ps_asg (pe_op op_fdivN (pe_ix ix_list (pv 0) pe_int (fun _ _ => rfl)) (pv 1)) (pg_sub (pv 0) pe_int set_list)) (pss_one (ps_ret (pv 2))))))), ?_⟩
    refine sl_of (σ2 := [some _, some _, none]) rfl ?_
    walk_at "st"
    walk_at "go"
    refine w_cut (M := fun σ' H' => σ' = [some (.ref a), some (.int n), none] ∧ Fr a H H' ∧ H' a = some (.lst [.ref m.home, .int m.take.cur, .int m.take.pos, .int m.take.mix]) ∧ H' m.home = some (.lst (m.cells.map V.int))) ?_ ?_
    · walk_at "go"
      refine w_brI (fun hc => ?_) (fun hc => ?_)
      · walk_at "go"
        refine w_br (fun hp => ?_) (fun hp => ?_)
        · rw [List.length_map] at hp
          have hp2 : m.pos < m.cells.length := by omega
          have e : m.take = { m with cur := (if m.cells.getD m.pos 0 < 0 then -(m.cells.getD m.pos 0) else m.cells.getD m.pos 0), pos := m.pos + 1 } := if_pos ⟨hc, hp2⟩
          walk_at "go"
          refine ⟨rfl, ?_, ?_, ?_⟩
          · walk_at "fr"
          · rw [e]
            exact upd_same
          · walk_at "hp"
        · rw [List.length_map] at hp
          have e : m.take = m := if_neg (fun z => hp (by omega))
          walk_at "go"
          rw [e]
          exact ⟨rfl, Fr.refl _ _, ha, hl⟩
      · have e : m.take = m := if_neg (fun z => hc z.1)
        walk_at "go"
        rw [e]
        exact ⟨rfl, Fr.refl _ _, ha, hl⟩
    · rintro σ' H' ⟨rfl, fr, ea, el⟩
      walk_at "go"
      refine w_brI (fun hc => ?_) (fun hc => ?_)
      · walk_at "go"
        have e1 : m.next n = m.take.turn := if_pos hc
        have e2 : m.val n = (m.take.turn.mix.fdiv 97).fmod n := if_pos hc
        rw [e1, e2] at q
        refine q _ ?_ ⟨?_, ?_, ?_⟩
        · walk_at "fr"
        · show m.take.home ≠ a
          rw [m.take_home]
          exact hla
        · show _ = some (HO.lst [.ref m.take.home, _, _, _])
          rw [upd_same, m.take_home]
          rfl
        · show _ = some (HO.lst (List.map V.int m.take.cells))
          rw [m.take_cells]
          show upd _ a _ m.take.home = _
          rw [m.take_home]
          walk_at "hp"
      · walk_at "go"
        have e1 : m.next n = { m.take with cur := m.take.cur.fdiv n } := if_neg hc
        have e2 : m.val n = m.take.cur.fmod n := if_neg hc
        rw [e1, e2] at q
        refine q _ ?_ ⟨?_, ?_, ?_⟩
        · walk_at "fr"
        · show m.take.home ≠ a
          rw [m.take_home]
          exact hla
        · show _ = some (HO.lst [.ref m.take.home, _, _, _])
          rw [upd_same, m.take_home]
          rfl
        · show _ = some (HO.lst (List.map V.int m.take.cells))
          rw [m.take_cells]
          show upd _ a _ m.take.home = _
          rw [m.take_home]
          walk_at "hp"
def spDepths (K : PySem.W.Frag) : Sp := fun vs H Q _ => ∃ (a : Addr) (t : Tm), vs = [.ref a] ∧ SqT K H a t.enc ∧ t.enc.length ≤ 2000000 ∧ ∀ H' p, Ex H H' → H p = none → H' p = some (.lst (nums (t.deps 0))) → Q (.ref p) H'
def spEnd (K : PySem.W.Frag) : Sp := fun vs H Q _ => ∃ (a : Addr) (xs : List V) (s : Nat) (u : Tm) (post : List V), vs = [.ref a, .int (s : Int)] ∧ SqT K H a xs ∧ xs.drop s = u.enc ++ post ∧ xs.length ≤ 2000000 ∧ Q (.int ((s + u.enc.length : Nat) : Int)) H
def spLPlaces (K : PySem.W.Frag) : Sp := fun vs H Q _ => ∃ (a : Addr) (t : Tm), vs = [.ref a] ∧ SqT K H a t.enc ∧ t.enc.length ≤ 2000000 ∧ ∀ H' p, Ex H H' → H p = none → H' p = some (.lst (plcs (t.pls []))) → Q (.ref p) H'
end
end Ly
set_option Elab.async false
set_option linter.all false
set_option maxRecDepth 100000
set_option maxHeartbeats 8000000
namespace Ly
open PySem PySem.Spec PyProof.Rows L2 Evl
local macro_rules | `(tactic| walk_at "ne") => `(tactic| first
  | assumption
  | ((refine' Ne.symm ?hq); (case hq => assumption))
  | ((refine' ne_of_none ?nh1 ?nh2); (case nh2 => assumption); (case nh1 => walk_at "hp"))
  | ((refine' Ne.symm (ne_of_none ?nh1 ?nh2)); (case nh2 => assumption); (case nh1 => walk_at "hp")))
local macro_rules | `(tactic| walk_at "hp") => `(tactic| first
  | assumption
  | exact upd_same
  | ((refine' SqL.of ?hq); (case hq => walk_at "hp"))
  | ((refine' SqT.of ?hq); (case hq => walk_at "hp"))
  | ((refine' (upd_ne ?hne).trans ?hrest); (case hne => walk_at "ne"); (case hrest => walk_at "hp"))
  | ((refine' ly_at ?hex ?hh); (case hex => assumption); (case hh => walk_at "hp"))
  | ((refine' ly_atF ?hex ?hnn ?hh); (case hex => assumption); (case hh => walk_at "hp"); (case hnn => walk_at "ne"))
  | ((refine' ex_t ?hex ?hh); (case hh => assumption); (case hex => walk_at "ex"))
  | ((refine' ex_l ?hex ?hh); (case hh => assumption); (case hex => walk_at "ex")))
local macro_rules | `(tactic| walk_at "ex") => `(tactic| first
  | assumption
  | exact Ex.refl _
  | ((refine' ex_new ?xa ?xb); (case xb => assumption); (case xa => walk_at "ex"))
  | ((refine' ex_upd ?xa ?xb); (case xb => walk_at "free"); (case xa => walk_at "ex"))
  | ((refine' Ex.trans ?xa ?xb); (case xb => assumption); (case xa => walk_at "ex")))
local macro_rules | `(tactic| walk_at "free") => `(tactic| first
  | assumption
  | ((refine' fresh_back ?xa ?xb); (case xb => assumption); (case xa => walk_at "ex")))
local macro_rules | `(tactic| walk_at "fr") => `(tactic| first
  | assumption
  | exact Fr.refl _ _
  | ((refine' Fr.own ?hq); (case hq => walk_at "fr"))
  | ((refine' Fr.new ?xa ?xb); (case xb => assumption); (case xa => walk_at "fr"))
  | ((refine' Fr.mut ?xa ?xb); (case xb => assumption); (case xa => walk_at "fr"))
  | ((refine' Fr.trans ?xa ?xb); (case xb => assumption); (case xa => walk_at "fr"))
  | ((refine' Fr.trans ?xa (Fr.ex ?xb)); (case xb => assumption); (case xa => walk_at "fr")))
local macro_rules | `(tactic| walk_at "go1") => `(tactic| first
  | (with_reducible refine' w_seq ?_)
  | (with_reducible refine' w_asg ?_)
  | (with_reducible refine' w_ret ?_)
  | (with_reducible refine' w_drop ?_)
  | (with_reducible refine' w_if ?_)
  | (with_reducible refine' w_next ?_)
  | (with_reducible refine' w_name ?_)
  | (with_reducible refine' w_sub ?_)
  | ((with_reducible refine' w_var ?hv ?_); (case hv => exact rfl))
  | (with_reducible refine' w_c ?_)
  | (with_reducible refine' w_op ?_)
  | (with_reducible refine' w_un ?_)
  | (with_reducible refine' w_ch ?_)
  | (with_reducible refine' w_I0 ?_)
  | ((with_reducible refine' w_I ?hc ?_); (case hc => first | (exact ly_mulL (by decide) (by decide)) | (exact ly_mulR (by decide) (by decide)) | (exact ly_mulL (by omega) (by omega)) | (show (_ : Int) ≠ 0; decide) | (show (_ : Int) ≠ 0; omega) | (exact ⟨by decide, by decide⟩) | (exact ⟨by omega, by omega⟩)))
  | (with_reducible refine' w_U ?_)
  | ((with_reducible refine' w_eq ?hs ?_); (case hs => exact rfl))
  | ((with_reducible refine' w_ne ?hs ?_); (case hs => exact rfl))
  | (with_reducible refine' w_isB ?_)
  | (with_reducible refine' w_notB ?_)
  | (with_reducible refine' w_nil ?_)
  | (with_reducible refine' w_cons ?_)
  | (with_reducible refine' w_tup ?_)
  | (with_reducible refine' w_lst ?_)
  | (with_reducible refine' w_cb ?_)
  | (with_reducible refine' w_call ?_)
  | (with_reducible refine' w_bm ?_)
  | (with_reducible refine' w_bm0 ?_)
  | ((with_reducible refine' w_app ?hh ?hz ?_); (case hh => walk_at "hp"); (case hz => first | exact ly_lt (by omega) | exact ly_lt (by simp only [List.length_append, List.length_map, List.length_cons, List.length_nil]; omega)))
  | ((with_reducible refine' w_popA ?hh ?_); (case hh => walk_at "hp"))
  | ((with_reducible refine' w_ext ?hh ?hh2 ?hz ?_); (case hh => walk_at "hp"); (case hh2 => walk_at "hp"))
  | ((with_reducible refine' w_ixL ?hh ?ha ?_); (case hh => walk_at "hp"); (case ha => first | exact rfl | exact at_map (by omega) | exact atI_last _ _ | ((refine' at_of ?ae ?ah); (case ah => assumption); (case ae => omega))))
  | ((with_reducible refine' w_ixT ?hh ?ha ?_); (case hh => walk_at "hp"); (case ha => first | exact rfl | exact at_map (by omega) | exact atI_last _ _ | ((refine' at_of ?ae ?ah); (case ah => assumption); (case ae => omega))))
  | ((with_reducible refine' w_cat ?hh ?hh2 ?hz ?_); (case hh => walk_at "hp"); (case hh2 => walk_at "hp"))
  | ((with_reducible refine' w_setL ?hh ?ha ?_); (case hh => walk_at "hp"); (case ha => exact rfl))
  | (with_reducible refine' w_test ?_)
  | (with_reducible refine' w_tB ?_)
  | (with_reducible refine' w_bl ?_)
  | (with_reducible refine' w_and ?_)
  | (with_reducible refine' w_or ?_)
  | (with_reducible refine' w_not ?_)
  | (with_reducible refine' w_andV ?_)
  | (with_reducible refine' w_orV ?_)
  | (with_reducible refine' w_notV ?_)
  | (with_reducible refine' w_ifE ?_)
  | (with_reducible refine' w_for ?_)
  | ((with_reducible refine' w_nin ?hh ?_); (case hh => walk_at "hp"))
  | ((with_reducible refine' w_sorted ?hh ?_); (case hh => walk_at "hp"))
  | (with_reducible refine' w_tsadd ?_)
  | ((with_reducible refine' w_tsadd1 ?hh ?_); (case hh => walk_at "hp"))
  | ((with_reducible refine' w_sadd ?hh ?hr ?_); (case hh => walk_at "hp"); (case hr => omega))
  | (with_reducible refine' w_iZ ?_)
  | ((with_reducible refine' w_iZ1 ?hh ?hh2 ?_); (case hh => walk_at "hp"); (case hh2 => walk_at "hp"))
  | (with_reducible refine' w_iS ?_)
  | (with_reducible refine' w_iS1 ?_)
  | ((with_reducible refine' w_gtup ?hh ?hn ?_); (case hh => walk_at "hp"); (case hn => exact rfl))
  | (with_reducible refine' w_gcons ?_)
  | (with_reducible refine' w_gnil ?_)
  | (with_reducible refine' w_js ?_)
  | (with_reducible refine' w_jsn ?_)
  | ((with_reducible refine' w_js1 ?hl ?_); (case hl => decide +kernel))
  | (with_reducible refine' w_fmt ?_)
  | ((with_reducible refine' w_fmt1 ?hl ?_); (case hl => decide +kernel))
  | (with_reducible refine' w_callS ?_)
  | ((with_reducible refine' w_truL ?hh ?_); (case hh => walk_at "hp"))
  | (with_reducible refine' w_lc ?_)
  | (with_reducible refine' w_yes ?_)
  | ((with_reducible refine' w_wipe ?he ?_); (case he => exact rfl))
  | (with_reducible refine' w_iL ?_)
  | (with_reducible refine' w_iT ?_)
  | (with_reducible refine' w_iR ?_)
  | ((with_reducible refine' w_iL1 ?hh ?_); (case hh => walk_at "hp"))
  | ((with_reducible refine' w_iT1 ?hh ?_); (case hh => walk_at "hp"))
  | ((with_reducible refine' w_iR1 ?h1 ?h2 ?_); (case h1 => omega); (case h2 => omega))
  | ((with_reducible refine' w_aug ?hv ?_); (case hv => exact rfl))
  | (with_reducible refine' w_ipI ?_)
  | ((with_reducible refine' w_isi ?hy ?hk ?_); (case hy => walk_at "ty"); (case hk => walk_at "kit"))
  | ((with_reducible refine' w_int ?_))
  | ((with_reducible refine' w_intB ?_))
  | ((with_reducible refine' w_abs ?_))
  | ((with_reducible refine' w_lenL ?hh ?_); (case hh => walk_at "hp"))
  | ((with_reducible refine' w_lenT ?hh ?_); (case hh => walk_at "hp"))
  | ((with_reducible refine' w_tupL ?hh ?_); (case hh => walk_at "hp"))
  | ((with_reducible refine' w_tupT ?hh ?_); (case hh => walk_at "hp"))
  | ((with_reducible refine' w_catA ?hh ?hh2 ?hz ?_); (case hh => walk_at "hp"); (case hh2 => walk_at "hp"); (case hz => walk_at "len"))
  | ((with_reducible refine' w_repB ?hh ?hne ?h2 ?h3 ?hz ?_); (case hh => walk_at "hp"); (case hne => simp); (case h2 => omega); (case h3 => omega); (case hz => exact Nat.le_of_ble_eq_true rfl))
  | ((with_reducible refine' w_eqN ?hh ?hh2 ?n1 ?n2 ?_); (case hh => walk_at "hp"); (case hh2 => walk_at "hp"); (case n1 => walk_at "nd"); (case n2 => walk_at "nd"))
  | ((with_reducible refine' w_neN ?hh ?hh2 ?n1 ?n2 ?_); (case hh => walk_at "hp"); (case hh2 => walk_at "hp"); (case n1 => walk_at "nd"); (case n2 => walk_at "nd"))
  | ((with_reducible refine' w_eqL ?hh ?hh2 ?n1 ?n2 ?_); (case hh => walk_at "hp"); (case hh2 => walk_at "hp"); (case n1 => walk_at "nd"); (case n2 => walk_at "nd"))
  | ((with_reducible refine' w_neL ?hh ?hh2 ?n1 ?n2 ?_); (case hh => walk_at "hp"); (case hh2 => walk_at "hp"); (case n1 => walk_at "nd"); (case n2 => walk_at "nd"))
  | ((with_reducible refine' w_neNon ?hh2 ?n2 ?_); (case hh2 => walk_at "hp"); (case n2 => walk_at "nd"))
  | ((with_reducible refine' w_eqNon ?hh2 ?n2 ?_); (case hh2 => walk_at "hp"); (case n2 => walk_at "nd"))
  | ((with_reducible refine' w_slA ?hh ?_); (case hh => walk_at "hp"))
  | ((with_reducible refine' w_disp ?hz ?_); (case hz => exact sz_of (Nat.le_of_ble_eq_true rfl)))
  | ((with_reducible refine' w_tyL ?hh ?_); (case hh => walk_at "hp"))
  | (with_reducible refine' iteT ?_)
  | (with_reducible refine' iteF ?_)
  | (with_reducible refine' w_nT ?_)
  | (with_reducible refine' w_nn ?_)
  | (with_reducible refine' w_nnT ?_)
  | (with_reducible refine' w_nnR ?_)
  | (with_reducible refine' w_neG ?_)
  | (with_reducible refine' w_eqG ?_)
  | (with_reducible refine' w_neS ?_)
  | (with_reducible refine' w_eqS ?_)
  | (with_reducible refine' w_neSb ?_)
  | (with_reducible refine' w_eqSb ?_)
  | (with_reducible refine' w_deIS ?_)
  | (with_reducible refine' w_deSI ?_)
  | (with_reducible refine' w_deISn ?_)
  | ((with_reducible refine' w_deST ?he ?_); (case he => decide +kernel))
  | ((with_reducible refine' w_deSF ?he ?_); (case he => decide +kernel))
  | ((with_reducible refine' w_deSTn ?he ?_); (case he => decide +kernel))
  | ((with_reducible refine' w_deSFn ?he ?_); (case he => decide +kernel))
  | (with_reducible refine' w_nF ?_)
  | dsimp only [Bool.not_true, Bool.not_false])
local macro_rules | `(tactic| walk_at "ty") => `(tactic| first
  | exact .base (.int _) | exact .base (.str _) | exact .base (.bl _) | exact .base .non
  | ((refine' tyx_t ?hq); (case hq => walk_at "hp")) | ((refine' tyx_l ?hq); (case hq => walk_at "hp")) | ((refine' .base (.tup ?hq)); (case hq => walk_at "hp")) | assumption)
local macro_rules | `(tactic| walk_at "go") => `(tactic| repeat walk_at "go1")
local macro_rules | `(tactic| walk_at "st") => `(tactic| try dsimp only [cxOf, Cx.nox, Cx.wish])
local macro_rules | `(tactic| walk_at "kit") => `(tactic| with_reducible first | exact kit_int_int | exact kit_int_str | exact kit_int_bool | exact kit_int_tuple | exact kit_int_list | exact kit_str_int | exact kit_str_str | exact kit_str_bool | exact kit_str_tuple | exact kit_str_list | exact kit_bool_int | exact kit_bool_str | exact kit_bool_bool | exact kit_bool_tuple | exact kit_bool_list | exact kit_NoneType_int | exact kit_NoneType_str | exact kit_NoneType_bool | exact kit_NoneType_tuple | exact kit_NoneType_list | exact kit_list_int | exact kit_list_str | exact kit_list_bool | exact kit_list_tuple | exact kit_list_list | exact kit_tuple_int | exact kit_tuple_str | exact kit_tuple_bool | exact kit_tuple_tuple | exact kit_tuple_list)
local macro_rules | `(tactic| walk_at "nd") => `(tactic| first
  | assumption
  | exact Tm.nds _
  | exact Nds.nil
  | exact Nds.ofInts _
  | ((refine' Nds.cons ?na ?nb); (case na => first | exact Nds.I _ | exact Nds.L | exact Nds.A); (case nb => walk_at "nd"))
  | ((refine' Nds.app ?na ?nb); (case na => walk_at "nd"); (case nb => walk_at "nd"))
  | ((refine' Nds.rep ?na _); (case na => walk_at "nd")))
local macro_rules | `(tactic| walk_at "len") => `(tactic| first
  | exact ly_sz (by omega)
  | ((simp only [List.length_append, List.length_cons, List.length_nil, List.length_map, PyProof.Rows.lm_len_rep_flat]); exact ly_sz (by omega)))
local macro_rules | `(tactic| walk_at "go1") => `(tactic| first
  | (with_reducible refine' w_kget2 ?_)
  | (with_reducible refine' w_isRN ?_)
  | (with_reducible refine' w_isNN ?_)
  | (with_reducible refine' w_isIN ?_)
  | ((with_reducible refine' w_kg ?hd ?_); (case hd => assumption)))

section
variable {P : Program} {w : World} {K : PySem.W.Frag} {mg : Str → Option Value} {base : Heap} {tk : Nat → Tok} {cl : Nat → Addr}
def spSize (C : Addr) : Sp := fun vs H Q E => ∃ n : Int, vs = [.int n] ∧ (n ≤ 1000 → Q .non H) ∧ (¬ n ≤ 1000 → E (.ref C) none H)
theorem ok_check_size {f : Addr} {fd : FuncData} {k : Nat} (F : Fun K "check_size" "check_size" s_check_size f fd) (T : Txt w K mg tk cl) : FnOk P w K mg base (L2.CX P w) (k + 1) f fd ["size"] (spSize (cl 1)) := by
  refine F.okX sc_check_size (fun vs H Q E h => ?_) (fun cdv A outer s H vs Q E hr h => ?_)
  · obtain ⟨n, rfl, _⟩ := h
    rfl
  · obtain ⟨n, rfl, q, x⟩ := h
    refine ⟨_, (pss_one (ps_if (pt_cmpR op_gt (pv 0) (pe_glob (v := .int 1000) rfl T.g_MOST_NODES ⟨_, rfl⟩) (nomark _)) (pss_one (ps_raise rfl (takes_of rfl rfl rfl rfl) (SkE.pmk_own1 PySem.F.excBase_ValueError T.x_TooLarge T.g_TooLarge T.k_TooLarge (raises_own T.b_TooLarge T.t_TooLarge) rfl (pe_joined (.cons pe_str (.cons (pe_fmt (pe_glob (v := .int 1000) rfl T.g_MOST_NODES ⟨_, rfl⟩)) (.cons pe_str .nil))))))) pss_nil)), ?_⟩
    refine sl_of (σ2 := [some _]) rfl ?_
    walk_at "st"
    walk_at "go"
    refine w_br (fun h1 => ?_) (fun h1 => ?_)
    · walk_at "go"
      exact x (by omega)
    · walk_at "go"
      exact q (by omega)
def spChecked (K : PySem.W.Frag) (C : Addr) : Sp := fun vs H Q E => ∃ a xs, vs = [.ref a] ∧ SqT K H a xs ∧ Flat xs ∧ (fitsV xs = true → Q (.ref a) H) ∧ (fitsV xs = false → E (.ref C) none H)
theorem ok_checked {f : Addr} {fd : FuncData} (F : Fun K "checked" "checked" s_checked f fd) (T : Txt w K mg tk cl)
    (D1 : Def P w K mg base (L2.CX P w) 1 "check_size" ["size"] (spSize (cl 1))) : FnOk P w K mg base (L2.CX P w) 2 f fd ["term"] (spChecked K (cl 1)) := by
  obtain ⟨f1, fd1, g_check_size, kp_check_size, b_check_size, G_check_size⟩ := D1
  refine F.okX sc_checked (fun vs H Q E h => ?_) (fun cdv A outer s H vs Q E hr h => ?_)
  · obtain ⟨a, xs, rfl, _⟩ := h
    rfl
  · obtain ⟨a, xs, rfl, hS, hf, q, x⟩ := h
    refine ⟨_, (pss_cons (ps_expr (pe_call G_check_size (hr.mono (by first | decide | omega)) (by rfl) g_check_size kp_check_size b_check_size .nil (passes_call (takes_of rfl rfl rfl rfl) (fun _ _ _ _ h => h)) (pa_cons (pe_callB call_len_seq (by rfl) T.n_len (by decide +kernel) (pa_cons (pv 0) pa_nil)) pa_nil))) (pss_cons (ps_for (passes_of rfl) rfl (pi_tup (pv 0)) (pg_name (i := 1) sc_checked.nd rfl (.inl rfl)) (pss_one (ps_if (PW.pt (pw_and (pt_val (pe_callB call_isi (by rfl) T.n_isinstance (by decide +kernel) (pa_cons (pv 1) (pa_cons (pe_bltn (v := .ty "int") (by rfl) T.n_int (by decide +kernel) rfl) pa_nil)))) (pw_and1 (pt_cmpR op_gt (pv 1) (pe_glob (v := .int 1000000) rfl T.g_MOST_VARIABLE ⟨_, rfl⟩) (nomark _))))) (pss_one (ps_raise rfl (takes_of rfl rfl rfl rfl) (SkE.pmk_own1 PySem.F.excBase_ValueError T.x_TooLarge T.g_TooLarge T.k_TooLarge (raises_own T.b_TooLarge T.t_TooLarge) rfl (pe_joined (.cons pe_str (.cons (pe_fmt (pe_glob (v := .int 1000000) rfl T.g_MOST_VARIABLE ⟨_, rfl⟩)) .nil)))))) pss_nil))) (pss_one (ps_ret (pv 0))))), ?_⟩
    refine sl_of (σ2 := [some _, none]) rfl ?_
    walk_at "st"
    walk_at "go"
    refine ⟨_, rfl, fun h1 => ?_, fun h1 => x (by simp [fitsV]; omega)⟩
    have h2 : xs.length ≤ 1000 := by omega
    walk_at "go"
    refine for_tup (K := K) (a := a) (xs := xs) (fun i σ H' => H' = H ∧ ∃ y, σ = [some (.ref a), y] ∧ (xs.take i).all okV = true) ⟨rfl, none, rfl, rfl⟩ (fun i σ H' _ e => by rw [e.1]; exact hS) ?_ ?_
    · rintro i v σ H' hi ⟨rfl, y, rfl, hall⟩
      have hv : v ∈ xs := List.mem_of_getElem? hi
      have bad : okV v = false → fitsV xs = false := fun e => by
        have : xs.all okV = false := List.all_eq_false.mpr ⟨v, hv, by simp [e]⟩
        simp [fitsV, this]
      have good : okV v = true → (xs.take (i + 1)).all okV = true := fun e => by
        rw [List.take_add_one, hi, List.all_append, hall]
        simp [e]
      rcases hf v hv with ⟨j, rfl⟩ | ⟨z, rfl⟩
      · walk_at "go"
        refine w_br (fun h3 => ?_) (fun h3 => ?_)
        · walk_at "go"
          exact x (bad (by simp [okV]; omega))
        · walk_at "go"
          exact ⟨rfl, _, rfl, good (by simp [okV]; omega)⟩
      · walk_at "go"
        exact ⟨rfl, _, rfl, good rfl⟩
    · rintro σ H' ⟨rfl, y, rfl, hall⟩
      walk_at "go"
      rw [List.take_length] at hall
      exact q (by simp [fitsV, h2]; simpa using hall)
theorem ok_depths {f : Addr} {fd : FuncData} {k : Nat} (F : Fun K "depths" "depths" s_depths f fd) (T : Txt w K mg tk cl) : FnOk P w K mg base CX0 (k + 1) f fd ["term"] (spDepths K) := by
  refine F.ok sc_depths (fun vs H Q E h => ?_) (fun cdv A outer s H vs Q E hr h => ?_)
  · obtain ⟨a, t, rfl, _⟩ := h
    rfl
  · obtain ⟨a, t, rfl, hS, hlen, q⟩ := h
    refine ⟨_, (pss_cons (ps_set (i := 1) sc_depths.nd rfl (.inl rfl) (pe_lst pa_nil)) (pss_cons (ps_set (i := 2) sc_depths.nd rfl (.inl rfl) (pe_lst (pa_cons pe_int pa_nil))) (pss_cons (ps_for PassesOwn.never rfl (pi_tup (pv 0)) (pg_name (i := 3) sc_depths.nd rfl (.inl rfl)) (pss_cons (ps_set (i := 4) sc_depths.nd rfl (.inl rfl) (pe_bm0 PySem.F.plainAttrs_list PySem.F.slot_list_pop PySem.F.type_list_pop mt_pop (pv 2))) (pss_cons (ps_expr (pe_bm PySem.F.plainAttrs_list PySem.F.slot_list_append PySem.F.type_list_append mt_append (pv 1) (pa_cons (pv 4) pa_nil))) (pss_one (ps_if (pt_cmpR op_eq (pv 3) pe_str (nomark _)) (pss_one (ps_expr (pe_bm PySem.F.plainAttrs_list PySem.F.slot_list_append PySem.F.type_list_append mt_append (pv 2) (pa_cons (pe_op op_add (pv 4) pe_int) pa_nil)))) (pss_one (ps_if (pt_cmpR op_eq (pv 3) pe_str (nomark _)) (pss_cons (ps_expr (pe_bm PySem.F.plainAttrs_list PySem.F.slot_list_append PySem.F.type_list_append mt_append (pv 2) (pa_cons (pv 4) pa_nil))) (pss_one (ps_expr (pe_bm PySem.F.plainAttrs_list PySem.F.slot_list_append PySem.F.type_list_append mt_append (pv 2) (pa_cons (pv 4) pa_nil))))) pss_nil))))))) (pss_one (ps_ret (pv 1)))))), ?_⟩
    refine sl_of (σ2 := [some _, none, none, none, none]) rfl ?_
    walk_at "st"
    walk_at "go"
    intro fl hfl
    walk_at "go"
    intro wl hwl
    have hwf : wl ≠ fl := (ne_of_none upd_same hwl).symm
    have hwl0 : H wl = none := by
      rw [upd_ne hwf] at hwl
      exact hwl
    walk_at "go"
    refine for_tup (K := K) (a := a) (xs := t.enc) (fun i σ H' => ∃ found ds y1 y2, σ = [some (.ref a), some (.ref fl), some (.ref wl), y1, y2] ∧ Ex H H' ∧ H' fl = some (.lst (nums found)) ∧ H' wl = some (.lst (nums ds)) ∧ DInv t i found ds ∧ found.length = i ∧ ds.length ≤ i + 1)
      ⟨[], [0], none, none, rfl, by walk_at "ex", by walk_at "hp", upd_same, DInv.start t, rfl, by simp⟩ (fun i σ H' _ h => by obtain ⟨_, _, _, _, _, e, _⟩ := h; exact ex_t e hS) ?_ ?_
    · rintro i v σ H1 hi ⟨found, ds, y1, y2, rfl, e1, hf1, hw1, hinv, hfl1, hds1⟩
      have hlt : i < t.enc.length := (List.getElem?_eq_some_iff.mp hi).1
      obtain ⟨r, d, rfl, hstep⟩ := hinv.step hi
      have hw1b : H1 wl = some (.lst (nums r ++ [V.int d])) := by rw [hw1]; simp [nums]
      have el : (nums found).length = found.length := List.length_map _
      have el2 : (nums r).length = r.length := List.length_map _
      have hrl : r.length ≤ i := by simpa using hds1
      have ef : nums found ++ [V.int d] = nums (found ++ [d]) := by simp [nums]
      rcases hstep with ⟨n, rfl, hn⟩ | ⟨rfl, hn⟩ | ⟨rfl, hn⟩
      · walk_at "go"
        refine ⟨found ++ [d], r, _, _, rfl, by walk_at "ex", ?_, by walk_at "hp", hn, by simp [hfl1], by omega⟩
        rw [← ef]
        walk_at "hp"
      · walk_at "go"
        refine ⟨found ++ [d], r ++ [d + 1], _, _, rfl, by walk_at "ex", ?_, ?_, hn, by simp [hfl1], by simp; omega⟩
        · rw [← ef]
          walk_at "hp"
        · rw [upd_same]
          simp [nums]
      · walk_at "go"
        refine ⟨found ++ [d], r ++ [d] ++ [d], _, _, rfl, by walk_at "ex", ?_, ?_, hn, by simp [hfl1], by simp; omega⟩
        · rw [← ef]
          walk_at "hp"
        · rw [upd_same]
          simp [nums]
    · rintro σ H1 ⟨found, ds, y1, y2, rfl, e1, hf1, hw1, hinv, hfl1, hds1⟩
      walk_at "go"
      rw [hinv.done] at hf1
      exact q H1 fl e1 hfl hf1
def freeV : V → Int → Bool
  | .int i, d => decide (d ≤ i)
  | _, _ => false
def spFree1 : Sp := fun vs H Q _ => ∃ (v : V) (d : Int), vs = [v, .int d] ∧ ((∃ i, v = .int i) ∨ ∃ z, v = .str z) ∧ Q (.bl (freeV v d)) H
theorem ok_stands_free {f : Addr} {fd : FuncData} {k : Nat} (F : Fun K "stands_free" "stands_free" s_stands_free f fd) (T : Txt w K mg tk cl) : FnOk P w K mg base CX0 (k + 1) f fd ["node", "depth"] spFree1 := by
  refine F.ok sc_stands_free (fun vs H Q E h => ?_) (fun cdv A outer s H vs Q E hr h => ?_)
  · obtain ⟨v, d, rfl, _⟩ := h
    rfl
  · obtain ⟨v, d, rfl, hv, q⟩ := h
    refine ⟨_, (pss_one (ps_ret (pe_and (pe_callB call_isi (by rfl) T.n_isinstance (by decide +kernel) (pa_cons (pv 0) (pa_cons (pe_bltn (v := .ty "int") (by rfl) T.n_int (by decide +kernel) rfl) pa_nil))) (pe_one (pe_cmpR op_ge (pv 0) (pv 1) (nomark _)))))), ?_⟩
    refine sl_of (σ2 := [some _, some _]) rfl ?_
    walk_at "st"
    rcases hv with ⟨i, rfl⟩ | ⟨z, rfl⟩
    · walk_at "go"
      exact q
    · walk_at "go"
      exact q
def spLifted (K : PySem.W.Frag) : Sp := fun vs H Q _ => ∃ (a : Addr) (t : Tm) (c : Nat), vs = [.ref a, .int (c : Int)] ∧ SqT K H a t.enc ∧ t.enc.length ≤ 2000000 ∧
  ∀ H' p, Ex H H' → H p = none → H' p = some (.lst (t.vmap (lif c) 0).enc) → Q (.ref p) H'
theorem ok_lifted {f : Addr} {fd : FuncData} (F : Fun K "lifted_nodes" "lifted_nodes" s_lifted_nodes f fd) (T : Txt w K mg tk cl)
    (D1 : Def P w K mg base CX0 1 "depths" ["term"] (spDepths K)) (D2 : Def P w K mg base CX0 1 "stands_free" ["node", "depth"] spFree1) : FnOk P w K mg base CX0 2 f fd ["term", "count"] (spLifted K) := by
  obtain ⟨f1, fd1, g_depths, kp_depths, b_depths, G_depths⟩ := D1
  obtain ⟨f2, fd2, g_stands_free, kp_stands_free, b_stands_free, G_stands_free⟩ := D2
  refine F.ok sc_lifted_nodes (fun vs H Q E h => ?_) (fun cdv A outer s H vs Q E hr h => ?_)
  · obtain ⟨a, t, c, rfl, _⟩ := h
    rfl
  · obtain ⟨a, t, c, rfl, hS, hlen, q⟩ := h
    refine ⟨_, (pss_cons (ps_set (i := 2) sc_lifted_nodes.nd rfl (.inl rfl) (pe_lst pa_nil)) (pss_cons (ps_for PassesOwn.never rfl (pi_zipM (by rfl) T.n_zip (pa_cons (pv 0) (pa_cons (pe_call G_depths (hr.mono (by first | decide | omega)) (by rfl) g_depths kp_depths b_depths .nil pass0 (pa_cons (pv 0) pa_nil)) pa_nil))) (pg_tup (by rfl) (pgs_cons (pg_name (i := 3) sc_lifted_nodes.nd rfl (.inl rfl)) (pgs_cons (pg_name (i := 4) sc_lifted_nodes.nd rfl (.inl rfl)) pgs_nil))) (pss_one (ps_if (pt_val (pe_call G_stands_free (hr.mono (by first | decide | omega)) (by rfl) g_stands_free kp_stands_free b_stands_free .nil pass0 (pa_cons (pv 3) (pa_cons (pv 4) pa_nil)))) (pss_one (ps_expr (pe_bm PySem.F.plainAttrs_list PySem.F.slot_list_append PySem.F.type_list_append mt_append (pv 2) (pa_cons (pe_op op_add (pv 3) (pv 1)) pa_nil)))) (pss_one (ps_expr (pe_bm PySem.F.plainAttrs_list PySem.F.slot_list_append PySem.F.type_list_append mt_append (pv 2) (pa_cons (pv 3) pa_nil))))))) (pss_one (ps_ret (pv 2))))), ?_⟩
    refine sl_of (σ2 := [some _, some _, none, none, none]) rfl ?_
    walk_at "st"
    walk_at "go"
    intro nl hnl
    walk_at "go"
    refine ⟨a, t, rfl, by walk_at "hp", by omega, fun H1 dl e1 hdl hdn => ?_⟩
    walk_at "go"
    have hdn0 : dl ≠ nl := (ne_of_none upd_same hdl).symm
    have hn1 : H1 nl = some (.lst []) := by walk_at "hp"
    have eH1 : Ex H H1 := by walk_at "ex"
    refine for_zipC (xs := t.enc) (ys := nums (t.deps 0)) (n := t.enc.length) (by simp [Tm.deps_len]) (fun i σ H' => ∃ y1 y2, σ = [some (.ref a), some (.int (c : Int)), some (.ref nl), y1, y2] ∧ Ex H H' ∧ H' dl = some (.lst (nums (t.deps 0))) ∧
        H' nl = some (.lst ((List.zipWith (vm (lif c)) t.enc (t.deps 0)).take i)))
      ⟨none, none, rfl, eH1, hdn, hn1⟩ (fun i σ H' ⟨y1, y2, _, e, hd, _⟩ => ⟨ex_t e hS, SqL.of hd⟩) ?_ ?_
    · rintro i x y T1 σ H2 hx hy ⟨y1, y2, rfl, e2, hd2, hs2⟩ hT1
      obtain ⟨d, hd, rfl⟩ := nums_at hy
      have hil : i < t.enc.length := (List.getElem?_eq_some_iff.mp hx).1
      have hT1s : T1 ≠ nl := (ne_of_none hs2 hT1).symm
      have hT1d : T1 ≠ dl := (ne_of_none hd2 hT1).symm
      have tk1 := zip_take (f := vm (lif c)) hx hd
      have ll : ((List.zipWith (vm (lif c)) t.enc (t.deps 0)).take i).length < 3000000 := by
        rw [List.length_take]
        omega
      have xn := Tm.int_nat (List.mem_of_getElem? hx)
      walk_at "go"
      refine ⟨x, d, rfl, (by rcases xn with ⟨m, e⟩ | e | e; exact .inl ⟨_, e⟩; exact .inr ⟨_, e⟩; exact .inr ⟨_, e⟩), ?_⟩
      cases hf : freeV x d with
      | false =>
        walk_at "go"
        refine ⟨_, _, rfl, by walk_at "ex", by walk_at "hp", ?_⟩
        have ev : vm (lif c) x d = x := by
          rcases xn with ⟨m, rfl⟩ | rfl | rfl
          · have hf : ¬ (d : Int) ≤ m := by simpa [freeV] using hf
            simp only [vm, lif, Int.toNat_natCast]
            rw [if_neg (by omega)]
          · rfl
          · rfl
        rw [upd_same, tk1, ev]
      | true =>
        obtain ⟨m, rfl⟩ : ∃ m : Nat, x = .int m := by
          rcases xn with h | rfl | rfl
          · exact h
          · cases hf
          · cases hf
        have hle : (d : Int) ≤ m := by simpa [freeV] using hf
        walk_at "go"
        refine ⟨_, _, rfl, by walk_at "ex", by walk_at "hp", ?_⟩
        have ev : vm (lif c) (.int m) d = .int ((m : Int) + c) := by
          simp only [vm, lif, Int.toNat_natCast]
          rw [if_pos (by omega), Int.natCast_add]
        rw [upd_same, tk1, ev]
    · rintro σ H2 ⟨y1, y2, rfl, e2, hd2, hs2⟩
      walk_at "go"
      have all : (List.zipWith (vm (lif c)) t.enc (t.deps 0)).take t.enc.length = (t.vmap (lif c) 0).enc := by
        rw [Tm.enc_vmap]
        exact List.take_of_length_le (by simp [Tm.deps_len])
      rw [all] at hs2
      exact q _ nl e2 hnl hs2
def spPut (K : PySem.W.Frag) (C : Addr) : Sp := fun vs H Q E => ∃ (a b : Addr) (t u : Tm), vs = [.ref a, .ref b] ∧ SqT K H a t.enc ∧ SqT K H b u.enc ∧ t.enc.length ≤ 20000 ∧ u.enc.length ≤ 20000 ∧
  (fitsV (Tm.put u 0 t).enc = true → ∀ p H', Ex H H' → SqT K H' p (Tm.put u 0 t).enc → Q (.ref p) H') ∧ (fitsV (Tm.put u 0 t).enc = false → ∀ H', Ex H H' → E (.ref C) none H')
theorem ok_put {f : Addr} {fd : FuncData} (F : Fun K "put" "put" s_put f fd) (T : Txt w K mg tk cl)
    (D1 : Def P w K mg base CX0 1 "depths" ["term"] (spDepths K)) (D2 : Def P w K mg base CX0 1 "stands_free" ["node", "depth"] spFree1)
    (D3 : Def P w K mg base CX0 2 "lifted_nodes" ["term", "count"] (spLifted K)) (D4 : Def P w K mg base (L2.CX P w) 1 "check_size" ["size"] (spSize (cl 1)))
    (D5 : Def P w K mg base (L2.CX P w) 2 "checked" ["term"] (spChecked K (cl 1))) : FnOk P w K mg base (L2.CX P w) 3 f fd ["term", "value"] (spPut K (cl 1)) := by
  obtain ⟨f1, fd1, g_depths, kp_depths, b_depths, G_depths⟩ := D1
  obtain ⟨f2, fd2, g_stands_free, kp_stands_free, b_stands_free, G_stands_free⟩ := D2
  obtain ⟨f3, fd3, g_lifted_nodes, kp_lifted_nodes, b_lifted_nodes, G_lifted_nodes⟩ := D3
  obtain ⟨f4, fd4, g_check_size, kp_check_size, b_check_size, G_check_size⟩ := D4
  obtain ⟨f5, fd5, g_checked, kp_checked, b_checked, G_checked⟩ := D5
  refine F.okX sc_put (fun vs H Q E h => ?_) (fun cdv A outer s H vs Q E hr h => ?_)
  · obtain ⟨a, b, t, u, rfl, _⟩ := h
    rfl
  · obtain ⟨a, b, t, u, rfl, hS, hU, hlen, hul, q, x⟩ := h
    refine ⟨_, (pss_cons (ps_set (i := 2) sc_put.nd rfl (.inl rfl) (pe_lst pa_nil)) (pss_cons (ps_for (passes_of rfl) rfl (pi_zipM (by rfl) T.n_zip (pa_cons (pv 0) (pa_cons (pe_call G_depths (hr.mono (by first | decide | omega)) (by rfl) g_depths kp_depths b_depths .nil pass0 (pa_cons (pv 0) pa_nil)) pa_nil))) (pg_tup (by rfl) (pgs_cons (pg_name (i := 3) sc_put.nd rfl (.inl rfl)) (pgs_cons (pg_name (i := 4) sc_put.nd rfl (.inl rfl)) pgs_nil))) (pss_one (ps_if (pt_not (pt_val (pe_call G_stands_free (hr.mono (by first | decide | omega)) (by rfl) g_stands_free kp_stands_free b_stands_free .nil pass0 (pa_cons (pv 3) (pa_cons (pv 4) pa_nil))))) (pss_one (ps_expr (pe_bm PySem.F.plainAttrs_list PySem.F.slot_list_append PySem.F.type_list_append mt_append (pv 2) (pa_cons (pv 3) pa_nil)))) (pss_one (ps_if (pt_cmpR op_gt (pv 3) (pv 4) (nomark _)) (pss_one (ps_expr (pe_bm PySem.F.plainAttrs_list PySem.F.slot_list_append PySem.F.type_list_append mt_append (pv 2) (pa_cons (pe_op op_sub (pv 3) pe_int) pa_nil)))) (pss_cons (ps_expr (pe_bm PySem.F.plainAttrs_list PySem.F.slot_list_extend PySem.F.type_list_extend mt_extend (pv 2) (pa_cons (pe_call G_lifted_nodes (hr.mono (by first | decide | omega)) (by rfl) g_lifted_nodes kp_lifted_nodes b_lifted_nodes .nil pass0 (pa_cons (pv 1) (pa_cons (pv 4) pa_nil))) pa_nil))) (pss_one (ps_expr (pe_call G_check_size (hr.mono (by first | decide | omega)) (by rfl) g_check_size kp_check_size b_check_size .nil (passes_call (takes_of rfl rfl rfl rfl) (fun _ _ _ _ h => h)) (pa_cons (pe_callB call_len_seq (by rfl) T.n_len (by decide +kernel) (pa_cons (pv 2) pa_nil)) pa_nil)))))))))) (pss_one (ps_ret (pe_call G_checked (hr.mono (by first | decide | omega)) (by rfl) g_checked kp_checked b_checked .nil (passes_call (takes_of rfl rfl rfl rfl) (fun _ _ _ _ h => h)) (pa_cons (pe_callTy call_tuple_of (by rfl) T.n_tuple (by decide +kernel) (pa_cons (pv 2) pa_nil)) pa_nil)))))), ?_⟩
    refine sl_of (σ2 := [some _, some _, none, none, none]) rfl ?_
    walk_at "st"
    walk_at "go"
    intro nl hnl
    walk_at "go"
    refine ⟨a, t, rfl, by walk_at "hp", by omega, fun H1 dl e1 hdl hdn => ?_⟩
    walk_at "go"
    have hdn0 : dl ≠ nl := (ne_of_none upd_same hdl).symm
    have hn1 : H1 nl = some (.lst []) := by walk_at "hp"
    have eH1 : Ex H H1 := by walk_at "ex"
    have full := Tm.enc_put u t 0
    refine for_zipC (xs := t.enc) (ys := nums (t.deps 0)) (n := t.enc.length) (by simp [Tm.deps_len]) (fun i σ H' => ∃ y1 y2, σ = [some (.ref a), some (.ref b), some (.ref nl), y1, y2] ∧ Ex H H' ∧ H' dl = some (.lst (nums (t.deps 0))) ∧
        H' nl = some (.lst ((List.zipWith (pvs u) t.enc (t.deps 0)).take i).flatten) ∧ ((List.zipWith (pvs u) t.enc (t.deps 0)).take i).flatten.length ≤ 1000 + i)
      ⟨none, none, rfl, eH1, hdn, hn1, by simp⟩ (fun i σ H' ⟨y1, y2, _, e, hd, _⟩ => ⟨ex_t e hS, SqL.of hd⟩) ?_ ?_
    · rintro i x1 y T1 σ H2 hx hy ⟨y1, y2, rfl, e2, hd2, hs2, hl2⟩ hT1
      obtain ⟨d, hd, rfl⟩ := nums_at hy
      have hil : i < t.enc.length := (List.getElem?_eq_some_iff.mp hx).1
      have hT1s : T1 ≠ nl := (ne_of_none hs2 hT1).symm
      have hT1d : T1 ≠ dl := (ne_of_none hd2 hT1).symm
      have tk1 := zip_take (f := pvs u) hx hd
      have tk2 : ((List.zipWith (pvs u) t.enc (t.deps 0)).take (i + 1)).flatten = ((List.zipWith (pvs u) t.enc (t.deps 0)).take i).flatten ++ pvs u x1 d := by
        rw [tk1, List.flatten_append]
        simp
      have over := flat_take_le (List.zipWith (pvs u) t.enc (t.deps 0)) (i + 1)
      rw [← full] at over
      generalize ((List.zipWith (pvs u) t.enc (t.deps 0)).take i).flatten = done at *
      rw [tk2] at over
      have hU2 : SqT K H2 b u.enc := ex_t e2 hU
      have xn := Tm.int_nat (List.mem_of_getElem? hx)
      walk_at "go"
      refine ⟨x1, d, rfl, (by rcases xn with ⟨m, e⟩ | e | e; exact .inl ⟨_, e⟩; exact .inr ⟨_, e⟩; exact .inr ⟨_, e⟩), ?_⟩
      cases hf : freeV x1 d with
      | false =>
        walk_at "go"
        have ev : pvs u x1 d = [x1] := by
          rcases xn with ⟨m, rfl⟩ | rfl | rfl
          · have hf : ¬ (d : Int) ≤ m := by simpa [freeV] using hf
            exact pvs_low (by omega)
          · rfl
          · rfl
        rw [ev] at tk2
        refine ⟨_, _, rfl, by walk_at "ex", by walk_at "hp", ?_, by rw [tk2]; simp; omega⟩
        rw [upd_same, tk2]
      | true =>
        obtain ⟨m, rfl⟩ : ∃ m : Nat, x1 = .int m := by
          rcases xn with h | rfl | rfl
          · exact h
          · cases hf
          · cases hf
        have hle : (d : Int) ≤ m := by simpa [freeV] using hf
        walk_at "go"
        refine w_br (fun h3 => ?_) (fun h3 => ?_)
        · walk_at "go"
          rw [pvs_high (by omega)] at tk2
          refine ⟨_, _, rfl, by walk_at "ex", by walk_at "hp", ?_, by rw [tk2]; simp; omega⟩
          rw [upd_same, tk2]
        · have e0 : m = d := by omega
          subst e0
          rw [pvs_at] at tk2 over
          have hT1b : SqT K (upd H2 T1 (.tup [V.int (m : Int), V.int (m : Int)])) b u.enc := ex_t (Ex.new hT1) hU2
          walk_at "go"
          refine ⟨b, u, m, rfl, hT1b, by omega, fun H3 ll e3 hll hl3 => ?_⟩
          have hlne : ll ≠ nl := by
            have g1 : upd H2 T1 (.tup [V.int (m : Int), V.int (m : Int)]) nl = some (.lst done) := (upd_ne hT1s.symm).trans hs2
            exact (ne_of_none g1 hll).symm
          have hs3 : H3 nl = some (.lst done) := e3 _ _ ((upd_ne hT1s.symm).trans hs2)
          have hd3 : H3 dl = some (.lst (nums (t.deps 0))) := e3 _ _ ((upd_ne hT1d.symm).trans hd2)
          have ee : Ex H H3 := (e2.trans (Ex.new hT1)).trans e3
          have vl := Tm.vmap_len (lif m) u 0
          walk_at "go"
          · exact ly_sz (by omega)
          walk_at "go"
          refine ⟨_, rfl, fun hle2 => ?_, fun hgt => x ?_ _ (by walk_at "ex")⟩
          · walk_at "go"
            refine ⟨_, _, rfl, by walk_at "ex", by walk_at "hp", ?_, by rw [tk2]; omega⟩
            rw [upd_same, tk2]
          · have : ¬ (Tm.put u 0 t).enc.length ≤ 1000 := by omega
            simp [fitsV, this]
    · rintro σ H2 ⟨y1, y2, rfl, e2, hd2, hs2, hl2⟩
      have all : ((List.zipWith (pvs u) t.enc (t.deps 0)).take t.enc.length).flatten = (Tm.put u 0 t).enc := by
        rw [full, List.take_of_length_le (by simp [Tm.deps_len])]
      rw [all] at hs2
      walk_at "go"
      intro p hp
      walk_at "go"
      exact ⟨p, _, rfl, by walk_at "hp", Tm.flat _, fun h => q h p _ (by walk_at "ex") (by walk_at "hp"), fun h => x h _ (by walk_at "ex")⟩
end
end Ly
set_option Elab.async false
set_option linter.all false
set_option maxRecDepth 100000
set_option maxHeartbeats 8000000
namespace Ly
open PySem PySem.Spec PyProof.Rows L2 Evl
local macro_rules | `(tactic| walk_at "ne") => `(tactic| first
  | assumption
  | ((refine' Ne.symm ?hq); (case hq => assumption))
  | ((refine' ne_of_none ?nh1 ?nh2); (case nh2 => assumption); (case nh1 => walk_at "hp"))
  | ((refine' Ne.symm (ne_of_none ?nh1 ?nh2)); (case nh2 => assumption); (case nh1 => walk_at "hp")))
local macro_rules | `(tactic| walk_at "hp") => `(tactic| first
  | assumption
  | exact upd_same
  | ((refine' SqL.of ?hq); (case hq => walk_at "hp"))
  | ((refine' SqT.of ?hq); (case hq => walk_at "hp"))
  | ((refine' (upd_ne ?hne).trans ?hrest); (case hne => walk_at "ne"); (case hrest => walk_at "hp"))
  | ((refine' ly_at ?hex ?hh); (case hex => assumption); (case hh => walk_at "hp"))
  | ((refine' ly_atF ?hex ?hnn ?hh); (case hex => assumption); (case hh => walk_at "hp"); (case hnn => walk_at "ne"))
  | ((refine' ex_t ?hex ?hh); (case hh => assumption); (case hex => walk_at "ex"))
  | ((refine' ex_l ?hex ?hh); (case hh => assumption); (case hex => walk_at "ex")))
local macro_rules | `(tactic| walk_at "ex") => `(tactic| first
  | assumption
  | exact Ex.refl _
  | ((refine' ex_new ?xa ?xb); (case xb => assumption); (case xa => walk_at "ex"))
  | ((refine' ex_upd ?xa ?xb); (case xb => walk_at "free"); (case xa => walk_at "ex"))
  | ((refine' Ex.trans ?xa ?xb); (case xb => assumption); (case xa => walk_at "ex")))
local macro_rules | `(tactic| walk_at "free") => `(tactic| first
  | assumption
  | ((refine' fresh_back ?xa ?xb); (case xb => assumption); (case xa => walk_at "ex")))
local macro_rules | `(tactic| walk_at "fr") => `(tactic| first
  | assumption
  | exact Fr.refl _ _
  | ((refine' Fr.own ?hq); (case hq => walk_at "fr"))
  | ((refine' Fr.new ?xa ?xb); (case xb => assumption); (case xa => walk_at "fr"))
  | ((refine' Fr.mut ?xa ?xb); (case xb => assumption); (case xa => walk_at "fr"))
  | ((refine' Fr.trans ?xa ?xb); (case xb => assumption); (case xa => walk_at "fr"))
  | ((refine' Fr.trans ?xa (Fr.ex ?xb)); (case xb => assumption); (case xa => walk_at "fr")))
local macro_rules | `(tactic| walk_at "go1") => `(tactic| first
  | (with_reducible refine' w_seq ?_)
  | (with_reducible refine' w_asg ?_)
  | (with_reducible refine' w_ret ?_)
  | (with_reducible refine' w_drop ?_)
  | (with_reducible refine' w_if ?_)
  | (with_reducible refine' w_next ?_)
  | (with_reducible refine' w_name ?_)
  | (with_reducible refine' w_sub ?_)
  | ((with_reducible refine' w_var ?hv ?_); (case hv => exact rfl))
  | (with_reducible refine' w_c ?_)
  | (with_reducible refine' w_op ?_)
  | (with_reducible refine' w_un ?_)
  | (with_reducible refine' w_ch ?_)
  | (with_reducible refine' w_I0 ?_)
  | ((with_reducible refine' w_I ?hc ?_); (case hc => first | (exact ly_mulL (by decide) (by decide)) | (exact ly_mulR (by decide) (by decide)) | (exact ly_mulL (by omega) (by omega)) | (show (_ : Int) ≠ 0; decide) | (show (_ : Int) ≠ 0; omega) | (exact ⟨by decide, by decide⟩) | (exact ⟨by omega, by omega⟩)))
  | (with_reducible refine' w_U ?_)
  | ((with_reducible refine' w_eq ?hs ?_); (case hs => exact rfl))
  | ((with_reducible refine' w_ne ?hs ?_); (case hs => exact rfl))
  | (with_reducible refine' w_isB ?_)
  | (with_reducible refine' w_notB ?_)
  | (with_reducible refine' w_nil ?_)
  | (with_reducible refine' w_cons ?_)
  | (with_reducible refine' w_tup ?_)
  | (with_reducible refine' w_lst ?_)
  | (with_reducible refine' w_cb ?_)
  | (with_reducible refine' w_call ?_)
  | (with_reducible refine' w_bm ?_)
  | (with_reducible refine' w_bm0 ?_)
  | ((with_reducible refine' w_app ?hh ?hz ?_); (case hh => walk_at "hp"); (case hz => first | exact ly_lt (by omega) | exact ly_lt (by simp only [List.length_append, List.length_map, List.length_cons, List.length_nil]; omega)))
  | ((with_reducible refine' w_popA ?hh ?_); (case hh => walk_at "hp"))
  | ((with_reducible refine' w_ext ?hh ?hh2 ?hz ?_); (case hh => walk_at "hp"); (case hh2 => walk_at "hp"))
  | ((with_reducible refine' w_ixL ?hh ?ha ?_); (case hh => walk_at "hp"); (case ha => first | exact rfl | exact at_map (by omega) | exact atI_last _ _ | ((refine' at_of ?ae ?ah); (case ah => assumption); (case ae => omega))))
  | ((with_reducible refine' w_ixT ?hh ?ha ?_); (case hh => walk_at "hp"); (case ha => first | exact rfl | exact at_map (by omega) | exact atI_last _ _ | ((refine' at_of ?ae ?ah); (case ah => assumption); (case ae => omega))))
  | ((with_reducible refine' w_cat ?hh ?hh2 ?hz ?_); (case hh => walk_at "hp"); (case hh2 => walk_at "hp"))
  | ((with_reducible refine' w_setL ?hh ?ha ?_); (case hh => walk_at "hp"); (case ha => exact rfl))
  | (with_reducible refine' w_test ?_)
  | (with_reducible refine' w_tB ?_)
  | (with_reducible refine' w_bl ?_)
  | (with_reducible refine' w_and ?_)
  | (with_reducible refine' w_or ?_)
  | (with_reducible refine' w_not ?_)
  | (with_reducible refine' w_andV ?_)
  | (with_reducible refine' w_orV ?_)
  | (with_reducible refine' w_notV ?_)
  | (with_reducible refine' w_ifE ?_)
  | (with_reducible refine' w_for ?_)
  | ((with_reducible refine' w_nin ?hh ?_); (case hh => walk_at "hp"))
  | ((with_reducible refine' w_sorted ?hh ?_); (case hh => walk_at "hp"))
  | (with_reducible refine' w_tsadd ?_)
  | ((with_reducible refine' w_tsadd1 ?hh ?_); (case hh => walk_at "hp"))
  | ((with_reducible refine' w_sadd ?hh ?hr ?_); (case hh => walk_at "hp"); (case hr => omega))
  | (with_reducible refine' w_iZ ?_)
  | ((with_reducible refine' w_iZ1 ?hh ?hh2 ?_); (case hh => walk_at "hp"); (case hh2 => walk_at "hp"))
  | (with_reducible refine' w_iS ?_)
  | (with_reducible refine' w_iS1 ?_)
  | ((with_reducible refine' w_gtup ?hh ?hn ?_); (case hh => walk_at "hp"); (case hn => exact rfl))
  | (with_reducible refine' w_gcons ?_)
  | (with_reducible refine' w_gnil ?_)
  | (with_reducible refine' w_js ?_)
  | (with_reducible refine' w_jsn ?_)
  | ((with_reducible refine' w_js1 ?hl ?_); (case hl => decide +kernel))
  | (with_reducible refine' w_fmt ?_)
  | ((with_reducible refine' w_fmt1 ?hl ?_); (case hl => decide +kernel))
  | (with_reducible refine' w_callS ?_)
  | ((with_reducible refine' w_truL ?hh ?_); (case hh => walk_at "hp"))
  | (with_reducible refine' w_lc ?_)
  | (with_reducible refine' w_yes ?_)
  | ((with_reducible refine' w_wipe ?he ?_); (case he => exact rfl))
  | (with_reducible refine' w_iL ?_)
  | (with_reducible refine' w_iT ?_)
  | (with_reducible refine' w_iR ?_)
  | ((with_reducible refine' w_iL1 ?hh ?_); (case hh => walk_at "hp"))
  | ((with_reducible refine' w_iT1 ?hh ?_); (case hh => walk_at "hp"))
  | ((with_reducible refine' w_iR1 ?h1 ?h2 ?_); (case h1 => omega); (case h2 => omega))
  | ((with_reducible refine' w_aug ?hv ?_); (case hv => exact rfl))
  | (with_reducible refine' w_ipI ?_)
  | ((with_reducible refine' w_isi ?hy ?hk ?_); (case hy => walk_at "ty"); (case hk => walk_at "kit"))
  | ((with_reducible refine' w_int ?_))
  | ((with_reducible refine' w_intB ?_))
  | ((with_reducible refine' w_abs ?_))
  | ((with_reducible refine' w_lenL ?hh ?_); (case hh => walk_at "hp"))
  | ((with_reducible refine' w_lenT ?hh ?_); (case hh => walk_at "hp"))
  | ((with_reducible refine' w_tupL ?hh ?_); (case hh => walk_at "hp"))
  | ((with_reducible refine' w_tupT ?hh ?_); (case hh => walk_at "hp"))
  | ((with_reducible refine' w_catA ?hh ?hh2 ?hz ?_); (case hh => walk_at "hp"); (case hh2 => walk_at "hp"); (case hz => walk_at "len"))
  | ((with_reducible refine' w_repB ?hh ?hne ?h2 ?h3 ?hz ?_); (case hh => walk_at "hp"); (case hne => simp); (case h2 => omega); (case h3 => omega); (case hz => exact Nat.le_of_ble_eq_true rfl))
  | ((with_reducible refine' w_eqN ?hh ?hh2 ?n1 ?n2 ?_); (case hh => walk_at "hp"); (case hh2 => walk_at "hp"); (case n1 => walk_at "nd"); (case n2 => walk_at "nd"))
  | ((with_reducible refine' w_neN ?hh ?hh2 ?n1 ?n2 ?_); (case hh => walk_at "hp"); (case hh2 => walk_at "hp"); (case n1 => walk_at "nd"); (case n2 => walk_at "nd"))
  | ((with_reducible refine' w_eqL ?hh ?hh2 ?n1 ?n2 ?_); (case hh => walk_at "hp"); (case hh2 => walk_at "hp"); (case n1 => walk_at "nd"); (case n2 => walk_at "nd"))
  | ((with_reducible refine' w_neL ?hh ?hh2 ?n1 ?n2 ?_); (case hh => walk_at "hp"); (case hh2 => walk_at "hp"); (case n1 => walk_at "nd"); (case n2 => walk_at "nd"))
  | ((with_reducible refine' w_neNon ?hh2 ?n2 ?_); (case hh2 => walk_at "hp"); (case n2 => walk_at "nd"))
  | ((with_reducible refine' w_eqNon ?hh2 ?n2 ?_); (case hh2 => walk_at "hp"); (case n2 => walk_at "nd"))
  | ((with_reducible refine' w_slA ?hh ?_); (case hh => walk_at "hp"))
  | ((with_reducible refine' w_disp ?hz ?_); (case hz => exact sz_of (Nat.le_of_ble_eq_true rfl)))
  | ((with_reducible refine' w_tyL ?hh ?_); (case hh => walk_at "hp"))
  | (with_reducible refine' iteT ?_)
  | (with_reducible refine' iteF ?_)
  | (with_reducible refine' w_nT ?_)
  | (with_reducible refine' w_nn ?_)
  | (with_reducible refine' w_nnT ?_)
  | (with_reducible refine' w_nnR ?_)
  | (with_reducible refine' w_neG ?_)
  | (with_reducible refine' w_eqG ?_)
  | (with_reducible refine' w_neS ?_)
  | (with_reducible refine' w_eqS ?_)
  | (with_reducible refine' w_neSb ?_)
  | (with_reducible refine' w_eqSb ?_)
  | (with_reducible refine' w_deIS ?_)
  | (with_reducible refine' w_deSI ?_)
  | (with_reducible refine' w_deISn ?_)
  | ((with_reducible refine' w_deST ?he ?_); (case he => decide +kernel))
  | ((with_reducible refine' w_deSF ?he ?_); (case he => decide +kernel))
  | ((with_reducible refine' w_deSTn ?he ?_); (case he => decide +kernel))
  | ((with_reducible refine' w_deSFn ?he ?_); (case he => decide +kernel))
  | (with_reducible refine' w_nF ?_)
  | dsimp only [Bool.not_true, Bool.not_false])
local macro_rules | `(tactic| walk_at "ty") => `(tactic| first
  | exact .base (.int _) | exact .base (.str _) | exact .base (.bl _) | exact .base .non
  | ((refine' tyx_t ?hq); (case hq => walk_at "hp")) | ((refine' tyx_l ?hq); (case hq => walk_at "hp")) | ((refine' .base (.tup ?hq)); (case hq => walk_at "hp")) | assumption)
local macro_rules | `(tactic| walk_at "go") => `(tactic| repeat walk_at "go1")
local macro_rules | `(tactic| walk_at "st") => `(tactic| try dsimp only [cxOf, Cx.nox, Cx.wish])
local macro_rules | `(tactic| walk_at "kit") => `(tactic| with_reducible first | exact kit_int_int | exact kit_int_str | exact kit_int_bool | exact kit_int_tuple | exact kit_int_list | exact kit_str_int | exact kit_str_str | exact kit_str_bool | exact kit_str_tuple | exact kit_str_list | exact kit_bool_int | exact kit_bool_str | exact kit_bool_bool | exact kit_bool_tuple | exact kit_bool_list | exact kit_NoneType_int | exact kit_NoneType_str | exact kit_NoneType_bool | exact kit_NoneType_tuple | exact kit_NoneType_list | exact kit_list_int | exact kit_list_str | exact kit_list_bool | exact kit_list_tuple | exact kit_list_list | exact kit_tuple_int | exact kit_tuple_str | exact kit_tuple_bool | exact kit_tuple_tuple | exact kit_tuple_list)
local macro_rules | `(tactic| walk_at "nd") => `(tactic| first
  | assumption
  | exact Tm.nds _
  | exact Nds.nil
  | exact Nds.ofInts _
  | ((refine' Nds.cons ?na ?nb); (case na => first | exact Nds.I _ | exact Nds.L | exact Nds.A); (case nb => walk_at "nd"))
  | ((refine' Nds.app ?na ?nb); (case na => walk_at "nd"); (case nb => walk_at "nd"))
  | ((refine' Nds.rep ?na _); (case na => walk_at "nd")))
local macro_rules | `(tactic| walk_at "len") => `(tactic| first
  | exact ly_sz (by omega)
  | ((simp only [List.length_append, List.length_cons, List.length_nil, List.length_map, PyProof.Rows.lm_len_rep_flat]); exact ly_sz (by omega)))
local macro_rules | `(tactic| walk_at "go1") => `(tactic| first
  | (with_reducible refine' w_kget2 ?_)
  | (with_reducible refine' w_isRN ?_)
  | (with_reducible refine' w_isNN ?_)
  | (with_reducible refine' w_isIN ?_)
  | ((with_reducible refine' w_kg ?hd ?_); (case hd => assumption)))
local macro_rules | `(tactic| walk_at "go1") => `(tactic| first
  | ((with_reducible refine' w_extT ?hh ?hh2 ?hz ?_); (case hh => walk_at "hp"); (case hh2 => walk_at "hp"))
  | ((with_reducible refine' w_I ?hc ?_); (case hc => exact ⟨by decide, by decide, by decide⟩))
  | (with_reducible refine' w_sl ?_)
  | (with_reducible refine' w_noP ?_)
  | (with_reducible refine' w_part ?_)
  | (with_reducible refine' w_part1 ?_)
  | (with_reducible refine' w_it ?_)
  | (with_reducible refine' w_it1 ?_)
  | ((with_reducible refine' w_lenZ ?hz ?_); (case hz => omega))
  | ((with_reducible refine' w_addZb ?hz ?_); (case hz => omega))
  | ((with_reducible refine' w_addZf ?hz ?_); (case hz => omega))
  | ((with_reducible refine' w_addZa ?hz ?_); (case hz => omega))
  | ((with_reducible refine' w_inS ?hh ?_); (case hh => walk_at "hp"))
  | ((with_reducible refine' w_ixT ?hh ?ha ?_); (case hh => assumption); (case ha => exact atI_nat (by assumption))))
section
variable {P : Program} {w : World} {K : PySem.W.Frag} {mg : Str → Option Value} {base : Heap} {tk : Nat → Tok} {cl : Nat → Addr}
def spCountN : Sp := fun vs H Q _ => ∃ v, vs = [v] ∧ (((∃ n : Nat, v = .int n) ∧ Q (.int 0) H) ∨ (v = .str "lam" ∧ Q (.int 1) H) ∨ (v = .str "app" ∧ Q (.int 2) H))
theorem ok_part_count {f : Addr} {fd : FuncData} {k : Nat} (F : Fun K "part_count" "part_count" s_part_count f fd) (T : Txt w K mg tk cl) : FnOk P w K mg base CX0 (k + 1) f fd ["node"] spCountN := by
  refine F.ok sc_part_count (fun vs H Q E h => ?_) (fun cdv A outer s H vs Q E hr h => ?_)
  · obtain ⟨v, rfl, _⟩ := h
    rfl
  · obtain ⟨v, rfl, h⟩ := h
    refine ⟨_, (pss_one (ps_ret (pe_kget2 (pe_glob (v := .ref (cl 40)) (by rfl) T.g_PART_COUNTS (by rfl)) (pv 0) pe_int ⟨by rfl, by rfl, by rfl, by rfl⟩))), ?_⟩
    refine sl_of (σ2 := [some _]) rfl ?_
    walk_at "st"
    have hd := T.d_PART_COUNTS
    rcases h with ⟨⟨n, rfl⟩, q⟩ | ⟨rfl, q⟩ | ⟨rfl, q⟩
    · walk_at "go"
      exact ⟨kV_int _, q⟩
    · walk_at "go"
      exact ⟨kV_str _, q_eq q (by decide +kernel)⟩
    · walk_at "go"
      exact ⟨kV_str _, q_eq q (by decide +kernel)⟩
theorem ok_end_of {f : Addr} {fd : FuncData} (F : Fun K "end_of" "end_of" s_end_of f fd) (T : Txt w K mg tk cl)
    (D1 : Def P w K mg base CX0 1 "part_count" ["node"] spCountN) : FnOk P w K mg base CX0 2 f fd ["term", "start"] (spEnd K) := by
  obtain ⟨f1, fd1, g_part_count, kp_part_count, b_part_count, G_part_count⟩ := D1
  refine F.ok sc_end_of (fun vs H Q E h => ?_) (fun cdv A outer s H vs Q E hr h => ?_)
  · obtain ⟨a, xs, s, u, post, rfl, _⟩ := h
    rfl
  · obtain ⟨a, xs, s, u, post, rfl, hS, hu, hlen, q⟩ := h
    refine ⟨_, (pss_cons (ps_set (i := 2) sc_end_of.nd rfl (.inl rfl) pe_int) (pss_cons (ps_set (i := 3) sc_end_of.nd rfl (.inl rfl) (pv 1)) (pss_cons (ps_while PassesOwn.never (pt_cmpR op_gt (pv 2) pe_int (nomark _)) (pss_cons (ps_aug (i := 2) sc_end_of.nd rfl (.inl rfl) (pe_op op_sub (pe_call G_part_count (hr.mono (by first | decide | omega)) (by rfl) g_part_count kp_part_count b_part_count .nil pass0 (pa_cons (pe_ix ix_tup (pv 0) (pv 3) (fun _ _ => rfl)) pa_nil)) pe_int) ip_add) (pss_one (ps_aug (i := 3) sc_end_of.nd rfl (.inl rfl) pe_int ip_add)))) (pss_one (ps_ret (pv 3)))))), ?_⟩
    refine sl_of (σ2 := [some _, some _, none, none]) rfl ?_
    walk_at "st"
    walk_at "go"
    refine w_while (fun m σ H' => H' = H ∧ ∃ (e : Nat) (ts : List Tm), σ = [some (.ref a), some (.int (s : Int)), some (.int (ts.length : Int)), some (.int (e : Int))] ∧ EInv xs (s + u.enc.length) e ts ∧ m = s + u.enc.length - e) _ ⟨rfl, s, [u], rfl, EInv.start hu, rfl⟩ ?_
    rintro m σ H ⟨rfl, e, ts, rfl, inv, rfl⟩
    walk_at "go"
    cases ts with
    | nil =>
      obtain ⟨post2, h1, h2⟩ := inv
      have h2 : e = s + u.enc.length := by simpa [encs] using h2
      walk_at "go"
      refine w_br (fun h => by simp at h) (fun _ => ?_)
      walk_at "go"
      rw [h2]
      exact q
    | cons t ts =>
      obtain ⟨lt, v, ts', hv, inv', hcase⟩ := inv.step
      refine w_br (fun h => ?_) (fun h => absurd h (by simp))
      refine ⟨fun σ' H' => H' = H ∧ ∃ (e' : Nat) (ts2 : List Tm), σ' = [some (.ref a), some (.int (s : Int)), some (.int (ts2.length : Int)), some (.int (e' : Int))] ∧ EInv xs (s + u.enc.length) e' ts2 ∧ e' = e + 1, fun σ' H' ⟨h1, e', ts2, h2, h3, h4⟩ => ⟨_, ?_, h1, e', ts2, h2, h3, rfl⟩, ?_⟩
      · omega
      · walk_at "go"
        refine ⟨v, rfl, ?_⟩
        have stp : ∀ {j : Int}, (t :: ts).length + (j - 1) = (ts'.length : Int) → H = H ∧ ∃ (e' : Nat) (ts2 : List Tm), [some (V.ref a), some (.int (s : Int)), some (.int (((t :: ts).length : Int) + (j - 1))), some (.int ((e : Int) + 1))] = [some (.ref a), some (.int (s : Int)), some (.int (ts2.length : Int)), some (.int (e' : Int))] ∧ EInv xs (s + u.enc.length) e' ts2 ∧ e' = e + 1 := fun hj =>
          ⟨rfl, e + 1, ts', by rw [hj]; rfl, inv', rfl⟩
        rcases hcase with ⟨n, rfl, hl⟩ | ⟨rfl, hl⟩ | ⟨rfl, hl⟩
        · refine .inl ⟨⟨n, rfl⟩, ?_⟩
          walk_at "go"
          exact stp (by simp; omega)
        · refine .inr (.inl ⟨rfl, ?_⟩)
          walk_at "go"
          exact stp (by simp; omega)
        · refine .inr (.inr ⟨rfl, ?_⟩)
          walk_at "go"
          exact stp (by simp; omega)
def spLetters : Sp := fun vs H Q _ => ∃ v, vs = [v] ∧ (((∃ n : Nat, v = .int n) ∧ Q (.str (pl [])) H) ∨ (v = .str "lam" ∧ Q (.str (pl [98])) H) ∨ (v = .str "app" ∧ Q (.str (pl [102, 97])) H))
theorem pl_fa : ("fa" : Str) = pl [102, 97] := by decide +kernel
theorem ok_letters {f : Addr} {fd : FuncData} {k : Nat} (F : Fun K "letters_of" "letters_of" s_letters_of f fd) (T : Txt w K mg tk cl) : FnOk P w K mg base CX0 (k + 1) f fd ["node"] spLetters := by
  refine F.ok sc_letters_of (fun vs H Q E h => ?_) (fun cdv A outer s H vs Q E hr h => ?_)
  · obtain ⟨v, rfl, _⟩ := h
    rfl
  · obtain ⟨v, rfl, h⟩ := h
    refine ⟨_, (pss_cons (ps_if (pt_cmpR op_eq (pv 0) pe_str (nomark _)) (pss_one (ps_ret pe_str)) pss_nil) (pss_cons (ps_if (pt_cmpR op_eq (pv 0) pe_str (nomark _)) (pss_one (ps_ret pe_str)) pss_nil) (pss_one (ps_ret pe_str)))), ?_⟩
    refine sl_of (σ2 := [some _]) rfl ?_
    walk_at "st"
    rcases h with ⟨⟨n, rfl⟩, q⟩ | ⟨rfl, q⟩ | ⟨rfl, q⟩
    · walk_at "go"
      rw [pl_e]
      exact q
    · walk_at "go"
      rw [pl_b]
      exact q
    · walk_at "go"
      rw [pl_fa]
      exact q
theorem for_revP {ls : List Nat} {g : TG} {tb : TS} {D : Ends} {σ : L2.St} {H : Hp} (Pv : Nat → L2.St → Hp → Prop) (h0 : Pv 0 σ H)
    (hs : ∀ i c σ H, ls.reverse[i]? = some c → Pv i σ H → g (.str (pl [c])) σ H fun σ2 H2 => tb { D with nx := Pv (i + 1), ct := Pv (i + 1), bk := D.nx } σ2 H2) (hd : ∀ σ H, Pv ls.length σ H → D.nx σ H) : ForB (ItvS (pl ls)) g tb D σ H := by
  have sz : (pl ls).cps.size = ls.length := by simp [pl]
  refine for_revS Pv h0 (fun i c σ H hc lt p => hs i c σ H ?_ p) (fun σ H p => hd σ H (by rw [sz] at p; exact p))
  rw [sz] at hc lt
  rw [List.getElem?_reverse lt]
  simpa [pl] using hc
theorem w_rv {te : TE} {σ : L2.St} {H : Hp} {R : It → Hp → Prop} (h : te σ H fun v H1 => ∃ z, v = .str z ∧ z.length ≤ sizeLine ∧ R (ItvS z) H1) : iRevS te σ H R := h
theorem w_rv1 {p : List Nat} {B : Str → Prop} (z : p.length ≤ 1000) (q : B (pl p)) : ∃ x, V.str (pl p) = .str x ∧ x.length ≤ sizeLine ∧ B x := ⟨pl p, rfl, by rw [pl_len]; exact ly_sz (by omega), q⟩
local macro_rules | `(tactic| walk_at "go1") => `(tactic| first
  | (with_reducible refine' w_rv ?_)
  | ((with_reducible refine' w_addZ ?hz ?_); (case hz => simp; omega)))
theorem ok_places {f : Addr} {fd : FuncData} (F : Fun K "places" "places" s_places f fd) (T : Txt w K mg tk cl)
    (D1 : Def P w K mg base CX0 1 "letters_of" ["node"] spLetters) : FnOk P w K mg base CX0 2 f fd ["term"] (spLPlaces K) := by
  obtain ⟨f1, fd1, g_letters_of, kp_letters_of, b_letters_of, G_letters_of⟩ := D1
  refine F.ok sc_places (fun vs H Q E h => ?_) (fun cdv A outer s H vs Q E hr h => ?_)
  · obtain ⟨a, t, rfl, _⟩ := h
    rfl
  · obtain ⟨a, t, rfl, hS, hlen, q⟩ := h
    refine ⟨_, (pss_cons (ps_set (i := 1) sc_places.nd rfl (.inl rfl) (pe_lst pa_nil)) (pss_cons (ps_set (i := 2) sc_places.nd rfl (.inl rfl) (pe_lst (pa_cons pe_str pa_nil))) (pss_cons (ps_for PassesOwn.never rfl (pi_tup (pv 0)) (pg_name (i := 3) sc_places.nd rfl (.inl rfl)) (pss_cons (ps_set (i := 4) sc_places.nd rfl (.inl rfl) (pe_bm0 PySem.F.plainAttrs_list PySem.F.slot_list_pop PySem.F.type_list_pop mt_pop (pv 2))) (pss_cons (ps_expr (pe_bm PySem.F.plainAttrs_list PySem.F.slot_list_append PySem.F.type_list_append mt_append (pv 1) (pa_cons (pv 4) pa_nil))) (pss_one (ps_for PassesOwn.never rfl (pi_revS (by rfl) T.n_reversed (pe_call G_letters_of (hr.mono (by first | decide | omega)) (by rfl) g_letters_of kp_letters_of b_letters_of .nil pass0 (pa_cons (pv 3) pa_nil))) (pg_name (i := 5) sc_places.nd rfl (.inl rfl)) (pss_one (ps_expr (pe_bm PySem.F.plainAttrs_list PySem.F.slot_list_append PySem.F.type_list_append mt_append (pv 2) (pa_cons (pe_op op_addZ (pv 4) (pv 5)) pa_nil))))))))) (pss_one (ps_ret (pv 1)))))), ?_⟩
    refine sl_of (σ2 := [some _, none, none, none, none, none]) rfl ?_
    walk_at "st"
    walk_at "go"
    intro fl hfl
    walk_at "go"
    intro wl hwl
    have hwf : wl ≠ fl := (ne_of_none upd_same hwl).symm
    have hwl0 : H wl = none := by
      rw [upd_ne hwf] at hwl
      exact hwl
    rw [pl_e]
    walk_at "go"
    refine for_tup (K := K) (a := a) (xs := t.enc) (fun i σ H' => ∃ found ds y1 y2 y3, σ = [some (.ref a), some (.ref fl), some (.ref wl), y1, y2, y3] ∧ Ex H H' ∧ H' fl = some (.lst (plcs found)) ∧ H' wl = some (.lst (plcs ds)) ∧ PInv t i found ds ∧ found.length = i ∧ ds.length ≤ i + 1 ∧ ∀ d ∈ ds, d.length ≤ i)
      ⟨[], [[]], none, none, none, rfl, by walk_at "ex", by walk_at "hp", upd_same, PInv.start t, rfl, by simp, by simp⟩ (fun i σ H' _ h => by obtain ⟨_, _, _, _, _, _, e, _⟩ := h; exact ex_t e hS) ?_ ?_
    · rintro i v σ H1 hi ⟨found, ds, y1, y2, y3, rfl, e1, hf1, hw1, hinv, hfl1, hds1, hdl1⟩
      have hlt : i < t.enc.length := (List.getElem?_eq_some_iff.mp hi).1
      obtain ⟨r, d, rfl, hstep⟩ := hinv.step hi
      have hw1b : H1 wl = some (.lst (plcs r ++ [V.str (pl d)])) := by rw [hw1]; simp [plcs]
      have el : (plcs found).length = found.length := List.length_map _
      have el2 : (plcs r).length = r.length := List.length_map _
      have hrl : r.length ≤ i := by simpa using hds1
      have hdl : d.length ≤ i := hdl1 d (by simp)
      have hrd : ∀ x ∈ r, x.length ≤ i + 1 := fun x hx => Nat.le_succ_of_le (hdl1 x (by simp [hx]))
      have ef : plcs found ++ [V.str (pl d)] = plcs (found ++ [d]) := by simp [plcs]
      walk_at "go"
      rw [ef]
      have inner : ∀ (ls : List Nat) (H2 : Hp) (σ : L2.St), ls.length ≤ 2 → Ex H H2 → H2 fl = some (.lst (plcs (found ++ [d]))) → H2 wl = some (.lst (plcs r)) → PInv t (i + 1) (found ++ [d]) (r ++ ls.reverse.map fun c => d ++ [c]) → True := fun _ _ _ _ _ _ _ _ => trivial
      refine ⟨v, rfl, ?_⟩
      rcases hstep with ⟨n, rfl, hn⟩ | ⟨rfl, hn⟩ | ⟨rfl, hn⟩
      · refine .inl ⟨⟨n, rfl⟩, w_rv1 (by simp) ?_⟩
        refine for_revP (ls := []) (fun j σ H' => ∃ y3, σ = [some (.ref a), some (.ref fl), some (.ref wl), some (.int (n : Int)), some (.str (pl d)), y3] ∧ Ex H H' ∧ H' fl = some (.lst (plcs (found ++ [d]))) ∧ H' wl = some (.lst (plcs (r ++ (([] : List Nat).reverse.take j).map fun c => d ++ [c]))))
          ⟨_, rfl, by walk_at "ex", by walk_at "hp", by simp; walk_at "hp"⟩ (fun j c σ H' hc => by simp at hc) ?_
        rintro σ H' ⟨y3, rfl, e2, hf2, hw2⟩
        refine ⟨found ++ [d], r, _, _, _, rfl, e2, hf2, ?_, hn, by simp [hfl1], by omega, hrd⟩
        rw [hw2]
        simp
      · refine .inr (.inl ⟨rfl, w_rv1 (by simp) ?_⟩)
        refine for_revP (ls := [98]) (fun j σ H' => ∃ y3, σ = [some (.ref a), some (.ref fl), some (.ref wl), some (.str "lam"), some (.str (pl d)), y3] ∧ Ex H H' ∧ H' fl = some (.lst (plcs (found ++ [d]))) ∧ H' wl = some (.lst (plcs (r ++ (([98] : List Nat).reverse.take j).map fun c => d ++ [c]))))
          ⟨_, rfl, by walk_at "ex", by walk_at "hp", by simp; walk_at "hp"⟩ ?_ ?_
        · rintro j c σ H' hc ⟨y3, rfl, e2, hf2, hw2⟩
          have tk : (([98] : List Nat).reverse.take (j + 1)).map (fun c => d ++ [c]) = (([98] : List Nat).reverse.take j).map (fun c => d ++ [c]) ++ [d ++ [c]] := by
            rw [List.take_add_one, hc]
            simp
          have ll : (plcs (r ++ (([98] : List Nat).reverse.take j).map fun c => d ++ [c])).length ≤ 2500000 := by
            simp
            omega
          generalize (([98] : List Nat).reverse.take j).map (fun c => d ++ [c]) = part at *
          walk_at "go"
          refine ⟨_, rfl, by walk_at "ex", by walk_at "hp", ?_⟩
          rw [upd_same, tk]
          simp [plcs]
        · rintro σ H' ⟨y3, rfl, e2, hf2, hw2⟩
          refine ⟨found ++ [d], r ++ [d ++ [98]], _, _, _, rfl, e2, hf2, ?_, hn, by simp [hfl1], by simp; omega, fun x hx => ?_⟩
          · rw [hw2]
            simp
          · rcases List.mem_append.mp hx with h | h
            · exact hrd x h
            · rw [List.mem_singleton.mp h]
              simp
              omega
      · refine .inr (.inr ⟨rfl, w_rv1 (by simp) ?_⟩)
        refine for_revP (ls := [102, 97]) (fun j σ H' => ∃ y3, σ = [some (.ref a), some (.ref fl), some (.ref wl), some (.str "app"), some (.str (pl d)), y3] ∧ Ex H H' ∧ H' fl = some (.lst (plcs (found ++ [d]))) ∧ H' wl = some (.lst (plcs (r ++ (([102, 97] : List Nat).reverse.take j).map fun c => d ++ [c]))))
          ⟨_, rfl, by walk_at "ex", by walk_at "hp", by simp; walk_at "hp"⟩ ?_ ?_
        · rintro j c σ H' hc ⟨y3, rfl, e2, hf2, hw2⟩
          have tk : (([102, 97] : List Nat).reverse.take (j + 1)).map (fun c => d ++ [c]) = (([102, 97] : List Nat).reverse.take j).map (fun c => d ++ [c]) ++ [d ++ [c]] := by
            rw [List.take_add_one, hc]
            simp
          have ll : (plcs (r ++ (([102, 97] : List Nat).reverse.take j).map fun c => d ++ [c])).length ≤ 2500000 := by
            simp
            omega
          generalize (([102, 97] : List Nat).reverse.take j).map (fun c => d ++ [c]) = part at *
          walk_at "go"
          refine ⟨_, rfl, by walk_at "ex", by walk_at "hp", ?_⟩
          rw [upd_same, tk]
          simp [plcs]
        · rintro σ H' ⟨y3, rfl, e2, hf2, hw2⟩
          refine ⟨found ++ [d], r ++ [d ++ [97]] ++ [d ++ [102]], _, _, _, rfl, e2, hf2, ?_, hn, by simp [hfl1], by simp; omega, fun x hx => ?_⟩
          · rw [hw2]
            simp
          · simp only [List.mem_append, List.mem_singleton] at hx
            rcases hx with (h | h) | h
            · exact hrd x h
            · rw [h]
              simp
              omega
            · rw [h]
              simp
              omega
    · rintro σ H1 ⟨found, ds, y1, y2, y3, rfl, e1, hf1, hw1, hinv, hfl1, hds1, hdl1⟩
      walk_at "go"
      rw [hinv.done] at hf1
      exact q H1 fl e1 hfl hf1
def spStart (K : PySem.W.Frag) (C : Addr) : Sp := fun vs H Q E => ∃ (a : Addr) (t : Tm) (p : List Nat), vs = [.ref a, .str (pl p)] ∧ SqT K H a t.enc ∧ t.enc.length ≤ 2000000 ∧ p.length ≤ 2000000 ∧
  (∀ i u, t.sub p = some (i, u) → Q (.int (i : Int)) H) ∧ (t.sub p = none → E (.ref C) none H)
/-- in the midst of the walk: the part that is reached -/
def WInv (t : Tm) (p : List Nat) (i s : Nat) (u : Tm) : Prop := (∃ post, t.enc.drop s = u.enc ++ post) ∧ t.sub p = (u.sub (p.drop i)).map (fun r => (r.1 + s, r.2))
theorem WInv.start (t : Tm) (p : List Nat) : WInv t p 0 0 t := ⟨⟨[], by simp⟩, by
  have : (fun r : Nat × Tm => (r.1 + 0, r.2)) = id := by funext r; rfl
  rw [this]
  simp⟩
theorem WInv.step {t : Tm} {p : List Nat} {i s c : Nat} {u : Tm} (h : WInv t p i s u) (hc : p[i]? = some c) : ∃ v, t.enc[s]? = some v ∧
    (((∃ n : Nat, v = .int n) ∧ t.sub p = none) ∨
     (v = .str "lam" ∧ ((c = 98 ∧ ∃ b : Tm, WInv t p (i + 1) (s + 1) b) ∨ (c ≠ 98 ∧ t.sub p = none))) ∨
     (v = .str "app" ∧ ((c = 102 ∧ ∃ g : Tm, WInv t p (i + 1) (s + 1) g) ∨ (c = 97 ∧ ∃ (g a : Tm) (post : List V), t.enc.drop (s + 1) = g.enc ++ post ∧ WInv t p (i + 1) (s + 1 + g.enc.length) a) ∨ (c ≠ 102 ∧ c ≠ 97 ∧ t.sub p = none)))) := by
  obtain ⟨⟨post, h1⟩, h2⟩ := h
  rw [drop_at hc] at h2
  cases u with
  | var n =>
    have g := drop_get (i := s) (v := .int n) (r := post) (by rw [h1]; rfl)
    exact ⟨_, g.1, .inl ⟨⟨n, rfl⟩, by rw [h2]; rfl⟩⟩
  | lam b =>
    have g := drop_get (i := s) (v := .str "lam") (r := b.enc ++ post) (by rw [h1]; simp [Tm.enc])
    refine ⟨_, g.1, .inr (.inl ⟨rfl, ?_⟩)⟩
    by_cases e : c = 98
    · refine .inl ⟨e, b, ⟨post, g.2⟩, ?_⟩
      rw [h2]
      simp only [Tm.sub, if_pos e, Option.map_map]
      congr 1
      funext r
      simp
      omega
    · exact .inr ⟨e, by rw [h2]; simp [Tm.sub, e]⟩
  | app f a =>
    have g := drop_get (i := s) (v := .str "app") (r := f.enc ++ (a.enc ++ post)) (by rw [h1]; simp [Tm.enc])
    refine ⟨_, g.1, .inr (.inr ⟨rfl, ?_⟩)⟩
    by_cases e : c = 102
    · refine .inl ⟨e, f, ⟨_, g.2⟩, ?_⟩
      rw [h2]
      simp only [Tm.sub, if_pos e, Option.map_map]
      congr 1
      funext r
      simp
      omega
    · by_cases e2 : c = 97
      · refine .inr (.inl ⟨e2, f, a, _, g.2, ⟨post, ?_⟩, ?_⟩)
        · rw [← List.drop_drop, g.2]
          simp
        · rw [h2]
          simp only [Tm.sub, if_neg e, if_pos e2, Option.map_map]
          congr 1
          funext r
          simp
          omega
      · exact .inr (.inr ⟨e, e2, by rw [h2]; simp [Tm.sub, e, e2]⟩)
theorem ok_start {f : Addr} {fd : FuncData} (F : Fun K "start_of" "start_of" s_start_of f fd) (T : Txt w K mg tk cl)
    (D1 : Def P w K mg base CX0 2 "end_of" ["term", "start"] (spEnd K)) (D2 : Def P w K mg base CX0 1 "letters_of" ["node"] spLetters) : FnOk P w K mg base (L2N.CX P w) 3 f fd ["term", "place"] (spStart K (cl 3)) := by
  obtain ⟨f1, fd1, g_end_of, kp_end_of, b_end_of, G_end_of⟩ := D1
  obtain ⟨f2, fd2, g_letters_of, kp_letters_of, b_letters_of, G_letters_of⟩ := D2
  refine okXN F sc_start_of (fun vs H Q E h => ?_) (fun cdv A outer s H vs Q E hr h => ?_)
  · obtain ⟨a, t, p, rfl, _⟩ := h
    rfl
  · obtain ⟨a, t, p, rfl, hS, hlen, hpl, q, x⟩ := h
    refine ⟨_, (pss_cons (ps_set (i := 2) sc_start_of.nd rfl (.inl rfl) pe_int) (pss_cons (ps_for (passes_of rfl) rfl (pi_str (pv 1)) (pg_name (i := 3) sc_start_of.nd rfl (.inl rfl)) (pss_cons (ps_if (pt_cmpR op_notIn_sign (pv 3) (pe_call G_letters_of (hr.mono (by first | decide | omega)) (by rfl) g_letters_of kp_letters_of b_letters_of .nil pass0 (pa_cons (pe_ix ix_tup (pv 0) (pv 2) (fun _ _ => rfl)) pa_nil)) rfl) (pss_one (L2N.ps_raise rfl (L2N.takes_of rfl rfl rfl rfl) (pmk_own1N PySem.F.excBase_ValueError T.x_NoPlace T.g_NoPlace T.k_NoPlace (raises_own T.b_NoPlace T.t_NoPlace) rfl pe_str))) pss_nil) (pss_cons (ps_aug (i := 2) sc_start_of.nd rfl (.inl rfl) pe_int ip_add) (pss_one (ps_if (pt_cmpR op_eq (pv 3) pe_str (nomark _)) (pss_one (ps_set (i := 2) sc_start_of.nd rfl (.inl rfl) (pe_call G_end_of (hr.mono (by first | decide | omega)) (by rfl) g_end_of kp_end_of b_end_of .nil pass0 (pa_cons (pv 0) (pa_cons (pv 2) pa_nil))))) pss_nil))))) (pss_one (ps_ret (pv 2))))), ?_⟩
    refine sl_of (σ2 := [some _, some _, none, none]) rfl ?_
    walk_at "st"
    walk_at "go"
    refine for_str (z := pl p) (fun i σ H' => H' = H ∧ ∃ (s : Nat) (u : Tm) (y : Option V), σ = [some (.ref a), some (.str (pl p)), some (.int (s : Int)), y] ∧ WInv t p i s u) ⟨rfl, 0, t, none, rfl, WInv.start t p⟩ ?_ ?_
    · rintro i c σ H hc ⟨rfl, s, u, y, rfl, inv⟩
      have hc2 : p[i]? = some c := by simpa [pl] using hc
      obtain ⟨v, hv, hcase⟩ := inv.step hc2
      walk_at "go"
      refine ⟨v, rfl, ?_⟩
      rcases hcase with ⟨⟨n, rfl⟩, hsub⟩ | ⟨rfl, ⟨rfl, b, inv2⟩ | ⟨hc3, hsub⟩⟩ | ⟨rfl, ⟨rfl, g, inv2⟩ | ⟨rfl, g, a2, post, hdr, inv2⟩ | ⟨hc3, hc4, hsub⟩⟩
      · refine .inl ⟨⟨n, rfl⟩, c, pl [], rfl, rfl, ?_⟩
        rw [decide_eq_false (by simp [pl])]
        walk_at "go"
        exact x hsub
      · refine .inr (.inl ⟨rfl, 98, pl [98], rfl, rfl, ?_⟩)
        rw [decide_eq_true (by simp [pl])]
        walk_at "go"
        exact ⟨rfl, s + 1, b, _, rfl, inv2⟩
      · refine .inr (.inl ⟨rfl, c, pl [98], rfl, rfl, ?_⟩)
        rw [decide_eq_false (by simp [pl]; exact hc3)]
        walk_at "go"
        exact x hsub
      · refine .inr (.inr ⟨rfl, 102, pl [102, 97], rfl, rfl, ?_⟩)
        rw [decide_eq_true (by simp [pl])]
        walk_at "go"
        exact ⟨rfl, s + 1, g, _, rfl, inv2⟩
      · refine .inr (.inr ⟨rfl, 97, pl [102, 97], rfl, rfl, ?_⟩)
        rw [decide_eq_true (by simp [pl])]
        walk_at "go"
        refine ⟨a, t.enc, s + 1, g, post, rfl, hS, hdr, hlen, ?_⟩
        walk_at "go"
        exact ⟨rfl, s + 1 + g.enc.length, a2, _, rfl, inv2⟩
      · refine .inr (.inr ⟨rfl, c, pl [102, 97], rfl, rfl, ?_⟩)
        rw [decide_eq_false (by simp [pl]; exact ⟨hc3, hc4⟩)]
        walk_at "go"
        exact x hsub
    · rintro σ H ⟨rfl, s, u, y, rfl, inv⟩
      walk_at "go"
      refine q s u ?_
      have e : p.drop (pl p).cps.size = [] := List.drop_of_length_le (by simp [pl])
      rw [inv.2, e, Tm.sub_nil]
      simp
end
end Ly
set_option Elab.async false
set_option linter.all false
set_option maxRecDepth 100000
set_option maxHeartbeats 8000000
namespace Ly
open PySem PySem.Spec PyProof.Rows L2 Evl
local macro_rules | `(tactic| walk_at "ne") => `(tactic| first
  | assumption
  | ((refine' Ne.symm ?hq); (case hq => assumption))
  | ((refine' ne_of_none ?nh1 ?nh2); (case nh2 => assumption); (case nh1 => walk_at "hp"))
  | ((refine' Ne.symm (ne_of_none ?nh1 ?nh2)); (case nh2 => assumption); (case nh1 => walk_at "hp")))
local macro_rules | `(tactic| walk_at "hp") => `(tactic| first
  | assumption
  | exact upd_same
  | ((refine' SqL.of ?hq); (case hq => walk_at "hp"))
  | ((refine' SqT.of ?hq); (case hq => walk_at "hp"))
  | ((refine' (upd_ne ?hne).trans ?hrest); (case hne => walk_at "ne"); (case hrest => walk_at "hp"))
  | ((refine' ly_at ?hex ?hh); (case hex => assumption); (case hh => walk_at "hp"))
  | ((refine' ly_atF ?hex ?hnn ?hh); (case hex => assumption); (case hh => walk_at "hp"); (case hnn => walk_at "ne"))
  | ((refine' ex_t ?hex ?hh); (case hh => assumption); (case hex => walk_at "ex"))
  | ((refine' ex_l ?hex ?hh); (case hh => assumption); (case hex => walk_at "ex")))
local macro_rules | `(tactic| walk_at "ex") => `(tactic| first
  | assumption
  | exact Ex.refl _
  | ((refine' ex_new ?xa ?xb); (case xb => assumption); (case xa => walk_at "ex"))
  | ((refine' ex_upd ?xa ?xb); (case xb => walk_at "free"); (case xa => walk_at "ex"))
  | ((refine' Ex.trans ?xa ?xb); (case xb => assumption); (case xa => walk_at "ex")))
local macro_rules | `(tactic| walk_at "free") => `(tactic| first
  | assumption
  | ((refine' fresh_back ?xa ?xb); (case xb => assumption); (case xa => walk_at "ex")))
local macro_rules | `(tactic| walk_at "fr") => `(tactic| first
  | assumption
  | exact Fr.refl _ _
  | ((refine' Fr.own ?hq); (case hq => walk_at "fr"))
  | ((refine' Fr.new ?xa ?xb); (case xb => assumption); (case xa => walk_at "fr"))
  | ((refine' Fr.mut ?xa ?xb); (case xb => assumption); (case xa => walk_at "fr"))
  | ((refine' Fr.trans ?xa ?xb); (case xb => assumption); (case xa => walk_at "fr"))
  | ((refine' Fr.trans ?xa (Fr.ex ?xb)); (case xb => assumption); (case xa => walk_at "fr")))
local macro_rules | `(tactic| walk_at "go1") => `(tactic| first
  | (with_reducible refine' w_seq ?_)
  | (with_reducible refine' w_asg ?_)
  | (with_reducible refine' w_ret ?_)
  | (with_reducible refine' w_drop ?_)
  | (with_reducible refine' w_if ?_)
  | (with_reducible refine' w_next ?_)
  | (with_reducible refine' w_name ?_)
  | (with_reducible refine' w_sub ?_)
  | ((with_reducible refine' w_var ?hv ?_); (case hv => exact rfl))
  | (with_reducible refine' w_c ?_)
  | (with_reducible refine' w_op ?_)
  | (with_reducible refine' w_un ?_)
  | (with_reducible refine' w_ch ?_)
  | (with_reducible refine' w_I0 ?_)
  | ((with_reducible refine' w_I ?hc ?_); (case hc => first | (exact ly_mulL (by decide) (by decide)) | (exact ly_mulR (by decide) (by decide)) | (exact ly_mulL (by omega) (by omega)) | (show (_ : Int) ≠ 0; decide) | (show (_ : Int) ≠ 0; omega) | (exact ⟨by decide, by decide⟩) | (exact ⟨by omega, by omega⟩)))
  | (with_reducible refine' w_U ?_)
  | ((with_reducible refine' w_eq ?hs ?_); (case hs => exact rfl))
  | ((with_reducible refine' w_ne ?hs ?_); (case hs => exact rfl))
  | (with_reducible refine' w_isB ?_)
  | (with_reducible refine' w_notB ?_)
  | (with_reducible refine' w_nil ?_)
  | (with_reducible refine' w_cons ?_)
  | (with_reducible refine' w_tup ?_)
  | (with_reducible refine' w_lst ?_)
  | (with_reducible refine' w_cb ?_)
  | (with_reducible refine' w_call ?_)
  | (with_reducible refine' w_bm ?_)
  | (with_reducible refine' w_bm0 ?_)
  | ((with_reducible refine' w_app ?hh ?hz ?_); (case hh => walk_at "hp"); (case hz => first | exact ly_lt (by omega) | exact ly_lt (by simp only [List.length_append, List.length_map, List.length_cons, List.length_nil]; omega)))
  | ((with_reducible refine' w_popA ?hh ?_); (case hh => walk_at "hp"))
  | ((with_reducible refine' w_ext ?hh ?hh2 ?hz ?_); (case hh => walk_at "hp"); (case hh2 => walk_at "hp"))
  | ((with_reducible refine' w_ixL ?hh ?ha ?_); (case hh => walk_at "hp"); (case ha => first | exact rfl | exact at_map (by omega) | exact atI_last _ _ | ((refine' at_of ?ae ?ah); (case ah => assumption); (case ae => omega))))
  | ((with_reducible refine' w_ixT ?hh ?ha ?_); (case hh => walk_at "hp"); (case ha => first | exact rfl | exact at_map (by omega) | exact atI_last _ _ | ((refine' at_of ?ae ?ah); (case ah => assumption); (case ae => omega))))
  | ((with_reducible refine' w_cat ?hh ?hh2 ?hz ?_); (case hh => walk_at "hp"); (case hh2 => walk_at "hp"))
  | ((with_reducible refine' w_setL ?hh ?ha ?_); (case hh => walk_at "hp"); (case ha => exact rfl))
  | (with_reducible refine' w_test ?_)
  | (with_reducible refine' w_tB ?_)
  | (with_reducible refine' w_bl ?_)
  | (with_reducible refine' w_and ?_)
  | (with_reducible refine' w_or ?_)
  | (with_reducible refine' w_not ?_)
  | (with_reducible refine' w_andV ?_)
  | (with_reducible refine' w_orV ?_)
  | (with_reducible refine' w_notV ?_)
  | (with_reducible refine' w_ifE ?_)
  | (with_reducible refine' w_for ?_)
  | ((with_reducible refine' w_nin ?hh ?_); (case hh => walk_at "hp"))
  | ((with_reducible refine' w_sorted ?hh ?_); (case hh => walk_at "hp"))
  | (with_reducible refine' w_tsadd ?_)
  | ((with_reducible refine' w_tsadd1 ?hh ?_); (case hh => walk_at "hp"))
  | ((with_reducible refine' w_sadd ?hh ?hr ?_); (case hh => walk_at "hp"); (case hr => omega))
  | (with_reducible refine' w_iZ ?_)
  | ((with_reducible refine' w_iZ1 ?hh ?hh2 ?_); (case hh => walk_at "hp"); (case hh2 => walk_at "hp"))
  | (with_reducible refine' w_iS ?_)
  | (with_reducible refine' w_iS1 ?_)
  | ((with_reducible refine' w_gtup ?hh ?hn ?_); (case hh => walk_at "hp"); (case hn => exact rfl))
  | (with_reducible refine' w_gcons ?_)
  | (with_reducible refine' w_gnil ?_)
  | (with_reducible refine' w_js ?_)
  | (with_reducible refine' w_jsn ?_)
  | ((with_reducible refine' w_js1 ?hl ?_); (case hl => decide +kernel))
  | (with_reducible refine' w_fmt ?_)
  | ((with_reducible refine' w_fmt1 ?hl ?_); (case hl => decide +kernel))
  | (with_reducible refine' w_callS ?_)
  | ((with_reducible refine' w_truL ?hh ?_); (case hh => walk_at "hp"))
  | (with_reducible refine' w_lc ?_)
  | (with_reducible refine' w_yes ?_)
  | ((with_reducible refine' w_wipe ?he ?_); (case he => exact rfl))
  | (with_reducible refine' w_iL ?_)
  | (with_reducible refine' w_iT ?_)
  | (with_reducible refine' w_iR ?_)
  | ((with_reducible refine' w_iL1 ?hh ?_); (case hh => walk_at "hp"))
  | ((with_reducible refine' w_iT1 ?hh ?_); (case hh => walk_at "hp"))
  | ((with_reducible refine' w_iR1 ?h1 ?h2 ?_); (case h1 => omega); (case h2 => omega))
  | ((with_reducible refine' w_aug ?hv ?_); (case hv => exact rfl))
  | (with_reducible refine' w_ipI ?_)
  | ((with_reducible refine' w_isi ?hy ?hk ?_); (case hy => walk_at "ty"); (case hk => walk_at "kit"))
  | ((with_reducible refine' w_int ?_))
  | ((with_reducible refine' w_intB ?_))
  | ((with_reducible refine' w_abs ?_))
  | ((with_reducible refine' w_lenL ?hh ?_); (case hh => walk_at "hp"))
  | ((with_reducible refine' w_lenT ?hh ?_); (case hh => walk_at "hp"))
  | ((with_reducible refine' w_tupL ?hh ?_); (case hh => walk_at "hp"))
  | ((with_reducible refine' w_tupT ?hh ?_); (case hh => walk_at "hp"))
  | ((with_reducible refine' w_catA ?hh ?hh2 ?hz ?_); (case hh => walk_at "hp"); (case hh2 => walk_at "hp"); (case hz => walk_at "len"))
  | ((with_reducible refine' w_repB ?hh ?hne ?h2 ?h3 ?hz ?_); (case hh => walk_at "hp"); (case hne => simp); (case h2 => omega); (case h3 => omega); (case hz => exact Nat.le_of_ble_eq_true rfl))
  | ((with_reducible refine' w_eqN ?hh ?hh2 ?n1 ?n2 ?_); (case hh => walk_at "hp"); (case hh2 => walk_at "hp"); (case n1 => walk_at "nd"); (case n2 => walk_at "nd"))
  | ((with_reducible refine' w_neN ?hh ?hh2 ?n1 ?n2 ?_); (case hh => walk_at "hp"); (case hh2 => walk_at "hp"); (case n1 => walk_at "nd"); (case n2 => walk_at "nd"))
  | ((with_reducible refine' w_eqL ?hh ?hh2 ?n1 ?n2 ?_); (case hh => walk_at "hp"); (case hh2 => walk_at "hp"); (case n1 => walk_at "nd"); (case n2 => walk_at "nd"))
  | ((with_reducible refine' w_neL ?hh ?hh2 ?n1 ?n2 ?_); (case hh => walk_at "hp"); (case hh2 => walk_at "hp"); (case n1 => walk_at "nd"); (case n2 => walk_at "nd"))
  | ((with_reducible refine' w_neNon ?hh2 ?n2 ?_); (case hh2 => walk_at "hp"); (case n2 => walk_at "nd"))
  | ((with_reducible refine' w_eqNon ?hh2 ?n2 ?_); (case hh2 => walk_at "hp"); (case n2 => walk_at "nd"))
  | ((with_reducible refine' w_slA ?hh ?_); (case hh => walk_at "hp"))
  | ((with_reducible refine' w_disp ?hz ?_); (case hz => exact sz_of (Nat.le_of_ble_eq_true rfl)))
  | ((with_reducible refine' w_tyL ?hh ?_); (case hh => walk_at "hp"))
  | (with_reducible refine' iteT ?_)
  | (with_reducible refine' iteF ?_)
  | (with_reducible refine' w_nT ?_)
  | (with_reducible refine' w_nn ?_)
  | (with_reducible refine' w_nnT ?_)
  | (with_reducible refine' w_nnR ?_)
  | (with_reducible refine' w_neG ?_)
  | (with_reducible refine' w_eqG ?_)
  | (with_reducible refine' w_neS ?_)
  | (with_reducible refine' w_eqS ?_)
  | (with_reducible refine' w_neSb ?_)
  | (with_reducible refine' w_eqSb ?_)
  | (with_reducible refine' w_deIS ?_)
  | (with_reducible refine' w_deSI ?_)
  | (with_reducible refine' w_deISn ?_)
  | ((with_reducible refine' w_deST ?he ?_); (case he => decide +kernel))
  | ((with_reducible refine' w_deSF ?he ?_); (case he => decide +kernel))
  | ((with_reducible refine' w_deSTn ?he ?_); (case he => decide +kernel))
  | ((with_reducible refine' w_deSFn ?he ?_); (case he => decide +kernel))
  | (with_reducible refine' w_nF ?_)
  | dsimp only [Bool.not_true, Bool.not_false])
local macro_rules | `(tactic| walk_at "ty") => `(tactic| first
  | exact .base (.int _) | exact .base (.str _) | exact .base (.bl _) | exact .base .non
  | ((refine' tyx_t ?hq); (case hq => walk_at "hp")) | ((refine' tyx_l ?hq); (case hq => walk_at "hp")) | ((refine' .base (.tup ?hq)); (case hq => walk_at "hp")) | assumption)
local macro_rules | `(tactic| walk_at "go") => `(tactic| repeat walk_at "go1")
local macro_rules | `(tactic| walk_at "st") => `(tactic| try dsimp only [cxOf, Cx.nox, Cx.wish])
local macro_rules | `(tactic| walk_at "kit") => `(tactic| with_reducible first | exact kit_int_int | exact kit_int_str | exact kit_int_bool | exact kit_int_tuple | exact kit_int_list | exact kit_str_int | exact kit_str_str | exact kit_str_bool | exact kit_str_tuple | exact kit_str_list | exact kit_bool_int | exact kit_bool_str | exact kit_bool_bool | exact kit_bool_tuple | exact kit_bool_list | exact kit_NoneType_int | exact kit_NoneType_str | exact kit_NoneType_bool | exact kit_NoneType_tuple | exact kit_NoneType_list | exact kit_list_int | exact kit_list_str | exact kit_list_bool | exact kit_list_tuple | exact kit_list_list | exact kit_tuple_int | exact kit_tuple_str | exact kit_tuple_bool | exact kit_tuple_tuple | exact kit_tuple_list)
local macro_rules | `(tactic| walk_at "nd") => `(tactic| first
  | assumption
  | exact Tm.nds _
  | exact Nds.nil
  | exact Nds.ofInts _
  | ((refine' Nds.cons ?na ?nb); (case na => first | exact Nds.I _ | exact Nds.L | exact Nds.A); (case nb => walk_at "nd"))
  | ((refine' Nds.app ?na ?nb); (case na => walk_at "nd"); (case nb => walk_at "nd"))
  | ((refine' Nds.rep ?na _); (case na => walk_at "nd")))
local macro_rules | `(tactic| walk_at "len") => `(tactic| first
  | exact ly_sz (by omega)
  | ((simp only [List.length_append, List.length_cons, List.length_nil, List.length_map, PyProof.Rows.lm_len_rep_flat]); exact ly_sz (by omega)))
local macro_rules | `(tactic| walk_at "go1") => `(tactic| first
  | (with_reducible refine' w_kget2 ?_)
  | (with_reducible refine' w_isRN ?_)
  | (with_reducible refine' w_isNN ?_)
  | (with_reducible refine' w_isIN ?_)
  | ((with_reducible refine' w_kg ?hd ?_); (case hd => assumption)))
local macro_rules | `(tactic| walk_at "go1") => `(tactic| first
  | ((with_reducible refine' w_extT ?hh ?hh2 ?hz ?_); (case hh => walk_at "hp"); (case hh2 => walk_at "hp"))
  | ((with_reducible refine' w_I ?hc ?_); (case hc => exact ⟨by decide, by decide, by decide⟩))
  | (with_reducible refine' w_sl ?_)
  | (with_reducible refine' w_noP ?_)
  | (with_reducible refine' w_part ?_)
  | (with_reducible refine' w_part1 ?_)
  | (with_reducible refine' w_it ?_)
  | (with_reducible refine' w_it1 ?_)
  | ((with_reducible refine' w_lenZ ?hz ?_); (case hz => omega))
  | ((with_reducible refine' w_addZb ?hz ?_); (case hz => omega))
  | ((with_reducible refine' w_addZf ?hz ?_); (case hz => omega))
  | ((with_reducible refine' w_addZa ?hz ?_); (case hz => omega))
  | ((with_reducible refine' w_inS ?hh ?_); (case hh => walk_at "hp"))
  | ((with_reducible refine' w_ixT ?hh ?ha ?_); (case hh => assumption); (case ha => exact atI_nat (by assumption))))
section
variable {P : Program} {w : World} {K : PySem.W.Frag} {mg : Str → Option Value} {base : Heap} {tk : Nat → Tok} {cl : Nat → Addr}
def spIsRed (K : PySem.W.Frag) : Sp := fun vs H Q _ => ∃ (a : Addr) (t : Tm) (i : Nat), vs = [.ref a, .int (i : Int)] ∧ SqT K H a t.enc ∧ i < t.enc.length ∧ Q (.bl (redB t.enc i)) H
theorem ok_is_redex {f : Addr} {fd : FuncData} {k : Nat} (F : Fun K "is_redex" "is_redex" s_is_redex f fd) (T : Txt w K mg tk cl) : FnOk P w K mg base CX0 (k + 1) f fd ["term", "at"] (spIsRed K) := by
  refine F.ok sc_is_redex (fun vs H Q E h => ?_) (fun cdv A outer s H vs Q E hr h => ?_)
  · obtain ⟨a, t, i, rfl, _⟩ := h
    rfl
  · obtain ⟨a, t, i, rfl, hS, hi, q⟩ := h
    refine ⟨_, (pss_one (ps_ret (pe_and (pe_cmpR op_eq (pe_ix ix_tup (pv 0) (pv 1) (fun _ _ => rfl)) pe_str (nomark _)) (pe_one (pe_cmpR op_eq (pe_ix ix_tup (pv 0) (pe_op op_add (pv 1) pe_int) (fun _ _ => rfl)) pe_str (nomark _)))))), ?_⟩
    refine sl_of (σ2 := [some _, some _]) rfl ?_
    walk_at "st"
    obtain ⟨x, hx⟩ : ∃ x, t.enc[i]? = some x := ⟨_, List.getElem?_eq_getElem hi⟩
    rcases Tm.int_nat (List.mem_of_getElem? hx) with ⟨m, rfl⟩ | rfl | rfl
    · rw [redB_of hx (by simp)] at q
      walk_at "go"
      exact q
    · rw [redB_of hx (by simp [str_ne1])] at q
      walk_at "go"
      exact q
    · obtain ⟨y, hy, hyn⟩ := t.after_app hx
      rw [redB_app hx hy] at q
      walk_at "go"
      rcases hyn with ⟨n, rfl⟩ | rfl | rfl
      · walk_at "go"
        exact q
      · walk_at "go"
        exact q
      · walk_at "go"
        exact q
def spRedAt (K : PySem.W.Frag) (C : Addr) : Sp := fun vs H Q E => ∃ (a : Addr) (t : Tm) (p : List Nat), vs = [.ref a, .str (pl p)] ∧ SqT K H a t.enc ∧ t.enc.length ≤ 2000000 ∧ p.length ≤ 2000000 ∧
  (∀ i b u, t.Red p i b u → Q (.int (i : Int)) H) ∧ ((∀ i b u, ¬ t.Red p i b u) → ∀ H', Ex H H' → E (.ref C) none H')
def spIndexAt (K : PySem.W.Frag) (C : Addr) : Sp := fun vs H Q E => ∃ (a : Addr) (t : Tm) (p : List Nat), vs = [.ref a, .str (pl p)] ∧ SqT K H a t.enc ∧ t.enc.length ≤ 2000000 ∧ p.length ≤ 2000000 ∧
  (∀ i u, t.sub p = some (i, u) → Q (.int (i : Int)) H) ∧ (t.sub p = none → ∀ H', Ex H H' → E (.ref C) none H')
theorem ok_index_at {f : Addr} {fd : FuncData} (F : Fun K "index_at" "index_at" s_index_at f fd) (T : Txt w K mg tk cl)
    (D1 : Def P w K mg base (L2N.CX P w) 3 "start_of" ["term", "place"] (spStart K (cl 3))) : FnOk P w K mg base (L2.CX P w) 4 f fd ["term", "place"] (spIndexAt K (cl 2)) := by
  obtain ⟨f1, fd1, g_start_of, kp_start_of, b_start_of, G_start_of⟩ := D1
  refine F.okX sc_index_at (fun vs H Q E h => ?_) (fun cdv A outer s H vs Q E hr h => ?_)
  · obtain ⟨a, t, p, rfl, _⟩ := h
    rfl
  · obtain ⟨a, t, p, rfl, hS, hlen, hpl, q, x⟩ := h
    refine ⟨_, (pss_one (L2H.ps_try_onlyX rfl rfl ⟨rfl, by decide, .inl T.g_NoPlace⟩ (L2H.passesAt_of rfl) (takes_of rfl rfl rfl rfl) (fun W pn xe tk tk2 po => (pss_one (ps_ret (pe_callS G_start_of (hr.mono (by first | decide | omega)) (by rfl) g_start_of kp_start_of b_start_of (fun σ => L2N.passAt tk σ) (pa_cons (pv 0) (pa_cons (pv 1) pa_nil)))))) (fun a oe cls d pn hz hf tkS hot => (pss_one (L2H.ps_raiseHN hot tkS (pmk5 PySem.F.excBase_ValueError T.x_NoRedex T.g_NoRedex T.k_NoRedex (raises_own T.b_NoRedex T.t_NoRedex) rfl pe_str)))))), ?_⟩
    refine sl_of (σ2 := [some _, some _]) rfl ?_
    walk_at "st"
    walk_at "go"
    refine ⟨a, t, p, rfl, hS, hlen, hpl, fun i u hsub => ?_, fun hsub => ?_⟩
    · walk_at "go"
      exact q i u hsub
    · refine ⟨true, T.e_NoPlace_NoPlace, fun _ a1 ha1 => ?_, fun z => nomatch z⟩
      walk_at "go"
      exact x hsub _ (Ex.refl _)
theorem Tm.sub_lt0 {t u : Tm} {p : List Nat} {i : Nat} (hsub : t.sub p = some (i, u)) : i < t.enc.length := by
  obtain ⟨⟨post, hd⟩, _⟩ := Tm.sub_at t p [] hsub
  have hl := congrArg List.length hd
  have pos := List.length_pos_iff.mpr u.enc_ne
  rw [List.length_drop, List.length_append] at hl
  omega
theorem ok_redex_at {f : Addr} {fd : FuncData} (F : Fun K "redex_at" "redex_at" s_redex_at f fd) (T : Txt w K mg tk cl)
    (D1 : Def P w K mg base (L2.CX P w) 4 "index_at" ["term", "place"] (spIndexAt K (cl 2))) (D2 : Def P w K mg base CX0 1 "is_redex" ["term", "at"] (spIsRed K)) : FnOk P w K mg base (L2.CX P w) 5 f fd ["term", "place"] (spRedAt K (cl 2)) := by
  obtain ⟨f1, fd1, g_index_at, kp_index_at, b_index_at, G_index_at⟩ := D1
  obtain ⟨f2, fd2, g_is_redex, kp_is_redex, b_is_redex, G_is_redex⟩ := D2
  refine F.okX sc_redex_at (fun vs H Q E h => ?_) (fun cdv A outer s H vs Q E hr h => ?_)
  · obtain ⟨a, t, p, rfl, _⟩ := h
    rfl
  · obtain ⟨a, t, p, rfl, hS, hlen, hpl, q, x⟩ := h
    refine ⟨_, (pss_cons (ps_set (i := 2) sc_redex_at.nd rfl (.inl rfl) (pe_call G_index_at (hr.mono (by first | decide | omega)) (by rfl) g_index_at kp_index_at b_index_at .nil (passes_call (takes_of rfl rfl rfl rfl) (fun _ _ _ _ h => h)) (pa_cons (pv 0) (pa_cons (pv 1) pa_nil)))) (pss_cons (ps_if (pt_not (pt_val (pe_call G_is_redex (hr.mono (by first | decide | omega)) (by rfl) g_is_redex kp_is_redex b_is_redex .nil pass0 (pa_cons (pv 0) (pa_cons (pv 2) pa_nil))))) (pss_one (ps_raise rfl (takes_of rfl rfl rfl rfl) (SkE.pmk_own1 PySem.F.excBase_ValueError T.x_NoRedex T.g_NoRedex T.k_NoRedex (raises_own T.b_NoRedex T.t_NoRedex) rfl pe_str))) pss_nil) (pss_one (ps_ret (pv 2))))), ?_⟩
    refine sl_of (σ2 := [some _, some _, none]) rfl ?_
    walk_at "st"
    walk_at "go"
    refine ⟨a, t, p, rfl, hS, hlen, hpl, fun i u hsub => ?_, fun hsub H' e' => ?_⟩
    · have lt := Tm.sub_lt0 hsub
      walk_at "go"
      refine ⟨a, t, i, rfl, hS, lt, ?_⟩
      rcases red_sub hsub with ⟨hb, b, v, hr2⟩ | ⟨hb, hno⟩
      · rw [hb]
        walk_at "go"
        exact q i b v hr2
      · rw [hb]
        walk_at "go"
        exact x hno _ (Ex.refl _)
    · have hno : ∀ i b u, ¬ t.Red p i b u := fun i b u z => by
        unfold Tm.Red at z
        rw [hsub] at z
        cases z
      exact x hno _ e'
def spStepped (K : PySem.W.Frag) (C : Addr) : Sp := fun vs H Q E => ∃ (a : Addr) (t : Tm) (p : List Nat) (i : Nat) (b u : Tm), vs = [.ref a, .int (i : Int)] ∧ SqT K H a t.enc ∧ t.Red p i b u ∧ t.enc.length ≤ 3000 ∧
  (fitsV (t.step p).enc = true → ∀ H' r, Ex H H' → SqT K H' r (t.step p).enc → Q (.ref r) H') ∧ (fitsV (t.step p).enc = false → ∀ H', Ex H H' → E (.ref C) none H')
theorem ok_stepped {f : Addr} {fd : FuncData} (F : Fun K "stepped" "stepped" s_stepped f fd) (T : Txt w K mg tk cl)
    (D1 : Def P w K mg base CX0 2 "end_of" ["term", "start"] (spEnd K)) (D2 : Def P w K mg base (L2.CX P w) 3 "put" ["term", "value"] (spPut K (cl 1))) (D3 : Def P w K mg base (L2.CX P w) 2 "checked" ["term"] (spChecked K (cl 1))) : FnOk P w K mg base (L2.CX P w) 4 f fd ["term", "at"] (spStepped K (cl 1)) := by
  obtain ⟨f1, fd1, g_end_of, kp_end_of, b_end_of, G_end_of⟩ := D1
  obtain ⟨f2, fd2, g_put, kp_put, b_put, G_put⟩ := D2
  obtain ⟨f3, fd3, g_checked, kp_checked, b_checked, G_checked⟩ := D3
  refine F.okX sc_stepped (fun vs H Q E h => ?_) (fun cdv A outer s H vs Q E hr h => ?_)
  · obtain ⟨a, t, p, i, b, u, rfl, _⟩ := h
    rfl
  · obtain ⟨a, t, p, i, b, u, rfl, hS, hred, hlen, good, large⟩ := h
    refine ⟨_, (pss_cons (ps_set (i := 2) sc_stepped.nd rfl (.inl rfl) (pe_call G_end_of (hr.mono (by first | decide | omega)) (by rfl) g_end_of kp_end_of b_end_of .nil pass0 (pa_cons (pv 0) (pa_cons (pe_op op_add (pv 1) pe_int) pa_nil)))) (pss_cons (ps_set (i := 3) sc_stepped.nd rfl (.inl rfl) (pe_call G_end_of (hr.mono (by first | decide | omega)) (by rfl) g_end_of kp_end_of b_end_of .nil pass0 (pa_cons (pv 0) (pa_cons (pv 2) pa_nil)))) (pss_cons (ps_set (i := 4) sc_stepped.nd rfl (.inl rfl) (pe_call G_put (hr.mono (by first | decide | omega)) (by rfl) g_put kp_put b_put .nil (passes_call (takes_of rfl rfl rfl rfl) (fun _ _ _ _ h => h)) (pa_cons (pe_slice sl_tupA (pv 0) (po_some (pe_op op_add (pv 1) pe_int)) (po_some (pv 2))) (pa_cons (pe_slice sl_tupA (pv 0) (po_some (pv 2)) (po_some (pv 3))) pa_nil)))) (pss_one (ps_ret (pe_call G_checked (hr.mono (by first | decide | omega)) (by rfl) g_checked kp_checked b_checked .nil (passes_call (takes_of rfl rfl rfl rfl) (fun _ _ _ _ h => h)) (pa_cons (pe_op op_catA (pe_op op_catA (pe_slice sl_tupA (pv 0) po_none (po_some (pv 1))) (pv 4)) (pe_slice sl_tupA (pv 0) (po_some (pv 3)) po_none)) pa_nil))))))), ?_⟩
    refine sl_of (σ2 := [some _, some _, none, none, none]) rfl ?_
    walk_at "st"
    walk_at "go"
    obtain ⟨post, hdr⟩ := Tm.red_at hred
    have lt := Tm.sub_lt hred
    have hal : (Tm.app (.lam b) u).enc.length = b.enc.length + u.enc.length + 2 := by
      simp only [Tm.enc, List.length_cons, List.length_append]
      omega
    rw [hal] at lt
    have hll : (Tm.lam b).enc.length = b.enc.length + 1 := rfl
    have d1 : t.enc.drop (i + 1) = (Tm.lam b).enc ++ (u.enc ++ post) := (at_drop hdr).2
    have d2 : t.enc.drop (i + 2) = b.enc ++ (u.enc ++ post) := (at_drop d1).2
    have d3 : t.enc.drop (i + 1 + (Tm.lam b).enc.length) = u.enc ++ post := by
      rw [← List.drop_drop, d1, List.drop_left]
    refine ⟨a, t.enc, i + 1, .lam b, _, rfl, hS, d1, by omega, ?_⟩
    walk_at "go"
    refine ⟨a, t.enc, i + 1 + (Tm.lam b).enc.length, u, _, rfl, hS, d3, by omega, ?_⟩
    walk_at "go"
    intro x2 H3 e3 hx2
    have c2 : cutV t.enc (some ((i : Int) + 2)) (some ((i + 1 + (Tm.lam b).enc.length : Nat) : Int)) = b.enc := by
      have h := cut_mid (i := i + 2) (u := b) d2
      have e : i + 1 + (Tm.lam b).enc.length = i + 2 + b.enc.length := by omega
      rw [e]
      exact h
    rw [c2] at hx2
    have hS3 := ex_t e3 hS
    walk_at "go"
    intro x3 H4 e4 hx3
    have c3 : cutV t.enc (some ((i + 1 + (Tm.lam b).enc.length : Nat) : Int)) (some ((i + 1 + (Tm.lam b).enc.length + u.enc.length : Nat) : Int)) = u.enc := cut_mid d3
    rw [c3] at hx3
    have hS4 := ex_t e4 hS3
    have hx2 := ex_t e4 hx2
    have e9 := Tm.step_enc hred
    have e34 := e3.trans e4
    have e10 : i + 1 + (Tm.lam b).enc.length + u.enc.length = i + 2 + b.enc.length + u.enc.length := by omega
    walk_at "go"
    refine ⟨x2, x3, b, u, rfl, hx2, hx3, by omega, by omega, fun hf x4 H5 e5 hx4 => ?_, fun hf H5 e5 => ?_⟩
    · have hS5 := ex_t e5 hS4
      have pl := fits_len hf
      have sl := sizeLine_eq
      walk_at "go"
      intro x1 H6 e6 hx1
      rw [cut_lo] at hx1
      have hS6 := ex_t e6 hS5
      have hx4 := ex_t e6 hx4
      walk_at "go"
      refine w_catA hx1 hx4 (by rw [List.length_take]; omega) fun x5 H7 e7 hx5 => ?_
      have hS7 := ex_t e7 hS6
      walk_at "go"
      intro x6 H8 e8 hx6
      rw [cut_hi] at hx6
      have hx5 := ex_t e8 hx5
      walk_at "go"
      refine w_catA hx5 hx6 (by rw [List.length_append, List.length_take, List.length_drop]; omega) fun x7 H9 e10b hx7 => ?_
      walk_at "go"
      rw [e10, ← e9] at hx7
      have ee : Ex H H9 := e34.trans (e5.trans (e6.trans (e7.trans (e8.trans e10b))))
      refine ⟨x7, _, rfl, hx7, (Tm.nds _).flat, fun h => ?_, fun h => large h _ ee⟩
      exact good h _ _ ee hx7
    · refine large ?_ _ (e34.trans e5)
      rw [e9]
      exact fits_mid hf

end
end Ly
set_option Elab.async false
set_option linter.all false
set_option maxRecDepth 100000
set_option maxHeartbeats 8000000
namespace Ly
open PySem PySem.Spec PyProof.Rows L2 Evl
local macro_rules | `(tactic| walk_at "ne") => `(tactic| first
  | assumption
  | ((refine' Ne.symm ?hq); (case hq => assumption))
  | ((refine' ne_of_none ?nh1 ?nh2); (case nh2 => assumption); (case nh1 => walk_at "hp"))
  | ((refine' Ne.symm (ne_of_none ?nh1 ?nh2)); (case nh2 => assumption); (case nh1 => walk_at "hp")))
local macro_rules | `(tactic| walk_at "hp") => `(tactic| first
  | assumption
  | exact upd_same
  | ((refine' SqL.of ?hq); (case hq => walk_at "hp"))
  | ((refine' SqT.of ?hq); (case hq => walk_at "hp"))
  | ((refine' (upd_ne ?hne).trans ?hrest); (case hne => walk_at "ne"); (case hrest => walk_at "hp"))
  | ((refine' ly_at ?hex ?hh); (case hex => assumption); (case hh => walk_at "hp"))
  | ((refine' ly_atF ?hex ?hnn ?hh); (case hex => assumption); (case hh => walk_at "hp"); (case hnn => walk_at "ne"))
  | ((refine' ex_t ?hex ?hh); (case hh => assumption); (case hex => walk_at "ex"))
  | ((refine' ex_l ?hex ?hh); (case hh => assumption); (case hex => walk_at "ex")))
local macro_rules | `(tactic| walk_at "ex") => `(tactic| first
  | assumption
  | exact Ex.refl _
  | ((refine' ex_new ?xa ?xb); (case xb => assumption); (case xa => walk_at "ex"))
  | ((refine' ex_upd ?xa ?xb); (case xb => walk_at "free"); (case xa => walk_at "ex"))
  | ((refine' Ex.trans ?xa ?xb); (case xb => assumption); (case xa => walk_at "ex")))
local macro_rules | `(tactic| walk_at "free") => `(tactic| first
  | assumption
  | ((refine' fresh_back ?xa ?xb); (case xb => assumption); (case xa => walk_at "ex")))
local macro_rules | `(tactic| walk_at "fr") => `(tactic| first
  | assumption
  | exact Fr.refl _ _
  | ((refine' Fr.own ?hq); (case hq => walk_at "fr"))
  | ((refine' Fr.new ?xa ?xb); (case xb => assumption); (case xa => walk_at "fr"))
  | ((refine' Fr.mut ?xa ?xb); (case xb => assumption); (case xa => walk_at "fr"))
  | ((refine' Fr.trans ?xa ?xb); (case xb => assumption); (case xa => walk_at "fr"))
  | ((refine' Fr.trans ?xa (Fr.ex ?xb)); (case xb => assumption); (case xa => walk_at "fr")))
local macro_rules | `(tactic| walk_at "go1") => `(tactic| first
  | (with_reducible refine' w_seq ?_)
  | (with_reducible refine' w_asg ?_)
  | (with_reducible refine' w_ret ?_)
  | (with_reducible refine' w_drop ?_)
  | (with_reducible refine' w_if ?_)
  | (with_reducible refine' w_next ?_)
  | (with_reducible refine' w_name ?_)
  | (with_reducible refine' w_sub ?_)
  | ((with_reducible refine' w_var ?hv ?_); (case hv => exact rfl))
  | (with_reducible refine' w_c ?_)
  | (with_reducible refine' w_op ?_)
  | (with_reducible refine' w_un ?_)
  | (with_reducible refine' w_ch ?_)
  | (with_reducible refine' w_I0 ?_)
  | ((with_reducible refine' w_I ?hc ?_); (case hc => first | (exact ly_mulL (by decide) (by decide)) | (exact ly_mulR (by decide) (by decide)) | (exact ly_mulL (by omega) (by omega)) | (show (_ : Int) ≠ 0; decide) | (show (_ : Int) ≠ 0; omega) | (exact ⟨by decide, by decide⟩) | (exact ⟨by omega, by omega⟩)))
  | (with_reducible refine' w_U ?_)
  | ((with_reducible refine' w_eq ?hs ?_); (case hs => exact rfl))
  | ((with_reducible refine' w_ne ?hs ?_); (case hs => exact rfl))
  | (with_reducible refine' w_isB ?_)
  | (with_reducible refine' w_notB ?_)
  | (with_reducible refine' w_nil ?_)
  | (with_reducible refine' w_cons ?_)
  | (with_reducible refine' w_tup ?_)
  | (with_reducible refine' w_lst ?_)
  | (with_reducible refine' w_cb ?_)
  | (with_reducible refine' w_call ?_)
  | (with_reducible refine' w_bm ?_)
  | (with_reducible refine' w_bm0 ?_)
  | ((with_reducible refine' w_app ?hh ?hz ?_); (case hh => walk_at "hp"); (case hz => first | exact ly_lt (by omega) | exact ly_lt (by simp only [List.length_append, List.length_map, List.length_cons, List.length_nil]; omega)))
  | ((with_reducible refine' w_popA ?hh ?_); (case hh => walk_at "hp"))
  | ((with_reducible refine' w_ext ?hh ?hh2 ?hz ?_); (case hh => walk_at "hp"); (case hh2 => walk_at "hp"))
  | ((with_reducible refine' w_ixL ?hh ?ha ?_); (case hh => walk_at "hp"); (case ha => first | exact rfl | exact at_map (by omega) | exact atI_last _ _ | ((refine' at_of ?ae ?ah); (case ah => assumption); (case ae => omega))))
  | ((with_reducible refine' w_ixT ?hh ?ha ?_); (case hh => walk_at "hp"); (case ha => first | exact rfl | exact at_map (by omega) | exact atI_last _ _ | ((refine' at_of ?ae ?ah); (case ah => assumption); (case ae => omega))))
  | ((with_reducible refine' w_cat ?hh ?hh2 ?hz ?_); (case hh => walk_at "hp"); (case hh2 => walk_at "hp"))
  | ((with_reducible refine' w_setL ?hh ?ha ?_); (case hh => walk_at "hp"); (case ha => exact rfl))
  | (with_reducible refine' w_test ?_)
  | (with_reducible refine' w_tB ?_)
  | (with_reducible refine' w_bl ?_)
  | (with_reducible refine' w_and ?_)
  | (with_reducible refine' w_or ?_)
  | (with_reducible refine' w_not ?_)
  | (with_reducible refine' w_andV ?_)
  | (with_reducible refine' w_orV ?_)
  | (with_reducible refine' w_notV ?_)
  | (with_reducible refine' w_ifE ?_)
  | (with_reducible refine' w_for ?_)
  | ((with_reducible refine' w_nin ?hh ?_); (case hh => walk_at "hp"))
  | ((with_reducible refine' w_sorted ?hh ?_); (case hh => walk_at "hp"))
  | (with_reducible refine' w_tsadd ?_)
  | ((with_reducible refine' w_tsadd1 ?hh ?_); (case hh => walk_at "hp"))
  | ((with_reducible refine' w_sadd ?hh ?hr ?_); (case hh => walk_at "hp"); (case hr => omega))
  | (with_reducible refine' w_iZ ?_)
  | ((with_reducible refine' w_iZ1 ?hh ?hh2 ?_); (case hh => walk_at "hp"); (case hh2 => walk_at "hp"))
  | (with_reducible refine' w_iS ?_)
  | (with_reducible refine' w_iS1 ?_)
  | ((with_reducible refine' w_gtup ?hh ?hn ?_); (case hh => walk_at "hp"); (case hn => exact rfl))
  | (with_reducible refine' w_gcons ?_)
  | (with_reducible refine' w_gnil ?_)
  | (with_reducible refine' w_js ?_)
  | (with_reducible refine' w_jsn ?_)
  | ((with_reducible refine' w_js1 ?hl ?_); (case hl => decide +kernel))
  | (with_reducible refine' w_fmt ?_)
  | ((with_reducible refine' w_fmt1 ?hl ?_); (case hl => decide +kernel))
  | (with_reducible refine' w_callS ?_)
  | ((with_reducible refine' w_truL ?hh ?_); (case hh => walk_at "hp"))
  | (with_reducible refine' w_lc ?_)
  | (with_reducible refine' w_yes ?_)
  | ((with_reducible refine' w_wipe ?he ?_); (case he => exact rfl))
  | (with_reducible refine' w_iL ?_)
  | (with_reducible refine' w_iT ?_)
  | (with_reducible refine' w_iR ?_)
  | ((with_reducible refine' w_iL1 ?hh ?_); (case hh => walk_at "hp"))
  | ((with_reducible refine' w_iT1 ?hh ?_); (case hh => walk_at "hp"))
  | ((with_reducible refine' w_iR1 ?h1 ?h2 ?_); (case h1 => omega); (case h2 => omega))
  | ((with_reducible refine' w_aug ?hv ?_); (case hv => exact rfl))
  | (with_reducible refine' w_ipI ?_)
  | ((with_reducible refine' w_isi ?hy ?hk ?_); (case hy => walk_at "ty"); (case hk => walk_at "kit"))
  | ((with_reducible refine' w_int ?_))
  | ((with_reducible refine' w_intB ?_))
  | ((with_reducible refine' w_abs ?_))
  | ((with_reducible refine' w_lenL ?hh ?_); (case hh => walk_at "hp"))
  | ((with_reducible refine' w_lenT ?hh ?_); (case hh => walk_at "hp"))
  | ((with_reducible refine' w_tupL ?hh ?_); (case hh => walk_at "hp"))
  | ((with_reducible refine' w_tupT ?hh ?_); (case hh => walk_at "hp"))
  | ((with_reducible refine' w_catA ?hh ?hh2 ?hz ?_); (case hh => walk_at "hp"); (case hh2 => walk_at "hp"); (case hz => walk_at "len"))
  | ((with_reducible refine' w_repB ?hh ?hne ?h2 ?h3 ?hz ?_); (case hh => walk_at "hp"); (case hne => simp); (case h2 => omega); (case h3 => omega); (case hz => exact Nat.le_of_ble_eq_true rfl))
  | ((with_reducible refine' w_eqN ?hh ?hh2 ?n1 ?n2 ?_); (case hh => walk_at "hp"); (case hh2 => walk_at "hp"); (case n1 => walk_at "nd"); (case n2 => walk_at "nd"))
  | ((with_reducible refine' w_neN ?hh ?hh2 ?n1 ?n2 ?_); (case hh => walk_at "hp"); (case hh2 => walk_at "hp"); (case n1 => walk_at "nd"); (case n2 => walk_at "nd"))
  | ((with_reducible refine' w_eqL ?hh ?hh2 ?n1 ?n2 ?_); (case hh => walk_at "hp"); (case hh2 => walk_at "hp"); (case n1 => walk_at "nd"); (case n2 => walk_at "nd"))
  | ((with_reducible refine' w_neL ?hh ?hh2 ?n1 ?n2 ?_); (case hh => walk_at "hp"); (case hh2 => walk_at "hp"); (case n1 => walk_at "nd"); (case n2 => walk_at "nd"))
  | ((with_reducible refine' w_neNon ?hh2 ?n2 ?_); (case hh2 => walk_at "hp"); (case n2 => walk_at "nd"))
  | ((with_reducible refine' w_eqNon ?hh2 ?n2 ?_); (case hh2 => walk_at "hp"); (case n2 => walk_at "nd"))
  | ((with_reducible refine' w_slA ?hh ?_); (case hh => walk_at "hp"))
  | ((with_reducible refine' w_disp ?hz ?_); (case hz => exact sz_of (Nat.le_of_ble_eq_true rfl)))
  | ((with_reducible refine' w_tyL ?hh ?_); (case hh => walk_at "hp"))
  | (with_reducible refine' iteT ?_)
  | (with_reducible refine' iteF ?_)
  | (with_reducible refine' w_nT ?_)
  | (with_reducible refine' w_nn ?_)
  | (with_reducible refine' w_nnT ?_)
  | (with_reducible refine' w_nnR ?_)
  | (with_reducible refine' w_neG ?_)
  | (with_reducible refine' w_eqG ?_)
  | (with_reducible refine' w_neS ?_)
  | (with_reducible refine' w_eqS ?_)
  | (with_reducible refine' w_neSb ?_)
  | (with_reducible refine' w_eqSb ?_)
  | (with_reducible refine' w_deIS ?_)
  | (with_reducible refine' w_deSI ?_)
  | (with_reducible refine' w_deISn ?_)
  | ((with_reducible refine' w_deST ?he ?_); (case he => decide +kernel))
  | ((with_reducible refine' w_deSF ?he ?_); (case he => decide +kernel))
  | ((with_reducible refine' w_deSTn ?he ?_); (case he => decide +kernel))
  | ((with_reducible refine' w_deSFn ?he ?_); (case he => decide +kernel))
  | (with_reducible refine' w_nF ?_)
  | dsimp only [Bool.not_true, Bool.not_false])
local macro_rules | `(tactic| walk_at "ty") => `(tactic| first
  | exact .base (.int _) | exact .base (.str _) | exact .base (.bl _) | exact .base .non
  | ((refine' tyx_t ?hq); (case hq => walk_at "hp")) | ((refine' tyx_l ?hq); (case hq => walk_at "hp")) | ((refine' .base (.tup ?hq)); (case hq => walk_at "hp")) | assumption)
local macro_rules | `(tactic| walk_at "go") => `(tactic| repeat walk_at "go1")
local macro_rules | `(tactic| walk_at "st") => `(tactic| try dsimp only [cxOf, Cx.nox, Cx.wish])
local macro_rules | `(tactic| walk_at "kit") => `(tactic| with_reducible first | exact kit_int_int | exact kit_int_str | exact kit_int_bool | exact kit_int_tuple | exact kit_int_list | exact kit_str_int | exact kit_str_str | exact kit_str_bool | exact kit_str_tuple | exact kit_str_list | exact kit_bool_int | exact kit_bool_str | exact kit_bool_bool | exact kit_bool_tuple | exact kit_bool_list | exact kit_NoneType_int | exact kit_NoneType_str | exact kit_NoneType_bool | exact kit_NoneType_tuple | exact kit_NoneType_list | exact kit_list_int | exact kit_list_str | exact kit_list_bool | exact kit_list_tuple | exact kit_list_list | exact kit_tuple_int | exact kit_tuple_str | exact kit_tuple_bool | exact kit_tuple_tuple | exact kit_tuple_list)
local macro_rules | `(tactic| walk_at "nd") => `(tactic| first
  | assumption
  | exact Tm.nds _
  | exact Nds.nil
  | exact Nds.ofInts _
  | ((refine' Nds.cons ?na ?nb); (case na => first | exact Nds.I _ | exact Nds.L | exact Nds.A); (case nb => walk_at "nd"))
  | ((refine' Nds.app ?na ?nb); (case na => walk_at "nd"); (case nb => walk_at "nd"))
  | ((refine' Nds.rep ?na _); (case na => walk_at "nd")))
local macro_rules | `(tactic| walk_at "len") => `(tactic| first
  | exact ly_sz (by omega)
  | ((simp only [List.length_append, List.length_cons, List.length_nil, List.length_map, PyProof.Rows.lm_len_rep_flat]); exact ly_sz (by omega)))
local macro_rules | `(tactic| walk_at "go1") => `(tactic| first
  | (with_reducible refine' w_kget2 ?_)
  | (with_reducible refine' w_isRN ?_)
  | (with_reducible refine' w_isNN ?_)
  | (with_reducible refine' w_isIN ?_)
  | ((with_reducible refine' w_kg ?hd ?_); (case hd => assumption)))
local macro_rules | `(tactic| walk_at "go1") => `(tactic| first
  | ((with_reducible refine' w_extT ?hh ?hh2 ?hz ?_); (case hh => walk_at "hp"); (case hh2 => walk_at "hp"))
  | ((with_reducible refine' w_I ?hc ?_); (case hc => exact ⟨by decide, by decide, by decide⟩))
  | (with_reducible refine' w_sl ?_)
  | (with_reducible refine' w_noP ?_)
  | (with_reducible refine' w_part ?_)
  | (with_reducible refine' w_part1 ?_)
  | (with_reducible refine' w_it ?_)
  | (with_reducible refine' w_it1 ?_)
  | ((with_reducible refine' w_lenZ ?hz ?_); (case hz => omega))
  | ((with_reducible refine' w_addZb ?hz ?_); (case hz => omega))
  | ((with_reducible refine' w_addZf ?hz ?_); (case hz => omega))
  | ((with_reducible refine' w_addZa ?hz ?_); (case hz => omega))
  | ((with_reducible refine' w_inS ?hh ?_); (case hh => walk_at "hp"))
  | ((with_reducible refine' w_ixT ?hh ?ha ?_); (case hh => assumption); (case ha => exact atI_nat (by assumption))))
local macro_rules | `(tactic| walk_at "go1") => `(tactic| first
  | (with_reducible refine' w_iR2 ?_)
  | ((with_reducible refine' w_iR21 ?h1 ?h2 ?h3 ?h4 ?_); (case h1 => omega); (case h2 => omega); (case h3 => omega); (case h4 => omega))
  | (with_reducible refine' w_nnI ?_)
  | (with_reducible refine' w_max ?_)
  | (with_reducible refine' w_break ?_)
  | (with_reducible refine' w_cont ?_))
section
variable {P : Program} {w : World} {K : PySem.W.Frag} {mg : Str → Option Value} {base : Heap} {tk : Nat → Tok} {cl : Nat → Addr}
def spFirst (K : PySem.W.Frag) : Sp := fun vs H Q _ => ∃ (a : Addr) (t : Tm) (s : Nat), vs = [.ref a, .int (s : Int)] ∧ SqT K H a t.enc ∧ t.enc.length ≤ 2000000 ∧ s ≤ 2000000 ∧
  (∀ i : Nat, s ≤ i → i < t.enc.length → redB t.enc i = true → (∀ j, s ≤ j → j < i → redB t.enc j = false) → Q (.int (i : Int)) H) ∧ ((∀ j, s ≤ j → j < t.enc.length → redB t.enc j = false) → Q .non H)
theorem ok_first {f : Addr} {fd : FuncData} (F : Fun K "first_redex" "first_redex" s_first_redex f fd) (T : Txt w K mg tk cl)
    (D1 : Def P w K mg base CX0 1 "is_redex" ["term", "at"] (spIsRed K)) : FnOk P w K mg base CX0 2 f fd ["term", "start"] (spFirst K) := by
  obtain ⟨f1, fd1, g_is_redex, kp_is_redex, b_is_redex, G_is_redex⟩ := D1
  refine F.ok sc_first_redex (fun vs H Q E h => ?_) (fun cdv A outer s H vs Q E hr h => ?_)
  · obtain ⟨a, t, s0, rfl, _⟩ := h
    rfl
  · obtain ⟨a, t, s0, rfl, hS, hlen, hs0, q, x⟩ := h
    refine ⟨_, (pss_cons (ps_for PassesOwn.never rfl (pi_range2 (by rfl) T.n_range (pa_cons (pv 1) (pa_cons (pe_callB call_len_seq (by rfl) T.n_len (by decide +kernel) (pa_cons (pv 0) pa_nil)) pa_nil))) (pg_name (i := 2) sc_first_redex.nd rfl (.inl rfl)) (pss_one (ps_if (pt_val (pe_call G_is_redex (hr.mono (by first | decide | omega)) (by rfl) g_is_redex kp_is_redex b_is_redex .nil pass0 (pa_cons (pv 0) (pa_cons (pv 2) pa_nil)))) (pss_one (ps_ret (pv 2))) pss_nil))) (pss_one (ps_ret pe_non))), ?_⟩
    refine sl_of (σ2 := [some _, some _, none]) rfl ?_
    walk_at "st"
    walk_at "go"
    refine for_range (lo := (s0 : Int)) (n := ((t.enc.length : Int) - (s0 : Int)).toNat) (fun i σ H' => H' = H ∧ ∃ y : Option V, σ = [some (.ref a), some (.int (s0 : Int)), y] ∧ ∀ j, s0 ≤ j → j < s0 + i → redB t.enc j = false)
      ⟨rfl, none, rfl, fun j h1 h2 => by omega⟩ ?_ ?_
    · rintro i σ H' hi ⟨rfl, y, rfl, hno⟩
      have hil : s0 + i < t.enc.length := by omega
      walk_at "go"
      refine ⟨a, t, s0 + i, by simp, hS, hil, ?_⟩
      cases hb : redB t.enc (s0 + i) with
      | true =>
        walk_at "go"
        have e : ((s0 : Int) + (i : Int)) = ((s0 + i : Nat) : Int) := by omega
        rw [e]
        exact q (s0 + i) (by omega) hil hb fun j h1 h2 => hno j h1 h2
      | false =>
        walk_at "go"
        refine ⟨rfl, _, rfl, fun j h1 h2 => ?_⟩
        by_cases e : j = s0 + i
        · rw [e]
          exact hb
        · exact hno j h1 (by omega)
    · rintro σ H' ⟨rfl, y, rfl, hno⟩
      walk_at "go"
      exact x fun j h1 h2 => hno j h1 (by omega)
def spNextF (K : PySem.W.Frag) : Sp := fun vs H Q _ => ∃ (a : Addr) (t : Tm) (i0 : Nat), vs = [.ref a, .int (i0 : Int)] ∧ SqT K H a t.enc ∧ t.enc.length ≤ 2000000 ∧ i0 ≤ 2000000 ∧
  (∀ i : Nat, i0 - 1 ≤ i → i < t.enc.length → redB t.enc i = true → (∀ j, i0 - 1 ≤ j → j < i → redB t.enc j = false) → Q (.int (i : Int)) H) ∧ ((∀ j, i0 - 1 ≤ j → j < t.enc.length → redB t.enc j = false) → Q .non H)
theorem ok_nextf {f : Addr} {fd : FuncData} (F : Fun K "next_redex" "next_redex" s_next_redex f fd) (T : Txt w K mg tk cl)
    (D1 : Def P w K mg base CX0 2 "first_redex" ["term", "start"] (spFirst K)) : FnOk P w K mg base CX0 3 f fd ["term", "at"] (spNextF K) := by
  obtain ⟨f1, fd1, g_first_redex, kp_first_redex, b_first_redex, G_first_redex⟩ := D1
  refine F.ok sc_next_redex (fun vs H Q E h => ?_) (fun cdv A outer s H vs Q E hr h => ?_)
  · obtain ⟨a, t, s0, rfl, _⟩ := h
    rfl
  · obtain ⟨a, t, i0, rfl, hS, hlen, hs0, q, x⟩ := h
    refine ⟨_, (pss_one (ps_ret (pe_call G_first_redex (hr.mono (by first | decide | omega)) (by rfl) g_first_redex kp_first_redex b_first_redex .nil pass0 (pa_cons (pv 0) (pa_cons (pe_callB (call_max2 rfl) (by rfl) T.n_max (by decide +kernel) (pa_cons (pe_op op_sub (pv 1) pe_int) (pa_cons pe_int pa_nil))) pa_nil))))), ?_⟩
    refine sl_of (σ2 := [some _, some _]) rfl ?_
    walk_at "st"
    walk_at "go"
    have e : (if (0 : Int) > (i0 : Int) - 1 then (0 : Int) else (i0 : Int) - 1) = ((i0 - 1 : Nat) : Int) := by
      split <;> omega
    refine ⟨_, _, rfl, ?_⟩
    walk_at "go"
    rw [e]
    exact ⟨a, t, i0 - 1, rfl, hS, hlen, by omega, q, x⟩
/-- the value that stands for the first redex -/
def Fst (u : Tm) (v : V) : Prop := (∃ i : Nat, v = .int (i : Int) ∧ i < u.enc.length ∧ redB u.enc i = true ∧ ∀ j, j < i → redB u.enc j = false) ∨ (v = .non ∧ ∀ j, j < u.enc.length → redB u.enc j = false)
theorem spNextF0 {K : PySem.W.Frag} {a : Addr} {t : Tm} {i0 : Nat} {H : Hp} {Q : VK} {E : XK} (hS : SqT K H a t.enc) (hlen : t.enc.length ≤ 2000000) (hi : i0 ≤ 2000000) (low : ∀ j, j + 1 < i0 → redB t.enc j = false) (q : ∀ v, Fst t v → Q v H) : spNextF K [.ref a, .int (i0 : Int)] H Q E :=
  ⟨a, t, i0, rfl, hS, hlen, hi, fun i _ hi hb hno => q _ (.inl ⟨i, rfl, hi, hb, fun j hj => by
    by_cases c : j + 1 < i0
    · exact low j c
    · exact hno j (by omega) hj⟩), fun hno => q _ (.inr ⟨rfl, fun j hj => by
    by_cases c : j + 1 < i0
    · exact low j c
    · exact hno j (by omega) hj⟩)⟩
def spNormal (K : PySem.W.Frag) (C1 C4 : Addr) : Sp := fun vs H Q E => ∃ (a : Addr) (t : Tm) (k : Nat), vs = [.ref a, .int (k : Int)] ∧ SqT K H a t.enc ∧ t.enc.length ≤ 3000 ∧ fitsV t.enc = true ∧ k ≤ 3000000 ∧
  (∀ road u, Tm.nf k t = (road, .done u) → ∀ H' p x, Ex H H' → SqT K H' p [.ref x, .int (road.length : Int)] → SqT K H' x u.enc → Q (.ref p) H') ∧
  (∀ road, Tm.nf k t = (road, .out) → ∀ H', Ex H H' → E (.ref C4) none H') ∧ (∀ road, Tm.nf k t = (road, .large) → ∀ H', Ex H H' → E (.ref C1) none H')
def spRepN (K : PySem.W.Frag) (mg : Str → Option Value) (C1 C4 : Addr) : Sp := fun vs H Q E => ∃ (a : Addr) (t : Tm) (k : Nat) (f1 f2 : Addr), vs = [.ref a, .int (k : Int), .ref f1, .ref f2] ∧ mg "next_redex" = some (.ref f1) ∧ mg "stepped" = some (.ref f2) ∧ SqT K H a t.enc ∧ t.enc.length ≤ 3000 ∧ fitsV t.enc = true ∧ k ≤ 3000000 ∧
  (∀ road u, Tm.nf k t = (road, .done u) → ∀ H' p x, Ex H H' → SqT K H' p [.ref x, .int (road.length : Int)] → SqT K H' x u.enc → Q (.ref p) H') ∧
  (∀ road, Tm.nf k t = (road, .out) → ∀ H', Ex H H' → E (.ref C4) none H') ∧ (∀ road, Tm.nf k t = (road, .large) → ∀ H', Ex H H' → E (.ref C1) none H')
theorem w_callL {i : Nat} {f : Addr} {sp : Sp} {dvs : List V} {E : XK} {σ : L2.St} {H : Hp} {Q : VK} {tA : TA} (h0 : σ[i]? = some (some (.ref f))) (h : tA σ H fun vs H1 => sp (vs ++ dvs) H1 Q E) : tCallL i f sp dvs E tA σ H Q := ⟨h0, h⟩
local macro_rules | `(tactic| walk_at "go1") => `(tactic| ((with_reducible refine' w_callL ?hi ?_); (case hi => exact rfl)))
theorem ok_repeated {f : Addr} {fd : FuncData} (F : Fun K "repeated" "repeated" s_repeated f fd) (T : Txt w K mg tk cl)
    (D2 : Def P w K mg base (L2.CX P w) 4 "stepped" ["term", "at"] (spStepped K (cl 1))) (D3 : Def P w K mg base CX0 3 "next_redex" ["term", "at"] (spNextF K))
    (D4 : Def P w K mg base (L2.CX P w) 2 "checked" ["term"] (spChecked K (cl 1))) : FnOk P w K mg base (L2.CX P w) 6 f fd ["term", "steps", "next_at", "step_at"] (spRepN K mg (cl 1) (cl 4)) := by
  obtain ⟨f2, fd2, g_stepped, kp_stepped, b_stepped, G_stepped⟩ := D2
  obtain ⟨f3, fd3, g_next_redex, kp_next_redex, b_next_redex, G_next_redex⟩ := D3
  obtain ⟨f4, fd4, g_checked, kp_checked, b_checked, G_checked⟩ := D4
  refine F.okX sc_repeated (fun vs H Q E h => ?_) (fun cdv A outer s H vs Q E hr h => ?_)
  · obtain ⟨a, t, k, x1, x2, rfl, _⟩ := h
    rfl
  · obtain ⟨a, t, k, x1, x2, rfl, m1, m2, hS, hlen, hfit, hk, qd, qo, ql⟩ := h
    obtain rfl : x1 = f3 := Value.ref.inj (Option.some.inj (m1.symm.trans g_next_redex))
    obtain rfl : x2 = f2 := Value.ref.inj (Option.some.inj (m2.symm.trans g_stepped))
    refine ⟨_, (pss_cons (ps_set (i := 4) sc_repeated.nd rfl (.inl rfl) pe_int) (pss_cons (ps_set (i := 5) sc_repeated.nd rfl (.inl rfl) (pe_callL (i := 2) G_next_redex (hr.mono (by first | decide | omega)) rfl (.inl rfl) kp_next_redex b_next_redex .nil pass0 (pa_cons (pv 0) (pa_cons pe_int pa_nil)))) (pss_cons (ps_while (passes_of rfl) (pt_cmpR op_notN (pv 5) pe_non (nomark _)) (pss_cons (ps_if (pt_cmpR op_ge (pv 4) (pv 1) (nomark _)) (pss_one (ps_raise rfl (takes_of rfl rfl rfl rfl) (SkE.pmk_own1 PySem.F.excBase_ValueError T.x_OutOfSteps T.g_OutOfSteps T.k_OutOfSteps (raises_own T.b_OutOfSteps T.t_OutOfSteps) rfl pe_str))) pss_nil) (pss_cons (ps_set (i := 0) sc_repeated.nd rfl (.inl rfl) (pe_callL (i := 3) G_stepped (hr.mono (by first | decide | omega)) rfl (.inl rfl) kp_stepped b_stepped .nil (passes_call (takes_of rfl rfl rfl rfl) (fun _ _ _ _ h => h)) (pa_cons (pv 0) (pa_cons (pv 5) pa_nil)))) (pss_cons (ps_aug (i := 4) sc_repeated.nd rfl (.inl rfl) pe_int ip_add) (pss_one (ps_set (i := 5) sc_repeated.nd rfl (.inl rfl) (pe_callL (i := 2) G_next_redex (hr.mono (by first | decide | omega)) rfl (.inl rfl) kp_next_redex b_next_redex .nil pass0 (pa_cons (pv 0) (pa_cons (pv 5) pa_nil))))))))) (pss_one (ps_ret (pe_tup (pa_cons (pe_call G_checked (hr.mono (by first | decide | omega)) (by rfl) g_checked kp_checked b_checked .nil (passes_call (takes_of rfl rfl rfl rfl) (fun _ _ _ _ h => h)) (pa_cons (pv 0) pa_nil)) (pa_cons (pv 4) pa_nil)))))))), ?_⟩
    refine sl_of (σ2 := [some _, some _, some _, some _, none, none]) rfl ?_
    walk_at "st"
    walk_at "go"
    refine spNextF0 (i0 := 0) hS (by omega) (by omega) (fun j hj => by omega) fun v0 hv0 => ?_
    walk_at "go"
    refine w_while (fun m σ H' => ∃ (x : Addr) (u : Tm) (n : Nat) (road : List (List Nat)) (v : V), σ = [some (.ref x), some (.int (k : Int)), some (.ref x1), some (.ref x2), some (.int (n : Int)), some v] ∧ Ex H H' ∧ SqT K H' x u.enc ∧ u.enc.length ≤ 3000 ∧ fitsV u.enc = true ∧ n = road.length ∧ n ≤ k ∧ Tm.nf k t = preW road (Tm.nf (k - n) u) ∧ m = k - n ∧ Fst u v) k
      ⟨a, t, 0, [], v0, rfl, Ex.refl H, hS, hlen, hfit, rfl, Nat.zero_le _, rfl, rfl, hv0⟩ ?_
    rintro m σ H1 ⟨x, u, n, road, v, rfl, e1, hx, hul, huf, hn, hnk, hnf, rfl, hv⟩
    rcases hv with ⟨i, rfl, hi, hb, hno⟩ | ⟨rfl, hno⟩
    · obtain ⟨p, r, b, c, hp, hrs, hred⟩ := Tm.first_red hi hb hno
      walk_at "go"
      refine ⟨fun σ' H' => ∃ (x : Addr) (u : Tm) (n' : Nat) (road : List (List Nat)) (v : V), σ' = [some (.ref x), some (.int (k : Int)), some (.ref x1), some (.ref x2), some (.int (n' : Int)), some v] ∧ Ex H H' ∧ SqT K H' x u.enc ∧ u.enc.length ≤ 3000 ∧ fitsV u.enc = true ∧ n' = road.length ∧ n' ≤ k ∧ Tm.nf k t = preW road (Tm.nf (k - n') u) ∧ n' = n + 1 ∧ Fst u v,
        fun σ' H' ⟨x, u, n', road, v, h1, h2, h3, h4, h5, h6, h7, h8, h9, h10⟩ => ⟨k - n', by omega, x, u, n', road, v, h1, h2, h3, h4, h5, h6, h7, h8, rfl, h10⟩, ?_⟩
      walk_at "go"
      refine w_br (fun c1 => ?_) (fun c1 => ?_)
      · have e0 : k - n = 0 := by omega
        rw [e0, Tm.nf_zero hrs] at hnf
        walk_at "go"
        exact qo _ hnf _ e1
      · have e0 : k - n = (k - (n + 1)) + 1 := by omega
        rw [e0] at hnf
        walk_at "go"
        refine ⟨x, u, p, i, b, c, rfl, hx, hred, hul, fun hf H2 x2 e2 hx2 => ?_, fun hf H2 e2 => ?_⟩
        · rw [Tm.nf_step hrs hf, preW_app] at hnf
          have hl2 := fits_len hf
          walk_at "go"
          refine spNextF0 hx2 (by omega) (by omega) (fun j hj => by rw [Tm.step_low hred hj]; exact hno j (by omega)) fun v2 hv2 => ?_
          walk_at "go"
          exact ⟨x2, u.step p, n + 1, road ++ [p], v2, by simp, e1.trans e2, hx2, by omega, hf, by simp [hn], by omega, hnf, rfl, hv2⟩
        · rw [Tm.nf_large hrs hf] at hnf
          exact ql _ hnf _ (e1.trans e2)
    · rw [Tm.nf_none (Tm.no_reds hno)] at hnf
      have hnf2 : Tm.nf k t = (road, .done u) := by rw [hnf]; simp [preW]
      walk_at "go"
      refine ⟨x, u.enc, rfl, hx, u.flat, fun _ => ?_, fun z => by rw [huf] at z; cases z⟩
      walk_at "go"
      intro pt hpt
      walk_at "go"
      rw [hn]
      exact qd road u hnf2 _ pt x (e1.trans (Ex.new hpt)) (SqT.of upd_same) (ex_t (Ex.new hpt) hx)
theorem ok_normal {f : Addr} {fd : FuncData} (F : Fun K "normal" "normal" s_normal f fd) (T : Txt w K mg tk cl)
    (D1 : Def P w K mg base (L2.CX P w) 6 "repeated" ["term", "steps", "next_at", "step_at"] (spRepN K mg (cl 1) (cl 4)))
    (D2 : Def P w K mg base (L2.CX P w) 4 "stepped" ["term", "at"] (spStepped K (cl 1))) (D3 : Def P w K mg base CX0 3 "next_redex" ["term", "at"] (spNextF K)) : FnOk P w K mg base (L2.CX P w) 7 f fd ["term", "steps"] (spNormal K (cl 1) (cl 4)) := by
  obtain ⟨f1, fd1, g_repeated, kp_repeated, b_repeated, G_repeated⟩ := D1
  obtain ⟨f2, fd2, g_stepped, kp_stepped, b_stepped, G_stepped⟩ := D2
  obtain ⟨f3, fd3, g_next_redex, kp_next_redex, b_next_redex, G_next_redex⟩ := D3
  refine F.okX sc_normal (fun vs H Q E h => ?_) (fun cdv A outer s H vs Q E hr h => ?_)
  · obtain ⟨a, t, k, rfl, _⟩ := h
    rfl
  · obtain ⟨a, t, k, rfl, hS, hlen, hfit, hk, qd, qo, ql⟩ := h
    refine ⟨_, (pss_one (ps_ret (pe_call G_repeated (hr.mono (by first | decide | omega)) (by rfl) g_repeated kp_repeated b_repeated .nil (passes_call (takes_of rfl rfl rfl rfl) (fun _ _ _ _ h => h)) (pa_cons (pv 0) (pa_cons (pv 1) (pa_cons (pe_glob (v := .ref _) (by rfl) g_next_redex (by rfl)) (pa_cons (pe_glob (v := .ref _) (by rfl) g_stepped (by rfl)) pa_nil))))))), ?_⟩
    refine sl_of (σ2 := [some _, some _]) rfl ?_
    walk_at "st"
    walk_at "go"
    exact ⟨a, t, k, f3, f2, rfl, g_next_redex, g_stepped, hS, hlen, hfit, hk, qd, qo, ql⟩
end
end Ly
set_option Elab.async false
set_option linter.all false
set_option maxRecDepth 100000
set_option maxHeartbeats 8000000
namespace Ly
open PySem PySem.Spec PyProof.Rows L2 Evl
local macro_rules | `(tactic| walk_at "ne") => `(tactic| first
  | assumption
  | ((refine' Ne.symm ?hq); (case hq => assumption))
  | ((refine' ne_of_none ?nh1 ?nh2); (case nh2 => assumption); (case nh1 => walk_at "hp"))
  | ((refine' Ne.symm (ne_of_none ?nh1 ?nh2)); (case nh2 => assumption); (case nh1 => walk_at "hp")))
local macro_rules | `(tactic| walk_at "hp") => `(tactic| first
  | assumption
  | exact upd_same
  | ((refine' SqL.of ?hq); (case hq => walk_at "hp"))
  | ((refine' SqT.of ?hq); (case hq => walk_at "hp"))
  | ((refine' (upd_ne ?hne).trans ?hrest); (case hne => walk_at "ne"); (case hrest => walk_at "hp"))
  | ((refine' ly_at ?hex ?hh); (case hex => assumption); (case hh => walk_at "hp"))
  | ((refine' ly_atF ?hex ?hnn ?hh); (case hex => assumption); (case hh => walk_at "hp"); (case hnn => walk_at "ne"))
  | ((refine' ex_t ?hex ?hh); (case hh => assumption); (case hex => walk_at "ex"))
  | ((refine' ex_l ?hex ?hh); (case hh => assumption); (case hex => walk_at "ex")))
local macro_rules | `(tactic| walk_at "ex") => `(tactic| first
  | assumption
  | exact Ex.refl _
  | ((refine' ex_new ?xa ?xb); (case xb => assumption); (case xa => walk_at "ex"))
  | ((refine' ex_upd ?xa ?xb); (case xb => walk_at "free"); (case xa => walk_at "ex"))
  | ((refine' Ex.trans ?xa ?xb); (case xb => assumption); (case xa => walk_at "ex")))
local macro_rules | `(tactic| walk_at "free") => `(tactic| first
  | assumption
  | ((refine' fresh_back ?xa ?xb); (case xb => assumption); (case xa => walk_at "ex")))
local macro_rules | `(tactic| walk_at "fr") => `(tactic| first
  | assumption
  | exact Fr.refl _ _
  | ((refine' Fr.own ?hq); (case hq => walk_at "fr"))
  | ((refine' Fr.new ?xa ?xb); (case xb => assumption); (case xa => walk_at "fr"))
  | ((refine' Fr.mut ?xa ?xb); (case xb => assumption); (case xa => walk_at "fr"))
  | ((refine' Fr.trans ?xa ?xb); (case xb => assumption); (case xa => walk_at "fr"))
  | ((refine' Fr.trans ?xa (Fr.ex ?xb)); (case xb => assumption); (case xa => walk_at "fr")))
local macro_rules | `(tactic| walk_at "go1") => `(tactic| first
  | (with_reducible refine' w_seq ?_)
  | (with_reducible refine' w_asg ?_)
  | (with_reducible refine' w_ret ?_)
  | (with_reducible refine' w_drop ?_)
  | (with_reducible refine' w_if ?_)
  | (with_reducible refine' w_next ?_)
  | (with_reducible refine' w_name ?_)
  | (with_reducible refine' w_sub ?_)
  | ((with_reducible refine' w_var ?hv ?_); (case hv => exact rfl))
  | (with_reducible refine' w_c ?_)
  | (with_reducible refine' w_op ?_)
  | (with_reducible refine' w_un ?_)
  | (with_reducible refine' w_ch ?_)
  | (with_reducible refine' w_I0 ?_)
  | ((with_reducible refine' w_I ?hc ?_); (case hc => first | (exact ly_mulL (by decide) (by decide)) | (exact ly_mulR (by decide) (by decide)) | (exact ly_mulL (by omega) (by omega)) | (show (_ : Int) ≠ 0; decide) | (show (_ : Int) ≠ 0; omega) | (exact ⟨by decide, by decide⟩) | (exact ⟨by omega, by omega⟩)))
  | (with_reducible refine' w_U ?_)
  | ((with_reducible refine' w_eq ?hs ?_); (case hs => exact rfl))
  | ((with_reducible refine' w_ne ?hs ?_); (case hs => exact rfl))
  | (with_reducible refine' w_isB ?_)
  | (with_reducible refine' w_notB ?_)
  | (with_reducible refine' w_nil ?_)
  | (with_reducible refine' w_cons ?_)
  | (with_reducible refine' w_tup ?_)
  | (with_reducible refine' w_lst ?_)
  | (with_reducible refine' w_cb ?_)
  | (with_reducible refine' w_call ?_)
  | (with_reducible refine' w_bm ?_)
  | (with_reducible refine' w_bm0 ?_)
  | ((with_reducible refine' w_app ?hh ?hz ?_); (case hh => walk_at "hp"); (case hz => first | exact ly_lt (by omega) | exact ly_lt (by simp only [List.length_append, List.length_map, List.length_cons, List.length_nil]; omega)))
  | ((with_reducible refine' w_popA ?hh ?_); (case hh => walk_at "hp"))
  | ((with_reducible refine' w_ext ?hh ?hh2 ?hz ?_); (case hh => walk_at "hp"); (case hh2 => walk_at "hp"))
  | ((with_reducible refine' w_ixL ?hh ?ha ?_); (case hh => walk_at "hp"); (case ha => first | exact rfl | exact at_map (by omega) | exact atI_last _ _ | ((refine' at_of ?ae ?ah); (case ah => assumption); (case ae => omega))))
  | ((with_reducible refine' w_ixT ?hh ?ha ?_); (case hh => walk_at "hp"); (case ha => first | exact rfl | exact at_map (by omega) | exact atI_last _ _ | ((refine' at_of ?ae ?ah); (case ah => assumption); (case ae => omega))))
  | ((with_reducible refine' w_cat ?hh ?hh2 ?hz ?_); (case hh => walk_at "hp"); (case hh2 => walk_at "hp"))
  | ((with_reducible refine' w_setL ?hh ?ha ?_); (case hh => walk_at "hp"); (case ha => exact rfl))
  | (with_reducible refine' w_test ?_)
  | (with_reducible refine' w_tB ?_)
  | (with_reducible refine' w_bl ?_)
  | (with_reducible refine' w_and ?_)
  | (with_reducible refine' w_or ?_)
  | (with_reducible refine' w_not ?_)
  | (with_reducible refine' w_andV ?_)
  | (with_reducible refine' w_orV ?_)
  | (with_reducible refine' w_notV ?_)
  | (with_reducible refine' w_ifE ?_)
  | (with_reducible refine' w_for ?_)
  | ((with_reducible refine' w_nin ?hh ?_); (case hh => walk_at "hp"))
  | ((with_reducible refine' w_sorted ?hh ?_); (case hh => walk_at "hp"))
  | (with_reducible refine' w_tsadd ?_)
  | ((with_reducible refine' w_tsadd1 ?hh ?_); (case hh => walk_at "hp"))
  | ((with_reducible refine' w_sadd ?hh ?hr ?_); (case hh => walk_at "hp"); (case hr => omega))
  | (with_reducible refine' w_iZ ?_)
  | ((with_reducible refine' w_iZ1 ?hh ?hh2 ?_); (case hh => walk_at "hp"); (case hh2 => walk_at "hp"))
  | (with_reducible refine' w_iS ?_)
  | (with_reducible refine' w_iS1 ?_)
  | ((with_reducible refine' w_gtup ?hh ?hn ?_); (case hh => walk_at "hp"); (case hn => exact rfl))
  | (with_reducible refine' w_gcons ?_)
  | (with_reducible refine' w_gnil ?_)
  | (with_reducible refine' w_js ?_)
  | (with_reducible refine' w_jsn ?_)
  | ((with_reducible refine' w_js1 ?hl ?_); (case hl => decide +kernel))
  | (with_reducible refine' w_fmt ?_)
  | ((with_reducible refine' w_fmt1 ?hl ?_); (case hl => decide +kernel))
  | (with_reducible refine' w_callS ?_)
  | ((with_reducible refine' w_truL ?hh ?_); (case hh => walk_at "hp"))
  | (with_reducible refine' w_lc ?_)
  | (with_reducible refine' w_yes ?_)
  | ((with_reducible refine' w_wipe ?he ?_); (case he => exact rfl))
  | (with_reducible refine' w_iL ?_)
  | (with_reducible refine' w_iT ?_)
  | (with_reducible refine' w_iR ?_)
  | ((with_reducible refine' w_iL1 ?hh ?_); (case hh => walk_at "hp"))
  | ((with_reducible refine' w_iT1 ?hh ?_); (case hh => walk_at "hp"))
  | ((with_reducible refine' w_iR1 ?h1 ?h2 ?_); (case h1 => omega); (case h2 => omega))
  | ((with_reducible refine' w_aug ?hv ?_); (case hv => exact rfl))
  | (with_reducible refine' w_ipI ?_)
  | ((with_reducible refine' w_isi ?hy ?hk ?_); (case hy => walk_at "ty"); (case hk => walk_at "kit"))
  | ((with_reducible refine' w_int ?_))
  | ((with_reducible refine' w_intB ?_))
  | ((with_reducible refine' w_abs ?_))
  | ((with_reducible refine' w_lenL ?hh ?_); (case hh => walk_at "hp"))
  | ((with_reducible refine' w_lenT ?hh ?_); (case hh => walk_at "hp"))
  | ((with_reducible refine' w_tupL ?hh ?_); (case hh => walk_at "hp"))
  | ((with_reducible refine' w_tupT ?hh ?_); (case hh => walk_at "hp"))
  | ((with_reducible refine' w_catA ?hh ?hh2 ?hz ?_); (case hh => walk_at "hp"); (case hh2 => walk_at "hp"); (case hz => walk_at "len"))
  | ((with_reducible refine' w_repB ?hh ?hne ?h2 ?h3 ?hz ?_); (case hh => walk_at "hp"); (case hne => simp); (case h2 => omega); (case h3 => omega); (case hz => exact Nat.le_of_ble_eq_true rfl))
  | ((with_reducible refine' w_eqN ?hh ?hh2 ?n1 ?n2 ?_); (case hh => walk_at "hp"); (case hh2 => walk_at "hp"); (case n1 => walk_at "nd"); (case n2 => walk_at "nd"))
  | ((with_reducible refine' w_neN ?hh ?hh2 ?n1 ?n2 ?_); (case hh => walk_at "hp"); (case hh2 => walk_at "hp"); (case n1 => walk_at "nd"); (case n2 => walk_at "nd"))
  | ((with_reducible refine' w_eqL ?hh ?hh2 ?n1 ?n2 ?_); (case hh => walk_at "hp"); (case hh2 => walk_at "hp"); (case n1 => walk_at "nd"); (case n2 => walk_at "nd"))
  | ((with_reducible refine' w_neL ?hh ?hh2 ?n1 ?n2 ?_); (case hh => walk_at "hp"); (case hh2 => walk_at "hp"); (case n1 => walk_at "nd"); (case n2 => walk_at "nd"))
  | ((with_reducible refine' w_neNon ?hh2 ?n2 ?_); (case hh2 => walk_at "hp"); (case n2 => walk_at "nd"))
  | ((with_reducible refine' w_eqNon ?hh2 ?n2 ?_); (case hh2 => walk_at "hp"); (case n2 => walk_at "nd"))
  | ((with_reducible refine' w_slA ?hh ?_); (case hh => walk_at "hp"))
  | ((with_reducible refine' w_disp ?hz ?_); (case hz => exact sz_of (Nat.le_of_ble_eq_true rfl)))
  | ((with_reducible refine' w_tyL ?hh ?_); (case hh => walk_at "hp"))
  | (with_reducible refine' iteT ?_)
  | (with_reducible refine' iteF ?_)
  | (with_reducible refine' w_nT ?_)
  | (with_reducible refine' w_nn ?_)
  | (with_reducible refine' w_nnT ?_)
  | (with_reducible refine' w_nnR ?_)
  | (with_reducible refine' w_neG ?_)
  | (with_reducible refine' w_eqG ?_)
  | (with_reducible refine' w_neS ?_)
  | (with_reducible refine' w_eqS ?_)
  | (with_reducible refine' w_neSb ?_)
  | (with_reducible refine' w_eqSb ?_)
  | (with_reducible refine' w_deIS ?_)
  | (with_reducible refine' w_deSI ?_)
  | (with_reducible refine' w_deISn ?_)
  | ((with_reducible refine' w_deST ?he ?_); (case he => decide +kernel))
  | ((with_reducible refine' w_deSF ?he ?_); (case he => decide +kernel))
  | ((with_reducible refine' w_deSTn ?he ?_); (case he => decide +kernel))
  | ((with_reducible refine' w_deSFn ?he ?_); (case he => decide +kernel))
  | (with_reducible refine' w_nF ?_)
  | dsimp only [Bool.not_true, Bool.not_false])
local macro_rules | `(tactic| walk_at "ty") => `(tactic| first
  | exact .base (.int _) | exact .base (.str _) | exact .base (.bl _) | exact .base .non
  | ((refine' tyx_t ?hq); (case hq => walk_at "hp")) | ((refine' tyx_l ?hq); (case hq => walk_at "hp")) | ((refine' .base (.tup ?hq)); (case hq => walk_at "hp")) | assumption)
local macro_rules | `(tactic| walk_at "go") => `(tactic| repeat walk_at "go1")
local macro_rules | `(tactic| walk_at "st") => `(tactic| try dsimp only [cxOf, Cx.nox, Cx.wish])
local macro_rules | `(tactic| walk_at "kit") => `(tactic| with_reducible first | exact kit_int_int | exact kit_int_str | exact kit_int_bool | exact kit_int_tuple | exact kit_int_list | exact kit_str_int | exact kit_str_str | exact kit_str_bool | exact kit_str_tuple | exact kit_str_list | exact kit_bool_int | exact kit_bool_str | exact kit_bool_bool | exact kit_bool_tuple | exact kit_bool_list | exact kit_NoneType_int | exact kit_NoneType_str | exact kit_NoneType_bool | exact kit_NoneType_tuple | exact kit_NoneType_list | exact kit_list_int | exact kit_list_str | exact kit_list_bool | exact kit_list_tuple | exact kit_list_list | exact kit_tuple_int | exact kit_tuple_str | exact kit_tuple_bool | exact kit_tuple_tuple | exact kit_tuple_list)
local macro_rules | `(tactic| walk_at "nd") => `(tactic| first
  | assumption
  | exact Tm.nds _
  | exact Nds.nil
  | exact Nds.ofInts _
  | ((refine' Nds.cons ?na ?nb); (case na => first | exact Nds.I _ | exact Nds.L | exact Nds.A); (case nb => walk_at "nd"))
  | ((refine' Nds.app ?na ?nb); (case na => walk_at "nd"); (case nb => walk_at "nd"))
  | ((refine' Nds.rep ?na _); (case na => walk_at "nd")))
local macro_rules | `(tactic| walk_at "len") => `(tactic| first
  | exact ly_sz (by omega)
  | ((simp only [List.length_append, List.length_cons, List.length_nil, List.length_map, PyProof.Rows.lm_len_rep_flat]); exact ly_sz (by omega)))
local macro_rules | `(tactic| walk_at "go1") => `(tactic| first
  | (with_reducible refine' w_kget2 ?_)
  | (with_reducible refine' w_isRN ?_)
  | (with_reducible refine' w_isNN ?_)
  | (with_reducible refine' w_isIN ?_)
  | ((with_reducible refine' w_kg ?hd ?_); (case hd => assumption)))
local macro_rules | `(tactic| walk_at "go1") => `(tactic| first
  | ((with_reducible refine' w_extT ?hh ?hh2 ?hz ?_); (case hh => walk_at "hp"); (case hh2 => walk_at "hp"))
  | ((with_reducible refine' w_I ?hc ?_); (case hc => exact ⟨by decide, by decide, by decide⟩))
  | (with_reducible refine' w_sl ?_)
  | (with_reducible refine' w_noP ?_)
  | (with_reducible refine' w_part ?_)
  | (with_reducible refine' w_part1 ?_)
  | (with_reducible refine' w_it ?_)
  | (with_reducible refine' w_it1 ?_)
  | ((with_reducible refine' w_lenZ ?hz ?_); (case hz => omega))
  | ((with_reducible refine' w_addZb ?hz ?_); (case hz => omega))
  | ((with_reducible refine' w_addZf ?hz ?_); (case hz => omega))
  | ((with_reducible refine' w_addZa ?hz ?_); (case hz => omega))
  | ((with_reducible refine' w_inS ?hh ?_); (case hh => walk_at "hp"))
  | ((with_reducible refine' w_ixT ?hh ?ha ?_); (case hh => assumption); (case ha => exact atI_nat (by assumption))))
section
variable {P : Program} {w : World} {K : PySem.W.Frag} {mg : Str → Option Value} {base : Heap} {tk : Nat → Tok} {cl : Nat → Addr}
local macro_rules | `(tactic| walk_at "go1") => `(tactic| first
  | (with_reducible refine' w_iE ?_)
  | ((with_reducible refine' w_iE1 ?hh ?_); (case hh => walk_at "hp"))
  | (with_reducible refine' w_lstRg ?_)
  | (with_reducible refine' w_rg1 ?_)
  | (with_reducible refine' w_rg2 ?_)
  | (with_reducible refine' w_rg1a ?_)
  | (with_reducible refine' w_rg2a ?_)
  | (with_reducible refine' w_make ?_)
  | (with_reducible refine' w_sfld ?_)
  | (with_reducible refine' w_tfld ?_)
  | ((with_reducible refine' w_ext ?hh ?hh2 ?hz ?_); (case hh => walk_at "hp"); (case hh2 => walk_at "hp"); (case hz => exact ly_sz (by omega))))
def spPutO (K : PySem.W.Frag) : Sp := fun vs H Q _ => ∃ (a b : Addr) (t u : Tm), vs = [.ref a, .ref b] ∧ SqT K H a t.enc ∧ SqT K H b u.enc ∧ t.enc.length ≤ 3000 ∧ u.enc.length ≤ 3000 ∧
  ∀ H' p, Ex H H' → H p = none → H' p = some (.lst (nums (pO (List.range' t.enc.length u.enc.length) t.enc (t.deps 0) (List.range' 0 t.enc.length)))) → Q (.ref p) H'
theorem pO_take {O2 : List Nat} : ∀ {ws : List V} {ds os : List Nat} {i : Nat} {x : V} {d o : Nat}, ws[i]? = some x → ds[i]? = some d → os[i]? = some o → pO O2 (ws.take (i + 1)) (ds.take (i + 1)) (os.take (i + 1)) = pO O2 (ws.take i) (ds.take i) (os.take i) ++ (if x = .int (d : Int) then O2 else [o])
  | [], _, _, _, _, _, _, h, _, _ => by simp at h
  | _ :: _, [], _, _, _, _, _, _, h, _ => by simp at h
  | _ :: _, _ :: _, [], _, _, _, _, _, _, h => by simp at h
  | w :: ws, d0 :: ds, o0 :: os, 0, x, d, o, h1, h2, h3 => by
    simp at h1 h2 h3
    subst h1 h2 h3
    simp [pO]
  | w :: ws, d0 :: ds, o0 :: os, i + 1, x, d, o, h1, h2, h3 => by
    have ih := pO_take (O2 := O2) (ws := ws) (ds := ds) (os := os) (i := i) (x := x) (d := d) (o := o) (by simpa using h1) (by simpa using h2) (by simpa using h3)
    rw [List.take_succ_cons, List.take_succ_cons, List.take_succ_cons, List.take_succ_cons, List.take_succ_cons, List.take_succ_cons]
    simp only [pO, ih, List.append_assoc]
theorem pO_most {O2 : List Nat} : ∀ {ws : List V} {ds os : List Nat}, (pO O2 ws ds os).length ≤ ws.length * (O2.length + 1)
  | [], _, _ => by simp [pO]
  | _ :: _, [], _ => by simp [pO]
  | _ :: _, _ :: _, [] => by simp [pO]
  | w :: ws, d :: ds, o :: os => by
    have ih := pO_most (O2 := O2) (ws := ws) (ds := ds) (os := os)
    simp only [pO, List.length_append, List.length_cons, Nat.succ_mul]
    split
    · omega
    · simp only [List.length_singleton]
      omega
theorem ok_puto {f : Addr} {fd : FuncData} (F : Fun K "put_origins" "put_origins" s_put_origins f fd) (T : Txt w K mg tk cl)
    (D1 : Def P w K mg base CX0 1 "depths" ["term"] (spDepths K)) : FnOk P w K mg base CX0 2 f fd ["term", "value"] (spPutO K) := by
  obtain ⟨f1, fd1, g_depths, kp_depths, b_depths, G_depths⟩ := D1
  refine F.ok sc_put_origins (fun vs H Q E h => ?_) (fun cdv A outer s H vs Q E hr h => ?_)
  · obtain ⟨_, _, _, _, rfl, _⟩ := h
    rfl
  · obtain ⟨a, b, t, u, rfl, hS, hU, hlen, hul, q⟩ := h
    refine ⟨_, (pss_cons (ps_set (i := 2) sc_put_origins.nd rfl (.inl rfl) (pe_listRg rfl (by rfl) T.n_list (prg_2 (by rfl) T.n_range (pe_callB call_len_seq (by rfl) T.n_len (by decide +kernel) (pa_cons (pv 0) pa_nil)) (pe_op op_add (pe_callB call_len_seq (by rfl) T.n_len (by decide +kernel) (pa_cons (pv 0) pa_nil)) (pe_callB call_len_seq (by rfl) T.n_len (by decide +kernel) (pa_cons (pv 1) pa_nil)))))) (pss_cons (ps_set (i := 3) sc_put_origins.nd rfl (.inl rfl) (pe_lst pa_nil)) (pss_cons (ps_for PassesOwn.never rfl (pi_enum (by rfl) T.n_enumerate (pa_cons (pe_call G_depths (hr.mono (by first | decide | omega)) (by rfl) g_depths kp_depths b_depths .nil pass0 (pa_cons (pv 0) pa_nil)) pa_nil)) (pg_tup (by rfl) (pgs_cons (pg_name (i := 4) sc_put_origins.nd rfl (.inl rfl)) (pgs_cons (pg_name (i := 5) sc_put_origins.nd rfl (.inl rfl)) pgs_nil))) (pss_one (ps_if (pt_cmpR op_eq (pe_ix ix_tup (pv 0) (pv 4) (fun _ _ => rfl)) (pv 5) (nomark _)) (pss_one (ps_expr (pe_bm PySem.F.plainAttrs_list PySem.F.slot_list_extend PySem.F.type_list_extend mt_extend (pv 3) (pa_cons (pv 2) pa_nil)))) (pss_one (ps_expr (pe_bm PySem.F.plainAttrs_list PySem.F.slot_list_append PySem.F.type_list_append mt_append (pv 3) (pa_cons (pv 4) pa_nil))))))) (pss_one (ps_ret (pv 3)))))), ?_⟩
    refine sl_of (σ2 := [some _, some _, none, none, none, none]) rfl ?_
    walk_at "st"
    walk_at "go"
    refine ⟨RgOk.of_le (by omega) (by omega) (by omega) (by omega), fun ol hol => ?_⟩
    have er : rgV (t.enc.length : Int) ((t.enc.length : Int) + (u.enc.length : Int)) = nums (List.range' t.enc.length u.enc.length) := by
      rw [← Int.natCast_add, rgV_nat, Nat.add_sub_cancel_left]
    rw [er]
    have hS1 := ex_t (Ex.new hol (o := .lst (nums (List.range' t.enc.length u.enc.length)))) hS
    have e1 : Ex H (upd H ol (.lst (nums (List.range' t.enc.length u.enc.length)))) := Ex.new hol
    have ho1 : upd H ol (.lst (nums (List.range' t.enc.length u.enc.length))) ol = some (.lst (nums (List.range' t.enc.length u.enc.length))) := upd_same
    generalize upd H ol (.lst (nums (List.range' t.enc.length u.enc.length))) = H1 at *
    walk_at "go"
    intro fl hfl
    have hof : ol ≠ fl := ne_of_none ho1 hfl
    have hfl0 : H fl = none := fresh_back e1 hfl
    have hS2 := ex_t (Ex.new hfl (o := .lst [])) hS1
    walk_at "go"
    refine ⟨a, t, rfl, hS2, by omega, fun H2 dl e2 hdl hd2 => ?_⟩
    have hf2 : H2 fl = some (.lst []) := e2 _ _ upd_same
    have e02 : Ex H H2 := (ex_new e1 hfl).trans e2
    have hS3 := ex_t e02 hS
    have ho2 : H2 ol = some (.lst (nums (List.range' t.enc.length u.enc.length))) := e2 _ _ (Ex.new hfl _ _ ho1)
    walk_at "go"
    refine for_enum (K := K) (a := dl) (xs := nums (t.deps 0)) (fun i σ H' => ∃ y1 y2, σ = [some (.ref a), some (.ref b), some (.ref ol), some (.ref fl), y1, y2] ∧ Ex H H' ∧ H' dl = some (.lst (nums (t.deps 0))) ∧ H' ol = some (.lst (nums (List.range' t.enc.length u.enc.length))) ∧
        H' fl = some (.lst (nums (pO (List.range' t.enc.length u.enc.length) (t.enc.take i) ((t.deps 0).take i) ((List.range' 0 t.enc.length).take i)))))
      ⟨none, none, rfl, e02, hd2, ho2, by rw [hf2]; simp [pO]⟩ (fun i σ H' ⟨_, _, _, _, h, _⟩ => SqL.of h) ?_ ?_
    · rintro i x T0 σ H3 hi hT ⟨y1, y2, rfl, e3, hd3, ho3, hf3⟩
      obtain ⟨d, hd, rfl⟩ := nums_at hi
      have hil : i < t.enc.length := by
        have := (List.getElem?_eq_some_iff.mp hd).1
        rwa [t.deps_len] at this
      obtain ⟨w0, hw0⟩ : ∃ w0, t.enc[i]? = some w0 := ⟨_, List.getElem?_eq_getElem hil⟩
      have hr0 : (List.range' 0 t.enc.length)[i]? = some i := by rw [List.getElem?_range' hil]; simp
      have tk := pO_take (O2 := List.range' t.enc.length u.enc.length) hw0 hd hr0
      have most := pO_most (O2 := List.range' t.enc.length u.enc.length) (ws := t.enc.take i) (ds := (t.deps 0).take i) (os := (List.range' 0 t.enc.length).take i)
      rw [List.length_range', List.length_take] at most
      have m2 : (min i t.enc.length) * (u.enc.length + 1) ≤ 3000 * 3001 := Nat.mul_le_mul (by omega) (by omega)
      generalize pO (List.range' t.enc.length u.enc.length) (t.enc.take i) ((t.deps 0).take i) ((List.range' 0 t.enc.length).take i) = done at *
      have dll : (nums done).length = done.length := List.length_map _
      have oll : (nums (List.range' t.enc.length u.enc.length)).length = u.enc.length := by simp
      have hTf : T0 ≠ fl := (ne_of_none hf3 hT).symm
      have hTo : T0 ≠ ol := (ne_of_none ho3 hT).symm
      have hTd : T0 ≠ dl := (ne_of_none hd3 hT).symm
      have hS4 := ex_t (e3.trans (Ex.new hT (o := .tup [V.int (i : Int), V.int (d : Int)]))) hS
      have hf4 := Ex.new hT (o := .tup [V.int (i : Int), V.int (d : Int)]) _ _ hf3
      have ho4 := Ex.new hT (o := .tup [V.int (i : Int), V.int (d : Int)]) _ _ ho3
      have hd4 := Ex.new hT (o := .tup [V.int (i : Int), V.int (d : Int)]) _ _ hd3
      have e4 : Ex H (upd H3 T0 (.tup [V.int (i : Int), V.int (d : Int)])) := ex_new e3 hT
      walk_at "go"
      have fin1 : (if w0 = .int (d : Int) then List.range' t.enc.length u.enc.length else [i]) = [i] → upd (upd H3 T0 (.tup [V.int (i : Int), V.int (d : Int)])) fl (.lst (nums done ++ [V.int (i : Int)])) fl = some (.lst (nums (pO (List.range' t.enc.length u.enc.length) (t.enc.take (i + 1)) ((t.deps 0).take (i + 1)) ((List.range' 0 t.enc.length).take (i + 1))))) := fun h => by
        rw [upd_same, tk, h]
        simp [nums]
      rcases Tm.int_nat (List.mem_of_getElem? hw0) with ⟨m, rfl⟩ | rfl | rfl
      · walk_at "go"
        refine w_brI (fun c => ?_) (fun c => ?_)
        · walk_at "go"
          refine ⟨_, _, rfl, ex_upd e4 hfl0, by walk_at "hp", by walk_at "hp", ?_⟩
          rw [upd_same, tk, if_pos (by rw [c])]
          simp [nums]
        · walk_at "go"
          exact ⟨_, _, rfl, ex_upd e4 hfl0, by walk_at "hp", by walk_at "hp", fin1 (if_neg fun z => c (V.int.inj z))⟩
      · walk_at "go"
        exact ⟨_, _, rfl, ex_upd e4 hfl0, by walk_at "hp", by walk_at "hp", fin1 (if_neg (by simp))⟩
      · walk_at "go"
        exact ⟨_, _, rfl, ex_upd e4 hfl0, by walk_at "hp", by walk_at "hp", fin1 (if_neg (by simp))⟩
    · rintro σ H3 ⟨y1, y2, rfl, e3, hd3, ho3, hf3⟩
      have e9 : (nums (t.deps 0)).length = t.enc.length := by rw [List.length_map, t.deps_len]
      rw [e9, List.take_length, List.take_of_length_le (by rw [t.deps_len]; exact Nat.le_refl _), List.take_of_length_le (by simp)] at hf3
      walk_at "go"
      exact q H3 fl e3 hfl0 hf3
def spStepO (K : PySem.W.Frag) : Sp := fun vs H Q _ => ∃ (a : Addr) (t : Tm) (p : List Nat) (i : Nat) (b u : Tm), vs = [.ref a, .int (i : Int)] ∧ SqT K H a t.enc ∧ t.Red p i b u ∧ t.enc.length ≤ 3000 ∧ ∀ H' r, Ex H H' → H r = none → H' r = some (.lst (nums (stepO t i b u))) → Q (.ref r) H'
theorem ok_stepo {f : Addr} {fd : FuncData} (F : Fun K "step_origins" "step_origins" s_step_origins f fd) (T : Txt w K mg tk cl)
    (D1 : Def P w K mg base CX0 2 "end_of" ["term", "start"] (spEnd K)) (D2 : Def P w K mg base CX0 2 "put_origins" ["term", "value"] (spPutO K)) : FnOk P w K mg base CX0 3 f fd ["term", "at"] (spStepO K) := by
  obtain ⟨f1, fd1, g_end_of, kp_end_of, b_end_of, G_end_of⟩ := D1
  obtain ⟨f2, fd2, g_put_origins, kp_put_origins, b_put_origins, G_put_origins⟩ := D2
  refine F.ok sc_step_origins (fun vs H Q E h => ?_) (fun cdv A outer s H vs Q E hr h => ?_)
  · obtain ⟨_, _, _, _, _, _, rfl, _⟩ := h
    rfl
  · obtain ⟨a, t, p, i, b, u, rfl, hS, hred, hlen, q⟩ := h
    refine ⟨_, (pss_cons (ps_set (i := 2) sc_step_origins.nd rfl (.inl rfl) (pe_call G_end_of (hr.mono (by first | decide | omega)) (by rfl) g_end_of kp_end_of b_end_of .nil pass0 (pa_cons (pv 0) (pa_cons (pe_op op_add (pv 1) pe_int) pa_nil)))) (pss_cons (ps_set (i := 3) sc_step_origins.nd rfl (.inl rfl) (pe_call G_end_of (hr.mono (by first | decide | omega)) (by rfl) g_end_of kp_end_of b_end_of .nil pass0 (pa_cons (pv 0) (pa_cons (pv 2) pa_nil)))) (pss_cons (ps_set (i := 4) sc_step_origins.nd rfl (.inl rfl) (pe_listRg rfl (by rfl) T.n_list (prg_1 (by rfl) T.n_range (pv 1)))) (pss_cons (ps_for PassesOwn.never rfl (pi_list (pe_call G_put_origins (hr.mono (by first | decide | omega)) (by rfl) g_put_origins kp_put_origins b_put_origins .nil pass0 (pa_cons (pe_slice sl_tupA (pv 0) (po_some (pe_op op_add (pv 1) pe_int)) (po_some (pv 2))) (pa_cons (pe_slice sl_tupA (pv 0) (po_some (pv 2)) (po_some (pv 3))) pa_nil)))) (pg_name (i := 5) sc_step_origins.nd rfl (.inl rfl)) (pss_one (ps_expr (pe_bm PySem.F.plainAttrs_list PySem.F.slot_list_append PySem.F.type_list_append mt_append (pv 4) (pa_cons (pe_op op_add (pe_op op_add (pv 1) pe_int) (pv 5)) pa_nil))))) (pss_cons (ps_expr (pe_bm PySem.F.plainAttrs_list PySem.F.slot_list_extend PySem.F.type_list_extend mt_extend (pv 4) (pa_cons (pe_listRg rfl (by rfl) T.n_list (prg_2 (by rfl) T.n_range (pv 3) (pe_callB call_len_seq (by rfl) T.n_len (by decide +kernel) (pa_cons (pv 0) pa_nil)))) pa_nil))) (pss_one (ps_ret (pv 4)))))))), ?_⟩
    refine sl_of (σ2 := [some _, some _, none, none, none, none]) rfl ?_
    walk_at "st"
    walk_at "go"
    obtain ⟨post, hdr⟩ := Tm.red_at hred
    have lt := Tm.sub_lt hred
    have hal : (Tm.app (.lam b) u).enc.length = b.enc.length + u.enc.length + 2 := by
      simp only [Tm.enc, List.length_cons, List.length_append]
      omega
    rw [hal] at lt
    have hll : (Tm.lam b).enc.length = b.enc.length + 1 := rfl
    have d1 : t.enc.drop (i + 1) = (Tm.lam b).enc ++ (u.enc ++ post) := (at_drop hdr).2
    have d2 : t.enc.drop (i + 2) = b.enc ++ (u.enc ++ post) := (at_drop d1).2
    have d3 : t.enc.drop (i + 1 + (Tm.lam b).enc.length) = u.enc ++ post := by
      rw [← List.drop_drop, d1, List.drop_left]
    refine ⟨a, t.enc, i + 1, .lam b, _, rfl, hS, d1, by omega, ?_⟩
    walk_at "go"
    refine ⟨a, t.enc, i + 1 + (Tm.lam b).enc.length, u, _, rfl, hS, d3, by omega, ?_⟩
    walk_at "go"
    refine ⟨RgOk.of_le (by omega) (by omega) (by omega) (by omega), fun fl hfl => ?_⟩
    have er : rgV 0 (i : Int) = nums (List.range' 0 i) := by
      have := rgV_nat 0 i
      rw [Int.natCast_zero, Nat.sub_zero] at this
      exact this
    rw [er]
    have e1 : Ex H (upd H fl (.lst (nums (List.range' 0 i)))) := Ex.new hfl
    have hf1 : upd H fl (.lst (nums (List.range' 0 i))) fl = some (.lst (nums (List.range' 0 i))) := upd_same
    generalize upd H fl (.lst (nums (List.range' 0 i))) = H1 at *
    have hS1 := ex_t e1 hS
    walk_at "go"
    intro x2 H2 e2 hx2
    have c2 : cutV t.enc (some ((i : Int) + 2)) (some ((i + 1 + (Tm.lam b).enc.length : Nat) : Int)) = b.enc := by
      have h := cut_mid (i := i + 2) (u := b) d2
      have e : i + 1 + (Tm.lam b).enc.length = i + 2 + b.enc.length := by omega
      rw [e]
      exact h
    rw [c2] at hx2
    have hS2 := ex_t e2 hS1
    walk_at "go"
    intro x3 H3 e3 hx3
    have c3 : cutV t.enc (some ((i + 1 + (Tm.lam b).enc.length : Nat) : Int)) (some ((i + 1 + (Tm.lam b).enc.length + u.enc.length : Nat) : Int)) = u.enc := cut_mid d3
    rw [c3] at hx3
    have hx2 := ex_t e3 hx2
    have e23 := e2.trans e3
    walk_at "go"
    refine ⟨x2, x3, b, u, rfl, hx2, hx3, by omega, by omega, fun H4 ol e4 hol ho4 => ?_⟩
    have e14 := e1.trans (e23.trans e4)
    have hf4 := (e23.trans e4) _ _ hf1
    have hS4 := ex_t e14 hS
    walk_at "go"
    have emap : (pO (List.range' b.enc.length u.enc.length) b.enc (b.deps 0) (List.range' 0 b.enc.length)).map (fun o => i + 2 + o) = pO (List.range' (i + 2 + b.enc.length) u.enc.length) b.enc (b.deps 0) (List.range' (i + 2) b.enc.length) := by
      rw [pO_map]
      congr 1
      · apply List.ext_getElem
        · simp
        · intro k h1 h2
          simp
          omega
      · apply List.ext_getElem
        · simp
        · intro k h1 h2
          simp
    have most := pO_most (O2 := List.range' b.enc.length u.enc.length) (ws := b.enc) (ds := b.deps 0) (os := List.range' 0 b.enc.length)
    rw [List.length_range'] at most
    have m2 : b.enc.length * (u.enc.length + 1) ≤ 3000 * 3001 := Nat.mul_le_mul (by omega) (by omega)
    generalize hos : pO (List.range' b.enc.length u.enc.length) b.enc (b.deps 0) (List.range' 0 b.enc.length) = os at *
    refine for_list (K := K) (a := ol) (xs := nums os) (fun k σ H' => ∃ y, σ = [some (.ref a), some (.int (i : Int)), some (.int ((i + 1 + (Tm.lam b).enc.length : Nat) : Int)), some (.int ((i + 1 + (Tm.lam b).enc.length + u.enc.length : Nat) : Int)), some (.ref fl), y] ∧ Ex H H' ∧ H' ol = some (.lst (nums os)) ∧ H' fl = some (.lst (nums (List.range' 0 i ++ (os.take k).map fun o => i + 2 + o))))
      ⟨none, rfl, e14, ho4, by rw [hf4]; simp⟩ (fun k σ H' _ ⟨_, _, _, h, _⟩ => SqL.of h) ?_ ?_
    · rintro k x σ H5 hk ⟨y, rfl, e5, ho5, hf5⟩
      obtain ⟨o, ho, rfl⟩ := nums_at hk
      have hkl := (List.getElem?_eq_some_iff.mp ho).1
      have ll : (nums (List.range' 0 i ++ (os.take k).map fun o => i + 2 + o)).length ≤ 12000000 := by
        rw [List.length_map, List.length_append, List.length_range', List.length_map, List.length_take]
        omega
      have hof : fl ≠ ol := ne_of_none (e23 _ _ hf1) hol
      walk_at "go"
      refine ⟨_, rfl, ex_upd e5 hfl, by walk_at "hp", ?_⟩
      rw [upd_same, List.take_add_one, ho]
      simp [nums]
    · rintro σ H5 ⟨y, rfl, e5, ho5, hf5⟩
      rw [List.length_map, List.take_length, emap] at hf5
      have hS5 := ex_t e5 hS
      walk_at "go"
      refine ⟨RgOk.of_le (by omega) (by omega) (by omega) (by omega), fun rl hrl => ?_⟩
      have er2 : rgV ((i + 1 + (Tm.lam b).enc.length + u.enc.length : Nat) : Int) (t.enc.length : Int) = nums (List.range' (i + 2 + b.enc.length + u.enc.length) (t.enc.length - (i + 2 + b.enc.length + u.enc.length))) := by
        rw [rgV_nat]
        congr 2
        · omega
        · omega
      rw [er2]
      have hf6 := Ex.new hrl (o := .lst (nums (List.range' (i + 2 + b.enc.length + u.enc.length) (t.enc.length - (i + 2 + b.enc.length + u.enc.length))))) _ _ hf5
      have e6 : Ex H (upd H5 rl (.lst (nums (List.range' (i + 2 + b.enc.length + u.enc.length) (t.enc.length - (i + 2 + b.enc.length + u.enc.length)))))) := ex_new e5 hrl
      have l1 : (nums (List.range' 0 i ++ pO (List.range' (i + 2 + b.enc.length) u.enc.length) b.enc (b.deps 0) (List.range' (i + 2) b.enc.length))).length ≤ 10000000 := by
        rw [List.length_map, List.length_append, List.length_range', ← emap, List.length_map]
        omega
      have l2 : (nums (List.range' (i + 2 + b.enc.length + u.enc.length) (t.enc.length - (i + 2 + b.enc.length + u.enc.length)))).length ≤ 3000 := by
        rw [List.length_map, List.length_range']
        omega
      walk_at "go"
      refine q _ fl (ex_upd e6 hfl) hfl ?_
      rw [upd_same]
      simp [nums, stepO]
def spCopies (K : PySem.W.Frag) : Sp := fun vs H Q _ => ∃ (a : Addr) (os : List Nat) (r : Nat), vs = [.ref a, .int (r : Int)] ∧ H a = some (.lst (nums os)) ∧ os.length ≤ 10000000 ∧
  ∀ H' p js, Ex H H' → H p = none → H' p = some (.lst (nums js)) → (js = (List.range' 0 os.length).filter fun j => decide (os[j]? = some r)) → Q (.ref p) H'
theorem ok_copies {f : Addr} {fd : FuncData} {k : Nat} (F : Fun K "copies" "copies" s_copies f fd) (T : Txt w K mg tk cl) : FnOk P w K mg base CX0 (k + 1) f fd ["origins", "at"] (spCopies K) := by
  refine F.ok sc_copies (fun vs H Q E h => ?_) (fun cdv A outer s H vs Q E hr h => ?_)
  · obtain ⟨_, _, _, rfl, _⟩ := h
    rfl
  · obtain ⟨a, os, r, rfl, ha, hlen, q⟩ := h
    refine ⟨_, (pss_one (ps_ret (pe_lc (own := [("index", 2), ("origin", 3)]) (g := gTup K 2 (gCons (gName 2) (gCons (gName 3) gNil))) rfl sc_copies.nd (pi_enum (by rfl) T.n_enumerate (pa_cons (pv 0) pa_nil)) (blkOk_by (N := N_copies) (sc := defScope s_copies) (by decide +kernel)) (fun _ _ _ _ _ => pg_tupK (by rfl) (by rfl) (pgs_cons (pg_name (i := 2) sc_copies.nd rfl (Or.inl rfl)) (pgs_cons (pg_name (i := 3) sc_copies.nd rfl (Or.inl rfl)) pgs_nil))) (fun _ _ _ _ _ => (pts_one (pt_cmpR op_eq (pv 3) (pv 1) (nomark _)))) (fun _ _ _ _ _ => (pv 2))))), ?_⟩
    refine sl_of (σ2 := [some _, some _, none, none]) rfl ?_
    walk_at "st"
    walk_at "go"
    intro nl hnl
    have han : a ≠ nl := ne_of_none ha hnl
    refine lc_enum (K := K) (a := a) (xs := nums os) (fun i H' => Ex H H' ∧ H' a = some (.lst (nums os)) ∧ i ≤ os.length ∧ H' nl = some (.lst (nums ((List.range' 0 i).filter fun j => decide (os[j]? = some r))))) ⟨Ex.new hnl, Ex.new hnl _ _ ha, Nat.zero_le _, by rw [upd_same]; simp⟩ (fun i H' h => SqL.of h.2.1) ?_ ?_
    · rintro i x T0 H2 hi hT ⟨e2, ha2, hil, hn2⟩
      obtain ⟨o, ho, rfl⟩ := nums_at hi
      have hil2 := (List.getElem?_eq_some_iff.mp ho).1
      have ll : (nums ((List.range' 0 i).filter fun j => decide (os[j]? = some r))).length ≤ 10000000 := by
        rw [List.length_map]
        refine Nat.le_trans (List.length_filter_le _ _) ?_
        simp
        omega
      have step : (List.range' 0 (i + 1)).filter (fun j => decide (os[j]? = some r)) = (List.range' 0 i).filter (fun j => decide (os[j]? = some r)) ++ (if o = r then [i] else []) := by
        rw [List.range'_concat, List.filter_append]
        congr 1
        simp only [Nat.zero_add, Nat.one_mul, List.filter_cons, List.filter_nil, ho]
        by_cases c : o = r
        · simp [c]
        · simp [c]
      have hTn : T0 ≠ nl := (ne_of_none hn2 hT).symm
      have hn3 := Ex.new hT (o := .tup [V.int (i : Int), V.int (o : Int)]) _ _ hn2
      have ha3 := Ex.new hT (o := .tup [V.int (i : Int), V.int (o : Int)]) _ _ ha2
      have e3 : Ex H (upd H2 T0 (.tup [V.int (i : Int), V.int (o : Int)])) := ex_new e2 hT
      walk_at "go"
      refine w_brI (fun c => ?_) (fun c => ?_)
      · walk_at "go"
        refine ⟨_, hn3, ly_lt (by omega), ex_upd e3 hnl, by walk_at "hp", by omega, ?_⟩
        rw [upd_same, step, if_pos (by omega)]
        simp [nums]
      · walk_at "go"
        refine ⟨e3, ha3, by omega, ?_⟩
        rw [step, if_neg (by omega), List.append_nil]
        exact hn3
    · rintro H2 ⟨e2, ha2, hil, hn2⟩
      have el : (nums os).length = os.length := List.length_map _
      rw [el] at hn2
      exact q H2 nl _ e2 hnl hn2 rfl
def mvF (t : Addr) (i : Nat) (r o : Addr) : List (Str × V) := putF "origins" (.ref o) (putF "result" (.ref r) (putF "at" (.int (i : Int)) (putF "term" (.ref t) [])))
theorem mv1 : ¬ (("term" : Str) = "at") := by decide +kernel
theorem mv2 : ¬ (("term" : Str) = "result") := by decide +kernel
theorem mv3 : ¬ (("term" : Str) = "origins") := by decide +kernel
theorem mv4 : ¬ (("at" : Str) = "result") := by decide +kernel
theorem mv5 : ¬ (("at" : Str) = "origins") := by decide +kernel
theorem mv6 : ¬ (("result" : Str) = "origins") := by decide +kernel
theorem mv_term (t : Addr) (i : Nat) (r o : Addr) : (mvF t i r o).lookup ("term" : Str) = some (.ref t) := by
  unfold mvF
  rw [lookup_putF, if_neg mv3, lookup_putF, if_neg mv2, lookup_putF, if_neg mv1, lookup_putF, if_pos rfl]
theorem mv_at (t : Addr) (i : Nat) (r o : Addr) : (mvF t i r o).lookup ("at" : Str) = some (.int (i : Int)) := by
  unfold mvF
  rw [lookup_putF, if_neg mv5, lookup_putF, if_neg mv4, lookup_putF, if_pos rfl]
theorem mv_result (t : Addr) (i : Nat) (r o : Addr) : (mvF t i r o).lookup ("result" : Str) = some (.ref r) := by
  unfold mvF
  rw [lookup_putF, if_neg mv6, lookup_putF, if_pos rfl]
theorem mv_origins (t : Addr) (i : Nat) (r o : Addr) : (mvF t i r o).lookup ("origins" : Str) = some (.ref o) := by
  unfold mvF
  rw [lookup_putF, if_pos rfl]
/-- an object that is a move: its term, its place's index, where it leads, where the nodes come from -/
def MvAt (K : PySem.W.Frag) (C : Addr) (n : Addr → Prop) (H : Hp) (x : Addr) (t : Tm) (p : List Nat) (i : Nat) (b u : Tm) : Prop :=
  t.Red p i b u ∧ ∃ dx ta ra oa, H x = some (.ins C dx (mvF ta i ra oa)) ∧ SqT K H ta t.enc ∧ SqT K H ra (t.step p).enc ∧ H oa = some (.lst (nums (stepO t i b u))) ∧ n oa
theorem MvAt.ex {C : Addr} {n : Addr → Prop} {H H' : Hp} {x : Addr} {t : Tm} {p : List Nat} {i : Nat} {b u : Tm} (h : MvAt K C n H x t p i b u) (e : Ex H H') : MvAt K C n H' x t p i b u := by
  obtain ⟨hr, dx, ta, ra, oa, h1, h2, h3, h4, h5⟩ := h
  exact ⟨hr, dx, ta, ra, oa, e _ _ h1, ex_t e h2, ex_t e h3, e _ _ h4, h5⟩
theorem MvAt.mono {C : Addr} {n n' : Addr → Prop} {H : Hp} {x : Addr} {t : Tm} {p : List Nat} {i : Nat} {b u : Tm} (h : MvAt K C n H x t p i b u) (e : ∀ a, n a → n' a) : MvAt K C n' H x t p i b u := by
  obtain ⟨hr, dx, ta, ra, oa, h1, h2, h3, h4, h5⟩ := h
  exact ⟨hr, dx, ta, ra, oa, h1, h2, h3, h4, e _ h5⟩
/-- a list that is not among them changes -/
theorem MvAt.keep {C l : Addr} {n : Addr → Prop} (hn : ∀ a, n a → a ≠ l) {H : Hp} {ys zs : List V} {x : Addr} {t : Tm} {p : List Nat} {i : Nat} {b u : Tm} (h : MvAt K C n H x t p i b u) (hl : H l = some (.lst ys)) : MvAt K C n (upd H l (.lst zs)) x t p i b u := by
  obtain ⟨hr, dx, ta, ra, oa, h1, h2, h3, h4, h5⟩ := h
  exact ⟨hr, dx, ta, ra, oa, by rw [upd_ne (fun z => by rw [z, hl] at h1; cases h1)]; exact h1, sqt_keep hl h2, sqt_keep hl h3, by rw [upd_ne (hn _ h5)]; exact h4, h5⟩
def spMove (K : PySem.W.Frag) (C C1 : Addr) : Sp := fun vs H Q E => ∃ (x dx a : Addr) (t : Tm) (p : List Nat) (i : Nat) (b u : Tm) (H0 : Hp), vs = [.ref x, .ref a, .int (i : Int)] ∧ H x = some (.ins C dx []) ∧ Ex H0 H ∧ H0 x = none ∧ SqT K H0 a t.enc ∧ t.Red p i b u ∧ t.enc.length ≤ 3000 ∧
  (fitsV (t.step p).enc = true → ∀ H', Ex H0 H' → MvAt K C (fun a => H0 a = none) H' x t p i b u → Q .non H') ∧ (fitsV (t.step p).enc = false → ∀ H', Ex H0 H' → E (.ref C1) none H')
theorem ok_move {f : Addr} {fd : FuncData} (F : Fun K "__init__" "Move.__init__" s_Move_init f fd) (T : Txt w K mg tk cl)
    (D1 : Def P w K mg base (L2.CX P w) 4 "stepped" ["term", "at"] (spStepped K (cl 1))) (D2 : Def P w K mg base CX0 3 "step_origins" ["term", "at"] (spStepO K)) : FnOk P w K mg base (L2.CX P w) 5 f fd ["self", "term", "at"] (spMove K (cl 20) (cl 1)) := by
  obtain ⟨f1, fd1, g_stepped, kp_stepped, b_stepped, G_stepped⟩ := D1
  obtain ⟨f2, fd2, g_step_origins, kp_step_origins, b_step_origins, G_step_origins⟩ := D2
  refine F.okX sc_Move_init (fun vs H Q E h => ?_) (fun cdv A outer s H vs Q E hr h => ?_)
  · obtain ⟨_, _, _, _, _, _, _, _, _, rfl, _⟩ := h
    rfl
  · obtain ⟨x, dx, a, t, p, i, b, u, H0, rfl, hx, e0, hx0, hS0, hred, hlen, good, large⟩ := h
    refine ⟨_, (pss_cons (ps_fld (pv 0) (pv 1) rfl) (pss_cons (ps_fld (pv 0) (pv 2) rfl) (pss_cons (ps_fld (pv 0) (pe_call G_stepped (hr.mono (by first | decide | omega)) (by rfl) g_stepped kp_stepped b_stepped .nil (passes_call (takes_of rfl rfl rfl rfl) (fun _ _ _ _ h => h)) (pa_cons (pv 1) (pa_cons (pv 2) pa_nil))) rfl) (pss_one (ps_fld (pv 0) (pe_call G_step_origins (hr.mono (by first | decide | omega)) (by rfl) g_step_origins kp_step_origins b_step_origins .nil pass0 (pa_cons (pv 1) (pa_cons (pv 2) pa_nil))) rfl))))), ?_⟩
    refine sl_of (σ2 := [some _, some _, some _]) rfl ?_
    walk_at "st"
    walk_at "go"
    refine ⟨x, cl 20, dx, [], rfl, hx, T.cls_Move, T.nf_Move_term, by show 0 < 1000; decide, ?_⟩
    walk_at "go"
    refine ⟨x, cl 20, dx, _, rfl, upd_same, T.cls_Move, T.nf_Move_at, by show 1 < 1000; decide, ?_⟩
    have two : ∀ (o1 o2 : HO), Ex H0 (upd (upd H x o1) x o2) := fun o1 o2 => ex_upd (ex_upd e0 hx0) hx0
    generalize hH1 : upd (upd H x (.ins (cl 20) dx (putF "term" (V.ref a) []))) x (.ins (cl 20) dx (putF "at" (V.int (i : Int)) (putF "term" (V.ref a) []))) = H1 at *
    have e1 : Ex H0 H1 := by rw [← hH1]; exact two _ _
    have hx1 : H1 x = some (.ins (cl 20) dx (putF "at" (V.int (i : Int)) (putF "term" (V.ref a) []))) := by rw [← hH1]; exact upd_same
    have hS1 := ex_t e1 hS0
    walk_at "go"
    refine ⟨a, t, p, i, b, u, rfl, hS1, hred, hlen, fun hf H2 r e2 hr2 => ?_, fun hf H2 e2 => large hf _ (e1.trans e2)⟩
    have hx2 := e2 _ _ hx1
    walk_at "go"
    refine ⟨x, cl 20, dx, _, rfl, hx2, T.cls_Move, T.nf_Move_result, by show 2 < 1000; decide, ?_⟩
    have e3 : Ex H0 (upd H2 x (.ins (cl 20) dx (putF "result" (V.ref r) (putF "at" (V.int (i : Int)) (putF "term" (V.ref a) []))))) := ex_upd (e1.trans e2) hx0
    have hx3 : upd H2 x (.ins (cl 20) dx (putF "result" (V.ref r) (putF "at" (V.int (i : Int)) (putF "term" (V.ref a) [])))) x = some (.ins (cl 20) dx (putF "result" (V.ref r) (putF "at" (V.int (i : Int)) (putF "term" (V.ref a) [])))) := upd_same
    have hr3 : SqT K (upd H2 x (.ins (cl 20) dx (putF "result" (V.ref r) (putF "at" (V.int (i : Int)) (putF "term" (V.ref a) []))))) r (t.step p).enc := by
      rcases hr2 with (h | ⟨ob, h⟩) | h
      · exact .inl (.inl (by rw [upd_ne (fun z => by rw [z, hx2] at h; cases h)]; exact h))
      · exact .inl (.inr ⟨ob, by rw [upd_ne (fun z => by rw [z, hx2] at h; cases h)]; exact h⟩)
      · exact .inr h
    generalize upd H2 x (.ins (cl 20) dx (putF "result" (V.ref r) (putF "at" (V.int (i : Int)) (putF "term" (V.ref a) [])))) = H3 at *
    have hS3 := ex_t e3 hS0
    walk_at "go"
    refine ⟨a, t, p, i, b, u, rfl, hS3, hred, hlen, fun H4 oa e4 hoa ho4 => ?_⟩
    have hx4 := e4 _ _ hx3
    have hr4 := ex_t e4 hr3
    have ee := e3.trans e4
    walk_at "go"
    refine ⟨x, cl 20, dx, _, rfl, hx4, T.cls_Move, T.nf_Move_origins, by show 3 < 1000; decide, ?_⟩
    have e5 : Ex H0 (upd H4 x (.ins (cl 20) dx (mvF a i r oa))) := ex_upd ee hx0
    refine good hf _ e5 ⟨hred, dx, a, r, oa, upd_same, ex_t e5 hS0, ?_, ?_, fresh_back e3 hoa⟩
    · rcases hr4 with (h | ⟨ob, h⟩) | h
      · exact .inl (.inl (by rw [upd_ne (fun z => by rw [z, hx4] at h; cases h)]; exact h))
      · exact .inl (.inr ⟨ob, by rw [upd_ne (fun z => by rw [z, hx4] at h; cases h)]; exact h⟩)
      · exact .inr h
    · rw [upd_ne (fun z => by rw [z, hx4] at ho4; cases ho4)]
      exact ho4
end
end Ly
set_option Elab.async false
set_option linter.all false
set_option maxRecDepth 100000
set_option maxHeartbeats 8000000
namespace Ly
open PySem PySem.Spec PyProof.Rows L2 Evl
local macro_rules | `(tactic| walk_at "ne") => `(tactic| first
  | assumption
  | ((refine' Ne.symm ?hq); (case hq => assumption))
  | ((refine' ne_of_none ?nh1 ?nh2); (case nh2 => assumption); (case nh1 => walk_at "hp"))
  | ((refine' Ne.symm (ne_of_none ?nh1 ?nh2)); (case nh2 => assumption); (case nh1 => walk_at "hp")))
local macro_rules | `(tactic| walk_at "hp") => `(tactic| first
  | assumption
  | exact upd_same
  | ((refine' SqL.of ?hq); (case hq => walk_at "hp"))
  | ((refine' SqT.of ?hq); (case hq => walk_at "hp"))
  | ((refine' (upd_ne ?hne).trans ?hrest); (case hne => walk_at "ne"); (case hrest => walk_at "hp"))
  | ((refine' ly_at ?hex ?hh); (case hex => assumption); (case hh => walk_at "hp"))
  | ((refine' ly_atF ?hex ?hnn ?hh); (case hex => assumption); (case hh => walk_at "hp"); (case hnn => walk_at "ne"))
  | ((refine' ex_t ?hex ?hh); (case hh => assumption); (case hex => walk_at "ex"))
  | ((refine' ex_l ?hex ?hh); (case hh => assumption); (case hex => walk_at "ex")))
local macro_rules | `(tactic| walk_at "ex") => `(tactic| first
  | assumption
  | exact Ex.refl _
  | ((refine' ex_new ?xa ?xb); (case xb => assumption); (case xa => walk_at "ex"))
  | ((refine' ex_upd ?xa ?xb); (case xb => walk_at "free"); (case xa => walk_at "ex"))
  | ((refine' Ex.trans ?xa ?xb); (case xb => assumption); (case xa => walk_at "ex")))
local macro_rules | `(tactic| walk_at "free") => `(tactic| first
  | assumption
  | ((refine' fresh_back ?xa ?xb); (case xb => assumption); (case xa => walk_at "ex")))
local macro_rules | `(tactic| walk_at "fr") => `(tactic| first
  | assumption
  | exact Fr.refl _ _
  | ((refine' Fr.own ?hq); (case hq => walk_at "fr"))
  | ((refine' Fr.new ?xa ?xb); (case xb => assumption); (case xa => walk_at "fr"))
  | ((refine' Fr.mut ?xa ?xb); (case xb => assumption); (case xa => walk_at "fr"))
  | ((refine' Fr.trans ?xa ?xb); (case xb => assumption); (case xa => walk_at "fr"))
  | ((refine' Fr.trans ?xa (Fr.ex ?xb)); (case xb => assumption); (case xa => walk_at "fr")))
local macro_rules | `(tactic| walk_at "go1") => `(tactic| first
  | (with_reducible refine' w_seq ?_)
  | (with_reducible refine' w_asg ?_)
  | (with_reducible refine' w_ret ?_)
  | (with_reducible refine' w_drop ?_)
  | (with_reducible refine' w_if ?_)
  | (with_reducible refine' w_next ?_)
  | (with_reducible refine' w_name ?_)
  | (with_reducible refine' w_sub ?_)
  | ((with_reducible refine' w_var ?hv ?_); (case hv => exact rfl))
  | (with_reducible refine' w_c ?_)
  | (with_reducible refine' w_op ?_)
  | (with_reducible refine' w_un ?_)
  | (with_reducible refine' w_ch ?_)
  | (with_reducible refine' w_I0 ?_)
  | ((with_reducible refine' w_I ?hc ?_); (case hc => first | (exact ly_mulL (by decide) (by decide)) | (exact ly_mulR (by decide) (by decide)) | (exact ly_mulL (by omega) (by omega)) | (show (_ : Int) ≠ 0; decide) | (show (_ : Int) ≠ 0; omega) | (exact ⟨by decide, by decide⟩) | (exact ⟨by omega, by omega⟩)))
  | (with_reducible refine' w_U ?_)
  | ((with_reducible refine' w_eq ?hs ?_); (case hs => exact rfl))
  | ((with_reducible refine' w_ne ?hs ?_); (case hs => exact rfl))
  | (with_reducible refine' w_isB ?_)
  | (with_reducible refine' w_notB ?_)
  | (with_reducible refine' w_nil ?_)
  | (with_reducible refine' w_cons ?_)
  | (with_reducible refine' w_tup ?_)
  | (with_reducible refine' w_lst ?_)
  | (with_reducible refine' w_cb ?_)
  | (with_reducible refine' w_call ?_)
  | (with_reducible refine' w_bm ?_)
  | (with_reducible refine' w_bm0 ?_)
  | ((with_reducible refine' w_app ?hh ?hz ?_); (case hh => walk_at "hp"); (case hz => first | exact ly_lt (by omega) | exact ly_lt (by simp only [List.length_append, List.length_map, List.length_cons, List.length_nil]; omega)))
  | ((with_reducible refine' w_popA ?hh ?_); (case hh => walk_at "hp"))
  | ((with_reducible refine' w_ext ?hh ?hh2 ?hz ?_); (case hh => walk_at "hp"); (case hh2 => walk_at "hp"))
  | ((with_reducible refine' w_ixL ?hh ?ha ?_); (case hh => walk_at "hp"); (case ha => first | exact rfl | exact at_map (by omega) | exact atI_last _ _ | ((refine' at_of ?ae ?ah); (case ah => assumption); (case ae => omega))))
  | ((with_reducible refine' w_ixT ?hh ?ha ?_); (case hh => walk_at "hp"); (case ha => first | exact rfl | exact at_map (by omega) | exact atI_last _ _ | ((refine' at_of ?ae ?ah); (case ah => assumption); (case ae => omega))))
  | ((with_reducible refine' w_cat ?hh ?hh2 ?hz ?_); (case hh => walk_at "hp"); (case hh2 => walk_at "hp"))
  | ((with_reducible refine' w_setL ?hh ?ha ?_); (case hh => walk_at "hp"); (case ha => exact rfl))
  | (with_reducible refine' w_test ?_)
  | (with_reducible refine' w_tB ?_)
  | (with_reducible refine' w_bl ?_)
  | (with_reducible refine' w_and ?_)
  | (with_reducible refine' w_or ?_)
  | (with_reducible refine' w_not ?_)
  | (with_reducible refine' w_andV ?_)
  | (with_reducible refine' w_orV ?_)
  | (with_reducible refine' w_notV ?_)
  | (with_reducible refine' w_ifE ?_)
  | (with_reducible refine' w_for ?_)
  | ((with_reducible refine' w_nin ?hh ?_); (case hh => walk_at "hp"))
  | ((with_reducible refine' w_sorted ?hh ?_); (case hh => walk_at "hp"))
  | (with_reducible refine' w_tsadd ?_)
  | ((with_reducible refine' w_tsadd1 ?hh ?_); (case hh => walk_at "hp"))
  | ((with_reducible refine' w_sadd ?hh ?hr ?_); (case hh => walk_at "hp"); (case hr => omega))
  | (with_reducible refine' w_iZ ?_)
  | ((with_reducible refine' w_iZ1 ?hh ?hh2 ?_); (case hh => walk_at "hp"); (case hh2 => walk_at "hp"))
  | (with_reducible refine' w_iS ?_)
  | (with_reducible refine' w_iS1 ?_)
  | ((with_reducible refine' w_gtup ?hh ?hn ?_); (case hh => walk_at "hp"); (case hn => exact rfl))
  | (with_reducible refine' w_gcons ?_)
  | (with_reducible refine' w_gnil ?_)
  | (with_reducible refine' w_js ?_)
  | (with_reducible refine' w_jsn ?_)
  | ((with_reducible refine' w_js1 ?hl ?_); (case hl => decide +kernel))
  | (with_reducible refine' w_fmt ?_)
  | ((with_reducible refine' w_fmt1 ?hl ?_); (case hl => decide +kernel))
  | (with_reducible refine' w_callS ?_)
  | ((with_reducible refine' w_truL ?hh ?_); (case hh => walk_at "hp"))
  | (with_reducible refine' w_lc ?_)
  | (with_reducible refine' w_yes ?_)
  | ((with_reducible refine' w_wipe ?he ?_); (case he => exact rfl))
  | (with_reducible refine' w_iL ?_)
  | (with_reducible refine' w_iT ?_)
  | (with_reducible refine' w_iR ?_)
  | ((with_reducible refine' w_iL1 ?hh ?_); (case hh => walk_at "hp"))
  | ((with_reducible refine' w_iT1 ?hh ?_); (case hh => walk_at "hp"))
  | ((with_reducible refine' w_iR1 ?h1 ?h2 ?_); (case h1 => omega); (case h2 => omega))
  | ((with_reducible refine' w_aug ?hv ?_); (case hv => exact rfl))
  | (with_reducible refine' w_ipI ?_)
  | ((with_reducible refine' w_isi ?hy ?hk ?_); (case hy => walk_at "ty"); (case hk => walk_at "kit"))
  | ((with_reducible refine' w_int ?_))
  | ((with_reducible refine' w_intB ?_))
  | ((with_reducible refine' w_abs ?_))
  | ((with_reducible refine' w_lenL ?hh ?_); (case hh => walk_at "hp"))
  | ((with_reducible refine' w_lenT ?hh ?_); (case hh => walk_at "hp"))
  | ((with_reducible refine' w_tupL ?hh ?_); (case hh => walk_at "hp"))
  | ((with_reducible refine' w_tupT ?hh ?_); (case hh => walk_at "hp"))
  | ((with_reducible refine' w_catA ?hh ?hh2 ?hz ?_); (case hh => walk_at "hp"); (case hh2 => walk_at "hp"); (case hz => walk_at "len"))
  | ((with_reducible refine' w_repB ?hh ?hne ?h2 ?h3 ?hz ?_); (case hh => walk_at "hp"); (case hne => simp); (case h2 => omega); (case h3 => omega); (case hz => exact Nat.le_of_ble_eq_true rfl))
  | ((with_reducible refine' w_eqN ?hh ?hh2 ?n1 ?n2 ?_); (case hh => walk_at "hp"); (case hh2 => walk_at "hp"); (case n1 => walk_at "nd"); (case n2 => walk_at "nd"))
  | ((with_reducible refine' w_neN ?hh ?hh2 ?n1 ?n2 ?_); (case hh => walk_at "hp"); (case hh2 => walk_at "hp"); (case n1 => walk_at "nd"); (case n2 => walk_at "nd"))
  | ((with_reducible refine' w_eqL ?hh ?hh2 ?n1 ?n2 ?_); (case hh => walk_at "hp"); (case hh2 => walk_at "hp"); (case n1 => walk_at "nd"); (case n2 => walk_at "nd"))
  | ((with_reducible refine' w_neL ?hh ?hh2 ?n1 ?n2 ?_); (case hh => walk_at "hp"); (case hh2 => walk_at "hp"); (case n1 => walk_at "nd"); (case n2 => walk_at "nd"))
  | ((with_reducible refine' w_neNon ?hh2 ?n2 ?_); (case hh2 => walk_at "hp"); (case n2 => walk_at "nd"))
  | ((with_reducible refine' w_eqNon ?hh2 ?n2 ?_); (case hh2 => walk_at "hp"); (case n2 => walk_at "nd"))
  | ((with_reducible refine' w_slA ?hh ?_); (case hh => walk_at "hp"))
  | ((with_reducible refine' w_disp ?hz ?_); (case hz => exact sz_of (Nat.le_of_ble_eq_true rfl)))
  | ((with_reducible refine' w_tyL ?hh ?_); (case hh => walk_at "hp"))
  | (with_reducible refine' iteT ?_)
  | (with_reducible refine' iteF ?_)
  | (with_reducible refine' w_nT ?_)
  | (with_reducible refine' w_nn ?_)
  | (with_reducible refine' w_nnT ?_)
  | (with_reducible refine' w_nnR ?_)
  | (with_reducible refine' w_neG ?_)
  | (with_reducible refine' w_eqG ?_)
  | (with_reducible refine' w_neS ?_)
  | (with_reducible refine' w_eqS ?_)
  | (with_reducible refine' w_neSb ?_)
  | (with_reducible refine' w_eqSb ?_)
  | (with_reducible refine' w_deIS ?_)
  | (with_reducible refine' w_deSI ?_)
  | (with_reducible refine' w_deISn ?_)
  | ((with_reducible refine' w_deST ?he ?_); (case he => decide +kernel))
  | ((with_reducible refine' w_deSF ?he ?_); (case he => decide +kernel))
  | ((with_reducible refine' w_deSTn ?he ?_); (case he => decide +kernel))
  | ((with_reducible refine' w_deSFn ?he ?_); (case he => decide +kernel))
  | (with_reducible refine' w_nF ?_)
  | dsimp only [Bool.not_true, Bool.not_false])
local macro_rules | `(tactic| walk_at "ty") => `(tactic| first
  | exact .base (.int _) | exact .base (.str _) | exact .base (.bl _) | exact .base .non
  | ((refine' tyx_t ?hq); (case hq => walk_at "hp")) | ((refine' tyx_l ?hq); (case hq => walk_at "hp")) | ((refine' .base (.tup ?hq)); (case hq => walk_at "hp")) | assumption)
local macro_rules | `(tactic| walk_at "go") => `(tactic| repeat walk_at "go1")
local macro_rules | `(tactic| walk_at "st") => `(tactic| try dsimp only [cxOf, Cx.nox, Cx.wish])
local macro_rules | `(tactic| walk_at "kit") => `(tactic| with_reducible first | exact kit_int_int | exact kit_int_str | exact kit_int_bool | exact kit_int_tuple | exact kit_int_list | exact kit_str_int | exact kit_str_str | exact kit_str_bool | exact kit_str_tuple | exact kit_str_list | exact kit_bool_int | exact kit_bool_str | exact kit_bool_bool | exact kit_bool_tuple | exact kit_bool_list | exact kit_NoneType_int | exact kit_NoneType_str | exact kit_NoneType_bool | exact kit_NoneType_tuple | exact kit_NoneType_list | exact kit_list_int | exact kit_list_str | exact kit_list_bool | exact kit_list_tuple | exact kit_list_list | exact kit_tuple_int | exact kit_tuple_str | exact kit_tuple_bool | exact kit_tuple_tuple | exact kit_tuple_list)
local macro_rules | `(tactic| walk_at "nd") => `(tactic| first
  | assumption
  | exact Tm.nds _
  | exact Nds.nil
  | exact Nds.ofInts _
  | ((refine' Nds.cons ?na ?nb); (case na => first | exact Nds.I _ | exact Nds.L | exact Nds.A); (case nb => walk_at "nd"))
  | ((refine' Nds.app ?na ?nb); (case na => walk_at "nd"); (case nb => walk_at "nd"))
  | ((refine' Nds.rep ?na _); (case na => walk_at "nd")))
local macro_rules | `(tactic| walk_at "len") => `(tactic| first
  | exact ly_sz (by omega)
  | ((simp only [List.length_append, List.length_cons, List.length_nil, List.length_map, PyProof.Rows.lm_len_rep_flat]); exact ly_sz (by omega)))
local macro_rules | `(tactic| walk_at "go1") => `(tactic| first
  | (with_reducible refine' w_kget2 ?_)
  | (with_reducible refine' w_isRN ?_)
  | (with_reducible refine' w_isNN ?_)
  | (with_reducible refine' w_isIN ?_)
  | ((with_reducible refine' w_kg ?hd ?_); (case hd => assumption)))
local macro_rules | `(tactic| walk_at "go1") => `(tactic| first
  | ((with_reducible refine' w_extT ?hh ?hh2 ?hz ?_); (case hh => walk_at "hp"); (case hh2 => walk_at "hp"))
  | ((with_reducible refine' w_I ?hc ?_); (case hc => exact ⟨by decide, by decide, by decide⟩))
  | (with_reducible refine' w_sl ?_)
  | (with_reducible refine' w_noP ?_)
  | (with_reducible refine' w_part ?_)
  | (with_reducible refine' w_part1 ?_)
  | (with_reducible refine' w_it ?_)
  | (with_reducible refine' w_it1 ?_)
  | ((with_reducible refine' w_lenZ ?hz ?_); (case hz => omega))
  | ((with_reducible refine' w_addZb ?hz ?_); (case hz => omega))
  | ((with_reducible refine' w_addZf ?hz ?_); (case hz => omega))
  | ((with_reducible refine' w_addZa ?hz ?_); (case hz => omega))
  | ((with_reducible refine' w_inS ?hh ?_); (case hh => walk_at "hp"))
  | ((with_reducible refine' w_ixT ?hh ?ha ?_); (case hh => assumption); (case ha => exact atI_nat (by assumption))))
section
variable {P : Program} {w : World} {K : PySem.W.Frag} {mg : Str → Option Value} {base : Heap} {tk : Nat → Tok} {cl : Nat → Addr}
local macro_rules | `(tactic| walk_at "go1") => `(tactic| first
  | (with_reducible refine' w_make ?_)
  | (with_reducible refine' w_tfld ?_))
inductive MvsAt (K : PySem.W.Frag) (C : Addr) (n : Addr → Prop) (H : Hp) : List Addr → List Mv → Prop
  | nil : MvsAt K C n H [] []
  | cons {x : Addr} {as : List Addr} {m : Mv} {ms : List Mv} (h : MvAt K C n H x m.t m.p m.i m.b m.u) (r : MvsAt K C n H as ms) : MvsAt K C n H (x :: as) (m :: ms)
theorem MvsAt.ex {C : Addr} {n : Addr → Prop} {H H' : Hp} {as : List Addr} {ms : List Mv} (h : MvsAt K C n H as ms) (e : Ex H H') : MvsAt K C n H' as ms := by
  induction h with
  | nil => exact .nil
  | cons h _ ih => exact .cons (h.ex e) ih
theorem MvsAt.mono {C : Addr} {n n' : Addr → Prop} {H : Hp} {as : List Addr} {ms : List Mv} (h : MvsAt K C n H as ms) (e : ∀ a, n a → n' a) : MvsAt K C n' H as ms := by
  induction h with
  | nil => exact .nil
  | cons h _ ih => exact .cons (h.mono e) ih
theorem MvsAt.keep {C l : Addr} {n : Addr → Prop} (hn : ∀ a, n a → a ≠ l) {H : Hp} {ys zs : List V} {as : List Addr} {ms : List Mv} (h : MvsAt K C n H as ms) (hl : H l = some (.lst ys)) : MvsAt K C n (upd H l (.lst zs)) as ms := by
  induction h with
  | nil => exact .nil
  | cons h _ ih => exact .cons (h.keep hn hl) ih
theorem MvsAt.snoc {C : Addr} {n : Addr → Prop} {H : Hp} {as : List Addr} {ms : List Mv} {x : Addr} {m : Mv} (h : MvsAt K C n H as ms) (hx : MvAt K C n H x m.t m.p m.i m.b m.u) : MvsAt K C n H (as ++ [x]) (ms ++ [m]) := by
  induction h with
  | nil => exact .cons hx .nil
  | cons h _ ih => exact .cons h ih
theorem MvsAt.len {C : Addr} {n : Addr → Prop} {H : Hp} {as : List Addr} {ms : List Mv} (h : MvsAt K C n H as ms) : as.length = ms.length := by
  induction h with
  | nil => rfl
  | cons _ _ ih => simp [ih]
theorem MvsAt.at {C : Addr} {n : Addr → Prop} {H : Hp} {as : List Addr} {ms : List Mv} (h : MvsAt K C n H as ms) : ∀ {i : Nat} {x : Addr}, as[i]? = some x → ∃ m, ms[i]? = some m ∧ MvAt K C n H x m.t m.p m.i m.b m.u := by
  induction h with
  | nil => intro i x hx; simp at hx
  | cons h _ ih =>
    intro i x hx
    cases i with
    | zero =>
      simp at hx
      subst hx
      exact ⟨_, rfl, h⟩
    | succ i => exact ih (by simpa using hx)
def spMovesOf (K : PySem.W.Frag) (C C1 C2 : Addr) : Sp := fun vs H Q E => ∃ (a l : Addr) (t : Tm) (road : List (List Nat)), vs = [.ref a, .ref l] ∧ SqT K H a t.enc ∧ H l = some (.lst (plcs road)) ∧ t.enc.length ≤ 3000 ∧ road.length ≤ 1000 ∧ (∀ r ∈ road, r.length ≤ 3000) ∧
  (∀ ms v, Run t road ms v → ∀ H' p as, Ex H H' → H p = none → H' p = some (.lst (refs as)) → MvsAt K C (fun a => H a = none ∧ a ≠ p) H' as ms → Q (.ref p) H') ∧ (Tm.pass t road = .large → ∀ H', Ex H H' → E (.ref C1) none H') ∧ (Tm.pass t road = .none → ∀ H', Ex H H' → E (.ref C2) none H')
theorem ok_movesof {f : Addr} {fd : FuncData} (F : Fun K "moves_of" "moves_of" s_moves_of f fd) (T : Txt w K mg tk cl)
    (D1 : Def P w K mg base (L2.CX P w) 5 "redex_at" ["term", "place"] (spRedAt K (cl 2))) (D2 : DefC P w K mg base (L2.CX P w) 5 (cl 20) ["self", "term", "at"] (spMove K (cl 20) (cl 1))) : FnOk P w K mg base (L2.CX P w) 8 f fd ["term", "road"] (spMovesOf K (cl 20) (cl 1) (cl 2)) := by
  obtain ⟨f1, fd1, g_redex_at, kp_redex_at, b_redex_at, G_redex_at⟩ := D1
  obtain ⟨f2, fd2, M_Move, b_Move_init, G_Move_init⟩ := D2
  refine F.okX sc_moves_of (fun vs H Q E h => ?_) (fun cdv A outer s H vs Q E hr h => ?_)
  · obtain ⟨_, _, _, _, rfl, _⟩ := h
    rfl
  · obtain ⟨a, l, t, road, rfl, hS, hl, hlen, hrn, hrs, q, xl, xn⟩ := h
    refine ⟨_, (pss_cons (ps_set (i := 2) sc_moves_of.nd rfl (.inl rfl) (pe_lst pa_nil)) (pss_cons (ps_for (passes_of rfl) rfl (pi_list (pv 1)) (pg_name (i := 3) sc_moves_of.nd rfl (.inl rfl)) (pss_cons (ps_set (i := 4) sc_moves_of.nd rfl (.inl rfl) (pe_make M_Move G_Move_init (hr.mono (by first | decide | omega)) (by rfl) T.g_Move b_Move_init .nil (passes_call (takes_of rfl rfl rfl rfl) (fun _ _ _ _ h => h)) (pa_cons (pv 0) (pa_cons (pe_call G_redex_at (hr.mono (by first | decide | omega)) (by rfl) g_redex_at kp_redex_at b_redex_at .nil (passes_call (takes_of rfl rfl rfl rfl) (fun _ _ _ _ h => h)) (pa_cons (pv 0) (pa_cons (pv 3) pa_nil))) pa_nil)))) (pss_cons (ps_expr (pe_bm PySem.F.plainAttrs_list PySem.F.slot_list_append PySem.F.type_list_append mt_append (pv 2) (pa_cons (pv 4) pa_nil))) (pss_one (ps_set (i := 0) sc_moves_of.nd rfl (.inl rfl) (pe_fld (pv 4) rfl)))))) (pss_one (ps_ret (pv 2))))), ?_⟩
    refine sl_of (σ2 := [some _, some _, none, none, none]) rfl ?_
    walk_at "st"
    walk_at "go"
    intro ml hml
    have hlm : l ≠ ml := ne_of_none hl hml
    walk_at "go"
    refine for_list (K := K) (a := l) (xs := plcs road) (fun k σ H' => ∃ (x : Addr) (u : Tm) (ts : List Tm) (ms : List Mv) (as : List Addr) (y1 y2 : Option V), σ = [some (.ref x), some (.ref l), some (.ref ml), y1, y2] ∧ Ex H H' ∧ SqT K H' x u.enc ∧ u.enc.length ≤ 3000 ∧ H' ml = some (.lst (refs as)) ∧ MvsAt K (cl 20) (fun a => H a = none ∧ a ≠ ml) H' as ms ∧ Pass t (road.take k) ts u ∧ Run t (road.take k) ms u ∧ k ≤ road.length)
      ⟨a, t, [t], [], [], none, none, rfl, Ex.new hml, ex_t (Ex.new hml) hS, hlen, upd_same, .nil, .nil, .nil, Nat.zero_le _⟩ (fun k σ H' _ ⟨_, _, _, _, _, _, _, _, e, _⟩ => SqL.of (e _ _ hl)) ?_ ?_
    · rintro k z σ H' hk ⟨x, u, ts, ms, as, y1, y2, rfl, e, hx, hul, hm, hms, pa, run, hkr⟩
      rw [List.getElem?_map] at hk
      obtain ⟨r, hr1, rfl⟩ := Option.map_eq_some_iff.mp hk
      have hrl := hrs r (List.mem_of_getElem? hr1)
      have cut := road_cut hr1
      have hk2 : k < road.length := (List.getElem?_eq_some_iff.mp hr1).1
      have asl : (refs as).length ≤ 1000 := by
        rw [List.length_map, hms.len, run.len, List.length_take]
        omega
      walk_at "go"
      refine ⟨x, u, r, rfl, hx, by omega, by omega, fun i b v hred => ?_, fun hno H2 e2 => ?_⟩
      · have hir : u.isRed r = true := Tm.isRed_iff.mpr ⟨i, b, v, hred⟩
        walk_at "go"
        intro x2 dx nx ndx nex
        have e0 : Ex H' (upd (upd H' dx (.own x2)) x2 (.ins (cl 20) dx [])) := ex_upd (Ex.new ndx) nx
        refine ⟨x2, dx, x, u, r, i, b, v, H', rfl, upd_same, e0, nx, hx, hred, hul, fun hf H3 e3 mv => ⟨rfl, ?_⟩, fun hf H3 e3 => ?_⟩
        · have hm3 := e3 _ _ hm
          have e13 := e.trans e3
          have hfl := fits_len hf
          have mv2 : MvAt K (cl 20) (fun a => a ≠ ml) H3 x2 u r i b v := mv.mono fun a ha => (ne_of_none hm ha).symm
          have mv3 : MvAt K (cl 20) (fun a => H a = none ∧ a ≠ ml) H3 x2 u r i b v := mv.mono fun a ha => ⟨fresh_back e ha, (ne_of_none hm ha).symm⟩
          have hms3 := (hms.ex e3).snoc (m := ⟨u, r, i, b, v⟩) mv3
          walk_at "go"
          have er : refs as ++ [V.ref x2] = refs (as ++ [x2]) := by simp [refs]
          rw [er]
          obtain ⟨hr2, dx1, ta, ra, oa, h1, h2, h3, h4, h5⟩ := mv2.keep (fun a h => h) (zs := refs (as ++ [x2])) hm3
          refine ⟨x2, cl 20, dx1, _, _, rfl, h1, T.cls_Move, T.nf_Move_result, mv_result _ _ _ _, ?_⟩
          walk_at "go"
          exact ⟨ra, u.step r, _, ms ++ [⟨u, r, i, b, v⟩], as ++ [x2], _, _, rfl, ex_upd e13 hml, h3, by omega, upd_same, hms3.keep (fun a h => h.2) hm3, by rw [road_take hr1]; exact pa.snoc hir hf, by rw [road_take hr1]; exact run.snoc hred hf, by omega⟩
        · refine xl ?_ _ (e.trans e3)
          rw [cut]
          exact pa.large hir hf
      · refine xn ?_ _ (e.trans e2)
        rw [cut]
        refine pa.none ?_
        rcases red_or u r with ⟨_, j, b, v, h⟩ | ⟨h, _⟩
        · exact absurd h (hno j b v)
        · exact h
    · rintro σ H' ⟨x, u, ts, ms, as, y1, y2, rfl, e, hx, hul, hm, hms, pa, run, hkr⟩
      have el : (plcs road).length = road.length := List.length_map _
      rw [el, List.take_length] at run
      walk_at "go"
      exact q ms u run _ ml as e hml hm hms
theorem MvAt.off {C : Addr} {n : Addr → Prop} {H : Hp} {x l : Addr} {t : Tm} {p : List Nat} {i : Nat} {b u : Tm} (h : MvAt K C n H x t p i b u) (hl : H l = none) : MvAt K C (fun a => a ≠ l) H x t p i b u := by
  obtain ⟨hr, dx, ta, ra, oa, h1, h2, h3, h4, h5⟩ := h
  exact ⟨hr, dx, ta, ra, oa, h1, h2, h3, h4, ne_of_none h4 hl⟩
theorem MvsAt.off {C : Addr} {n : Addr → Prop} {H : Hp} {l : Addr} {as : List Addr} {ms : List Mv} (h : MvsAt K C n H as ms) (hl : H l = none) : MvsAt K C (fun a => a ≠ l) H as ms := by
  induction h with
  | nil => exact .nil
  | cons h _ ih => exact .cons (h.off hl) ih
theorem Run.head {t v : Tm} {r : List (List Nat)} {m : Mv} {ms : List Mv} (h : Run t r (m :: ms) v) : m.t = t := by
  cases h
  rfl
theorem Run.next {t v : Tm} {r : List (List Nat)} {ms : List Mv} (h : Run t r ms v) : ∀ {k : Nat} {m m' : Mv}, ms[k]? = some m → ms[k + 1]? = some m' → m'.t = m.nx := by
  induction h with
  | nil => intro k m m' hm; simp at hm
  | @cons t v p i b u q ms h hf hrun ih =>
    intro k m m' hm hm'
    cases k with
    | zero =>
      simp at hm
      subst hm
      cases ms with
      | nil => simp at hm'
      | cons m2 ms2 =>
        simp at hm'
        subst hm'
        exact hrun.head
    | succ k => exact ih (by simpa using hm) (by simpa using hm')
theorem Run.fits {t v : Tm} {r : List (List Nat)} {ms : List Mv} (h : Run t r ms v) : ∀ {k : Nat} {m : Mv}, ms[k]? = some m → fitsV m.nx.enc = true := by
  induction h with
  | nil => intro k m hm; simp at hm
  | @cons t v p i b u q ms h hf hrun ih =>
    intro k m hm
    cases k with
    | zero =>
      simp at hm
      subst hm
      exact hf
    | succ k => exact ih (by simpa using hm)
end
end Ly
set_option Elab.async false
set_option linter.all false
set_option maxRecDepth 100000
set_option maxHeartbeats 8000000
namespace Ly
open PySem PySem.Spec PyProof.Rows L2 Evl
local macro_rules | `(tactic| walk_at "ne") => `(tactic| first
  | assumption
  | ((refine' Ne.symm ?hq); (case hq => assumption))
  | ((refine' ne_of_none ?nh1 ?nh2); (case nh2 => assumption); (case nh1 => walk_at "hp"))
  | ((refine' Ne.symm (ne_of_none ?nh1 ?nh2)); (case nh2 => assumption); (case nh1 => walk_at "hp")))
local macro_rules | `(tactic| walk_at "hp") => `(tactic| first
  | assumption
  | exact upd_same
  | ((refine' SqL.of ?hq); (case hq => walk_at "hp"))
  | ((refine' SqT.of ?hq); (case hq => walk_at "hp"))
  | ((refine' (upd_ne ?hne).trans ?hrest); (case hne => walk_at "ne"); (case hrest => walk_at "hp"))
  | ((refine' ly_at ?hex ?hh); (case hex => assumption); (case hh => walk_at "hp"))
  | ((refine' ly_atF ?hex ?hnn ?hh); (case hex => assumption); (case hh => walk_at "hp"); (case hnn => walk_at "ne"))
  | ((refine' ex_t ?hex ?hh); (case hh => assumption); (case hex => walk_at "ex"))
  | ((refine' ex_l ?hex ?hh); (case hh => assumption); (case hex => walk_at "ex")))
local macro_rules | `(tactic| walk_at "ex") => `(tactic| first
  | assumption
  | exact Ex.refl _
  | ((refine' ex_new ?xa ?xb); (case xb => assumption); (case xa => walk_at "ex"))
  | ((refine' ex_upd ?xa ?xb); (case xb => walk_at "free"); (case xa => walk_at "ex"))
  | ((refine' Ex.trans ?xa ?xb); (case xb => assumption); (case xa => walk_at "ex")))
local macro_rules | `(tactic| walk_at "free") => `(tactic| first
  | assumption
  | ((refine' fresh_back ?xa ?xb); (case xb => assumption); (case xa => walk_at "ex")))
local macro_rules | `(tactic| walk_at "fr") => `(tactic| first
  | assumption
  | exact Fr.refl _ _
  | ((refine' Fr.own ?hq); (case hq => walk_at "fr"))
  | ((refine' Fr.new ?xa ?xb); (case xb => assumption); (case xa => walk_at "fr"))
  | ((refine' Fr.mut ?xa ?xb); (case xb => assumption); (case xa => walk_at "fr"))
  | ((refine' Fr.trans ?xa ?xb); (case xb => assumption); (case xa => walk_at "fr"))
  | ((refine' Fr.trans ?xa (Fr.ex ?xb)); (case xb => assumption); (case xa => walk_at "fr")))
local macro_rules | `(tactic| walk_at "go1") => `(tactic| first
  | (with_reducible refine' w_seq ?_)
  | (with_reducible refine' w_asg ?_)
  | (with_reducible refine' w_ret ?_)
  | (with_reducible refine' w_drop ?_)
  | (with_reducible refine' w_if ?_)
  | (with_reducible refine' w_next ?_)
  | (with_reducible refine' w_name ?_)
  | (with_reducible refine' w_sub ?_)
  | ((with_reducible refine' w_var ?hv ?_); (case hv => exact rfl))
  | (with_reducible refine' w_c ?_)
  | (with_reducible refine' w_op ?_)
  | (with_reducible refine' w_un ?_)
  | (with_reducible refine' w_ch ?_)
  | (with_reducible refine' w_I0 ?_)
  | ((with_reducible refine' w_I ?hc ?_); (case hc => first | (exact ly_mulL (by decide) (by decide)) | (exact ly_mulR (by decide) (by decide)) | (exact ly_mulL (by omega) (by omega)) | (show (_ : Int) ≠ 0; decide) | (show (_ : Int) ≠ 0; omega) | (exact ⟨by decide, by decide⟩) | (exact ⟨by omega, by omega⟩)))
  | (with_reducible refine' w_U ?_)
  | ((with_reducible refine' w_eq ?hs ?_); (case hs => exact rfl))
  | ((with_reducible refine' w_ne ?hs ?_); (case hs => exact rfl))
  | (with_reducible refine' w_isB ?_)
  | (with_reducible refine' w_notB ?_)
  | (with_reducible refine' w_nil ?_)
  | (with_reducible refine' w_cons ?_)
  | (with_reducible refine' w_tup ?_)
  | (with_reducible refine' w_lst ?_)
  | (with_reducible refine' w_cb ?_)
  | (with_reducible refine' w_call ?_)
  | (with_reducible refine' w_bm ?_)
  | (with_reducible refine' w_bm0 ?_)
  | ((with_reducible refine' w_app ?hh ?hz ?_); (case hh => walk_at "hp"); (case hz => first | exact ly_lt (by omega) | exact ly_lt (by simp only [List.length_append, List.length_map, List.length_cons, List.length_nil]; omega)))
  | ((with_reducible refine' w_popA ?hh ?_); (case hh => walk_at "hp"))
  | ((with_reducible refine' w_ext ?hh ?hh2 ?hz ?_); (case hh => walk_at "hp"); (case hh2 => walk_at "hp"))
  | ((with_reducible refine' w_ixL ?hh ?ha ?_); (case hh => walk_at "hp"); (case ha => first | exact rfl | exact at_map (by omega) | exact atI_last _ _ | ((refine' at_of ?ae ?ah); (case ah => assumption); (case ae => omega))))
  | ((with_reducible refine' w_ixT ?hh ?ha ?_); (case hh => walk_at "hp"); (case ha => first | exact rfl | exact at_map (by omega) | exact atI_last _ _ | ((refine' at_of ?ae ?ah); (case ah => assumption); (case ae => omega))))
  | ((with_reducible refine' w_cat ?hh ?hh2 ?hz ?_); (case hh => walk_at "hp"); (case hh2 => walk_at "hp"))
  | ((with_reducible refine' w_setL ?hh ?ha ?_); (case hh => walk_at "hp"); (case ha => exact rfl))
  | (with_reducible refine' w_test ?_)
  | (with_reducible refine' w_tB ?_)
  | (with_reducible refine' w_bl ?_)
  | (with_reducible refine' w_and ?_)
  | (with_reducible refine' w_or ?_)
  | (with_reducible refine' w_not ?_)
  | (with_reducible refine' w_andV ?_)
  | (with_reducible refine' w_orV ?_)
  | (with_reducible refine' w_notV ?_)
  | (with_reducible refine' w_ifE ?_)
  | (with_reducible refine' w_for ?_)
  | ((with_reducible refine' w_nin ?hh ?_); (case hh => walk_at "hp"))
  | ((with_reducible refine' w_sorted ?hh ?_); (case hh => walk_at "hp"))
  | (with_reducible refine' w_tsadd ?_)
  | ((with_reducible refine' w_tsadd1 ?hh ?_); (case hh => walk_at "hp"))
  | ((with_reducible refine' w_sadd ?hh ?hr ?_); (case hh => walk_at "hp"); (case hr => omega))
  | (with_reducible refine' w_iZ ?_)
  | ((with_reducible refine' w_iZ1 ?hh ?hh2 ?_); (case hh => walk_at "hp"); (case hh2 => walk_at "hp"))
  | (with_reducible refine' w_iS ?_)
  | (with_reducible refine' w_iS1 ?_)
  | ((with_reducible refine' w_gtup ?hh ?hn ?_); (case hh => walk_at "hp"); (case hn => exact rfl))
  | (with_reducible refine' w_gcons ?_)
  | (with_reducible refine' w_gnil ?_)
  | (with_reducible refine' w_js ?_)
  | (with_reducible refine' w_jsn ?_)
  | ((with_reducible refine' w_js1 ?hl ?_); (case hl => decide +kernel))
  | (with_reducible refine' w_fmt ?_)
  | ((with_reducible refine' w_fmt1 ?hl ?_); (case hl => decide +kernel))
  | (with_reducible refine' w_callS ?_)
  | ((with_reducible refine' w_truL ?hh ?_); (case hh => walk_at "hp"))
  | (with_reducible refine' w_lc ?_)
  | (with_reducible refine' w_yes ?_)
  | ((with_reducible refine' w_wipe ?he ?_); (case he => exact rfl))
  | (with_reducible refine' w_iL ?_)
  | (with_reducible refine' w_iT ?_)
  | (with_reducible refine' w_iR ?_)
  | ((with_reducible refine' w_iL1 ?hh ?_); (case hh => walk_at "hp"))
  | ((with_reducible refine' w_iT1 ?hh ?_); (case hh => walk_at "hp"))
  | ((with_reducible refine' w_iR1 ?h1 ?h2 ?_); (case h1 => omega); (case h2 => omega))
  | ((with_reducible refine' w_aug ?hv ?_); (case hv => exact rfl))
  | (with_reducible refine' w_ipI ?_)
  | ((with_reducible refine' w_isi ?hy ?hk ?_); (case hy => walk_at "ty"); (case hk => walk_at "kit"))
  | ((with_reducible refine' w_int ?_))
  | ((with_reducible refine' w_intB ?_))
  | ((with_reducible refine' w_abs ?_))
  | ((with_reducible refine' w_lenL ?hh ?_); (case hh => walk_at "hp"))
  | ((with_reducible refine' w_lenT ?hh ?_); (case hh => walk_at "hp"))
  | ((with_reducible refine' w_tupL ?hh ?_); (case hh => walk_at "hp"))
  | ((with_reducible refine' w_tupT ?hh ?_); (case hh => walk_at "hp"))
  | ((with_reducible refine' w_catA ?hh ?hh2 ?hz ?_); (case hh => walk_at "hp"); (case hh2 => walk_at "hp"); (case hz => walk_at "len"))
  | ((with_reducible refine' w_repB ?hh ?hne ?h2 ?h3 ?hz ?_); (case hh => walk_at "hp"); (case hne => simp); (case h2 => omega); (case h3 => omega); (case hz => exact Nat.le_of_ble_eq_true rfl))
  | ((with_reducible refine' w_eqN ?hh ?hh2 ?n1 ?n2 ?_); (case hh => walk_at "hp"); (case hh2 => walk_at "hp"); (case n1 => walk_at "nd"); (case n2 => walk_at "nd"))
  | ((with_reducible refine' w_neN ?hh ?hh2 ?n1 ?n2 ?_); (case hh => walk_at "hp"); (case hh2 => walk_at "hp"); (case n1 => walk_at "nd"); (case n2 => walk_at "nd"))
  | ((with_reducible refine' w_eqL ?hh ?hh2 ?n1 ?n2 ?_); (case hh => walk_at "hp"); (case hh2 => walk_at "hp"); (case n1 => walk_at "nd"); (case n2 => walk_at "nd"))
  | ((with_reducible refine' w_neL ?hh ?hh2 ?n1 ?n2 ?_); (case hh => walk_at "hp"); (case hh2 => walk_at "hp"); (case n1 => walk_at "nd"); (case n2 => walk_at "nd"))
  | ((with_reducible refine' w_neNon ?hh2 ?n2 ?_); (case hh2 => walk_at "hp"); (case n2 => walk_at "nd"))
  | ((with_reducible refine' w_eqNon ?hh2 ?n2 ?_); (case hh2 => walk_at "hp"); (case n2 => walk_at "nd"))
  | ((with_reducible refine' w_slA ?hh ?_); (case hh => walk_at "hp"))
  | ((with_reducible refine' w_disp ?hz ?_); (case hz => exact sz_of (Nat.le_of_ble_eq_true rfl)))
  | ((with_reducible refine' w_tyL ?hh ?_); (case hh => walk_at "hp"))
  | (with_reducible refine' iteT ?_)
  | (with_reducible refine' iteF ?_)
  | (with_reducible refine' w_nT ?_)
  | (with_reducible refine' w_nn ?_)
  | (with_reducible refine' w_nnT ?_)
  | (with_reducible refine' w_nnR ?_)
  | (with_reducible refine' w_neG ?_)
  | (with_reducible refine' w_eqG ?_)
  | (with_reducible refine' w_neS ?_)
  | (with_reducible refine' w_eqS ?_)
  | (with_reducible refine' w_neSb ?_)
  | (with_reducible refine' w_eqSb ?_)
  | (with_reducible refine' w_deIS ?_)
  | (with_reducible refine' w_deSI ?_)
  | (with_reducible refine' w_deISn ?_)
  | ((with_reducible refine' w_deST ?he ?_); (case he => decide +kernel))
  | ((with_reducible refine' w_deSF ?he ?_); (case he => decide +kernel))
  | ((with_reducible refine' w_deSTn ?he ?_); (case he => decide +kernel))
  | ((with_reducible refine' w_deSFn ?he ?_); (case he => decide +kernel))
  | (with_reducible refine' w_nF ?_)
  | dsimp only [Bool.not_true, Bool.not_false])
local macro_rules | `(tactic| walk_at "ty") => `(tactic| first
  | exact .base (.int _) | exact .base (.str _) | exact .base (.bl _) | exact .base .non
  | ((refine' tyx_t ?hq); (case hq => walk_at "hp")) | ((refine' tyx_l ?hq); (case hq => walk_at "hp")) | ((refine' .base (.tup ?hq)); (case hq => walk_at "hp")) | assumption)
local macro_rules | `(tactic| walk_at "go") => `(tactic| repeat walk_at "go1")
local macro_rules | `(tactic| walk_at "st") => `(tactic| try dsimp only [cxOf, Cx.nox, Cx.wish])
local macro_rules | `(tactic| walk_at "kit") => `(tactic| with_reducible first | exact kit_int_int | exact kit_int_str | exact kit_int_bool | exact kit_int_tuple | exact kit_int_list | exact kit_str_int | exact kit_str_str | exact kit_str_bool | exact kit_str_tuple | exact kit_str_list | exact kit_bool_int | exact kit_bool_str | exact kit_bool_bool | exact kit_bool_tuple | exact kit_bool_list | exact kit_NoneType_int | exact kit_NoneType_str | exact kit_NoneType_bool | exact kit_NoneType_tuple | exact kit_NoneType_list | exact kit_list_int | exact kit_list_str | exact kit_list_bool | exact kit_list_tuple | exact kit_list_list | exact kit_tuple_int | exact kit_tuple_str | exact kit_tuple_bool | exact kit_tuple_tuple | exact kit_tuple_list)
local macro_rules | `(tactic| walk_at "nd") => `(tactic| first
  | assumption
  | exact Tm.nds _
  | exact Nds.nil
  | exact Nds.ofInts _
  | ((refine' Nds.cons ?na ?nb); (case na => first | exact Nds.I _ | exact Nds.L | exact Nds.A); (case nb => walk_at "nd"))
  | ((refine' Nds.app ?na ?nb); (case na => walk_at "nd"); (case nb => walk_at "nd"))
  | ((refine' Nds.rep ?na _); (case na => walk_at "nd")))
local macro_rules | `(tactic| walk_at "len") => `(tactic| first
  | exact ly_sz (by omega)
  | ((simp only [List.length_append, List.length_cons, List.length_nil, List.length_map, PyProof.Rows.lm_len_rep_flat]); exact ly_sz (by omega)))
local macro_rules | `(tactic| walk_at "go1") => `(tactic| first
  | (with_reducible refine' w_kget2 ?_)
  | (with_reducible refine' w_isRN ?_)
  | (with_reducible refine' w_isNN ?_)
  | (with_reducible refine' w_isIN ?_)
  | ((with_reducible refine' w_kg ?hd ?_); (case hd => assumption)))
local macro_rules | `(tactic| walk_at "go1") => `(tactic| first
  | ((with_reducible refine' w_extT ?hh ?hh2 ?hz ?_); (case hh => walk_at "hp"); (case hh2 => walk_at "hp"))
  | ((with_reducible refine' w_I ?hc ?_); (case hc => exact ⟨by decide, by decide, by decide⟩))
  | (with_reducible refine' w_sl ?_)
  | (with_reducible refine' w_noP ?_)
  | (with_reducible refine' w_part ?_)
  | (with_reducible refine' w_part1 ?_)
  | (with_reducible refine' w_it ?_)
  | (with_reducible refine' w_it1 ?_)
  | ((with_reducible refine' w_lenZ ?hz ?_); (case hz => omega))
  | ((with_reducible refine' w_addZb ?hz ?_); (case hz => omega))
  | ((with_reducible refine' w_addZf ?hz ?_); (case hz => omega))
  | ((with_reducible refine' w_addZa ?hz ?_); (case hz => omega))
  | ((with_reducible refine' w_inS ?hh ?_); (case hh => walk_at "hp"))
  | ((with_reducible refine' w_ixT ?hh ?ha ?_); (case hh => assumption); (case ha => exact atI_nat (by assumption))))
local macro_rules | `(tactic| walk_at "go1") => `(tactic| first
  | (with_reducible refine' w_iR2 ?_)
  | ((with_reducible refine' w_iR21 ?h1 ?h2 ?h3 ?h4 ?_); (case h1 => omega); (case h2 => omega); (case h3 => omega); (case h4 => omega))
  | (with_reducible refine' w_nnI ?_)
  | (with_reducible refine' w_max ?_)
  | (with_reducible refine' w_break ?_)
  | (with_reducible refine' w_cont ?_))
section
variable {P : Program} {w : World} {K : PySem.W.Frag} {mg : Str → Option Value} {base : Heap} {tk : Nat → Tok} {cl : Nat → Addr}
local macro_rules | `(tactic| walk_at "go1") => `(tactic| first
  | (with_reducible refine' w_make ?_)
  | (with_reducible refine' w_tfld ?_))
def spSource (K : PySem.W.Frag) (C : Addr) : Sp := fun vs H Q _ => ∃ (a : Addr) (as : List Addr) (n : Addr → Prop) (t v : Tm) (road : List (List Nat)) (ms : List Mv) (k : Nat) (m : Mv), vs = [.ref a, .int (k : Int)] ∧ H a = some (.lst (refs as)) ∧ MvsAt K C n H as ms ∧ Run t road ms v ∧ t.enc.length ≤ 3000 ∧ ms.length ≤ 100000 ∧ ms[k]? = some m ∧
  (∀ s : Nat, src (ms.take k) m.i = some s → ∀ H', Ex H H' → Q (.int (s : Int)) H') ∧ (src (ms.take k) m.i = none → ∀ H', Ex H H' → Q .non H')
theorem ok_source {f : Addr} {fd : FuncData} (F : Fun K "source" "source" s_source f fd) (T : Txt w K mg tk cl)
    (D1 : Def P w K mg base CX0 1 "is_redex" ["term", "at"] (spIsRed K)) : FnOk P w K mg base CX0 3 f fd ["moves", "number"] (spSource K (cl 20)) := by
  obtain ⟨f1, fd1, g_is_redex, kp_is_redex, b_is_redex, G_is_redex⟩ := D1
  refine F.ok sc_source (fun vs H Q E h => ?_) (fun cdv A outer s H vs Q E hr h => ?_)
  · obtain ⟨_, _, _, _, _, _, _, _, _, rfl, _⟩ := h
    rfl
  · obtain ⟨a, as, n, t, v, road, ms, k, m, rfl, ha, hms, run, hlen, hml, hm, qs, qn⟩ := h
    refine ⟨_, (pss_cons (ps_set (i := 2) sc_source.nd rfl (.inl rfl) (pe_fld (pe_ix ix_list (pv 0) (pv 1) (fun _ _ => rfl)) rfl)) (pss_cons (ps_for PassesOwn.never rfl (RT.pi_revA (by rfl) T.n_reversed (pe_slice sl_list (pv 0) po_none (po_some (pv 1)))) (pg_name (i := 3) sc_source.nd rfl (.inl rfl)) (pss_cons (ps_set (i := 2) sc_source.nd rfl (.inl rfl) (pe_ix ix_list (pe_fld (pv 3) rfl) (pv 2) (fun _ _ => rfl))) (pss_one (ps_if (pt_not (pt_val (pe_call G_is_redex (hr.mono (by first | decide | omega)) (by rfl) g_is_redex kp_is_redex b_is_redex .nil pass0 (pa_cons (pe_fld (pv 3) rfl) (pa_cons (pv 2) pa_nil))))) (pss_one (ps_ret pe_non)) pss_nil)))) (pss_one (ps_ret (pv 2))))), ?_⟩
    refine sl_of (σ2 := [some _, some _, none, none]) rfl ?_
    walk_at "st"
    have asl := hms.len
    have hk : k < ms.length := (List.getElem?_eq_some_iff.mp hm).1
    obtain ⟨x, hx⟩ : ∃ x, as[k]? = some x := ⟨_, List.getElem?_eq_getElem (by omega)⟩
    have hxv : (refs as)[k]? = some (.ref x) := by rw [List.getElem?_map, hx]; rfl
    have ral : (refs as).length = as.length := List.length_map _
    obtain ⟨m', hm', hmv⟩ := hms.at hx
    rw [hm] at hm'
    cases hm'
    obtain ⟨hred, dx, ta, ra, oa, h1, h2, h3, h4, h5⟩ := hmv
    walk_at "go"
    refine ⟨x, cl 20, dx, _, _, rfl, h1, T.cls_Move, T.nf_Move_at, mv_at _ _ _ _, ?_⟩
    walk_at "go"
    unfold RT.iRevA
    walk_at "go"
    refine w_slL (SqL.of ha) ?_
    intro pl0 hpl0
    have ct : cutV (refs as) none (some (k : Int)) = refs (as.take k) := by
      rw [cut_lo]
      exact (List.map_take ..).symm
    rw [ct]
    have e1 : Ex H (upd H pl0 (.lst (refs (as.take k)))) := Ex.new hpl0
    have hp1 : upd H pl0 (.lst (refs (as.take k))) pl0 = some (.lst (refs (as.take k))) := upd_same
    generalize upd H pl0 (.lst (refs (as.take k))) = H1 at *
    have tl : (refs (as.take k)).length = k := by
      rw [List.length_map, List.length_take]
      omega
    refine ⟨pl0, _, rfl, .inl ⟨SqL.of hp1, ?_⟩⟩
    refine RT.for_Itv (K := K) (a := pl0) (xs := refs (as.take k)) (fun i σ H' => ∃ (xi : Nat) (y : Option V), σ = [some (.ref a), some (.int (k : Int)), some (.int (xi : Int)), y] ∧ H' = H1 ∧ i ≤ k ∧ src (ms.take (k - i)) xi = src (ms.take k) m.i ∧ (∀ m', ms[k - i]? = some m' → xi < m'.t.enc.length))
      ⟨m.i, _, rfl, rfl, Nat.zero_le _, rfl, fun m' hm2 => ?_⟩ (fun i σ H' ⟨_, _, _, h, _⟩ => by rw [h]; exact SqL.of hp1) ?_ ?_
    · rw [Nat.sub_zero, hm] at hm2
      rw [← Option.some.inj hm2]
      obtain ⟨post, hdr⟩ := Tm.red_at hred
      obtain ⟨a0, _⟩ := drop_get hdr
      exact (List.getElem?_eq_some_iff.mp a0).1
    · rintro i z σ H' hi hz ⟨xi, y, rfl, rfl, hik, hsrc, hxi⟩
      rw [tl] at hi hz
      have hz2 : (as.take k)[k - 1 - i]?.map V.ref = some z := by rw [← List.getElem?_map]; exact hz
      obtain ⟨z0, hz3, rfl⟩ := Option.map_eq_some_iff.mp hz2
      rw [List.getElem?_take_of_lt (by omega)] at hz3
      obtain ⟨m1, hm1, hmv1⟩ := (hms.ex e1).at hz3
      obtain ⟨hred1, dx1, ta1, ra1, oa1, g1, g2, g3, g4, g5⟩ := hmv1
      obtain ⟨mk, hmk⟩ : ∃ mk, ms[k - i]? = some mk := ⟨_, List.getElem?_eq_getElem (by omega)⟩
      have hnx := run.next (k := k - 1 - i) hm1 (by rw [show k - 1 - i + 1 = k - i by omega]; exact hmk)
      have hxl := hxi mk hmk
      rw [hnx] at hxl
      obtain ⟨o, ho, heo, hol⟩ := Mv.at m1 hred1 hxl
      have hov : (nums (stepO m1.t m1.i m1.b m1.u))[xi]? = some (.int (o : Int)) := by
        rw [List.getElem?_map]
        show (m1.O[xi]?).map _ = _
        rw [ho]
        rfl
      have htk : ms.take (k - i) = ms.take (k - 1 - i) ++ [m1] := by
        rw [show k - i = k - 1 - i + 1 by omega, List.take_add_one, hm1]
        rfl
      rw [htk, src_snoc, heo] at hsrc
      walk_at "go"
      refine ⟨z0, cl 20, dx1, _, _, rfl, g1, T.cls_Move, T.nf_Move_origins, mv_origins _ _ _ _, ?_⟩
      walk_at "go"
      refine ⟨z0, cl 20, dx1, _, _, rfl, g1, T.cls_Move, T.nf_Move_term, mv_term _ _ _ _, ?_⟩
      walk_at "go"
      refine ⟨ta1, m1.t, o, rfl, g2, hol, ?_⟩
      cases hb : redB m1.t.enc o with
      | true =>
        rw [hb, if_pos rfl] at hsrc
        walk_at "go"
        refine ⟨o, _, rfl, rfl, by omega, ?_, fun m' hm2 => ?_⟩
        · rw [show k - (i + 1) = k - 1 - i by omega]
          exact hsrc
        · rw [show k - (i + 1) = k - 1 - i by omega, hm1] at hm2
          rw [← Option.some.inj hm2]
          exact hol
      | false =>
        rw [hb, if_neg (by decide)] at hsrc
        walk_at "go"
        exact qn hsrc.symm _ e1
    · rintro σ H' ⟨xi, y, rfl, rfl, hik, hsrc, hxi⟩
      rw [tl, Nat.sub_self, List.take_zero] at hsrc
      walk_at "go"
      exact qs xi hsrc.symm _ e1
def spFirstSrc (K : PySem.W.Frag) (C : Addr) : Sp := fun vs H Q _ => ∃ (a : Addr) (as : List Addr) (n : Addr → Prop) (t v : Tm) (road : List (List Nat)) (ms : List Mv) (m : Mv), vs = [.ref a] ∧ H a = some (.lst (refs as)) ∧ MvsAt K C n H as ms ∧ Run t road ms v ∧ t.enc.length ≤ 3000 ∧ ms.length ≤ 100000 ∧ ms[0]? = some m ∧
  ∀ H' p, Ex H H' → SqT K H' p [.int ((fsN ms m.i (ms.length - 1)).1 : Int), .int ((fsN ms m.i (ms.length - 1)).2 : Int)] → Q (.ref p) H'
theorem ok_fsource {f : Addr} {fd : FuncData} (F : Fun K "first_source" "first_source" s_first_source f fd) (T : Txt w K mg tk cl)
    (D1 : Def P w K mg base CX0 3 "source" ["moves", "number"] (spSource K (cl 20))) : FnOk P w K mg base CX0 4 f fd ["moves"] (spFirstSrc K (cl 20)) := by
  obtain ⟨f1, fd1, g_source, kp_source, b_source, G_source⟩ := D1
  refine F.ok sc_first_source (fun vs H Q E h => ?_) (fun cdv A outer s H vs Q E hr h => ?_)
  · obtain ⟨_, _, _, _, _, _, _, _, rfl, _⟩ := h
    rfl
  · obtain ⟨a, as, n, t, v, road, ms, m, rfl, ha, hms, run, hlen, hml, hm, q⟩ := h
    refine ⟨_, (pss_cons (ps_set (i := 1) sc_first_source.nd rfl (.inl rfl) (pe_fld (pe_ix ix_list (pv 0) pe_int (fun _ _ => rfl)) rfl)) (pss_cons (ps_set (i := 2) sc_first_source.nd rfl (.inl rfl) pe_int) (pss_cons (ps_for PassesOwn.never rfl (pi_range2 (by rfl) T.n_range (pa_cons pe_int (pa_cons (pe_callB call_len_seq (by rfl) T.n_len (by decide +kernel) (pa_cons (pv 0) pa_nil)) pa_nil))) (pg_name (i := 3) sc_first_source.nd rfl (.inl rfl)) (pss_cons (ps_set (i := 4) sc_first_source.nd rfl (.inl rfl) (pe_call G_source (hr.mono (by first | decide | omega)) (by rfl) g_source kp_source b_source .nil pass0 (pa_cons (pv 0) (pa_cons (pv 3) pa_nil)))) (pss_one (ps_if (PW.pt (pw_and (pt_cmpR op_notN (pv 4) pe_non (nomark _)) (pw_and1 (pt_cmpR op_lt (pv 4) (pv 1) (nomark _))))) (pss_cons (ps_set (i := 1) sc_first_source.nd rfl (.inl rfl) (pv 4)) (pss_one (ps_set (i := 2) sc_first_source.nd rfl (.inl rfl) (pv 3)))) pss_nil)))) (pss_one (ps_ret (pe_tup (pa_cons (pv 1) (pa_cons (pv 2) pa_nil)))))))), ?_⟩
    refine sl_of (σ2 := [some _, none, none, none, none]) rfl ?_
    walk_at "st"
    have asl := hms.len
    have hk : 0 < ms.length := (List.getElem?_eq_some_iff.mp hm).1
    obtain ⟨x, hx⟩ : ∃ x, as[0]? = some x := ⟨_, List.getElem?_eq_getElem (by omega)⟩
    have hxv : (refs as)[0]? = some (.ref x) := by rw [List.getElem?_map, hx]; rfl
    have ral : (refs as).length = as.length := List.length_map _
    obtain ⟨m', hm', hmv⟩ := hms.at hx
    rw [hm] at hm'
    cases hm'
    obtain ⟨hred, dx, ta, ra, oa, h1, h2, h3, h4, h5⟩ := hmv
    walk_at "go"
    refine ⟨x, cl 20, dx, _, _, rfl, h1, T.cls_Move, T.nf_Move_at, mv_at _ _ _ _, ?_⟩
    walk_at "go"
    refine for_range (lo := 1) (n := (((refs as).length : Int) - 1).toNat) (fun j σ H' => ∃ (y1 y2 : Option V), σ = [some (.ref a), some (.int ((fsN ms m.i j).1 : Int)), some (.int ((fsN ms m.i j).2 : Int)), y1, y2] ∧ Ex H H')
      ⟨_, _, rfl, fun _ _ h => h⟩ ?_ ?_
    · rintro j σ H1 hj ⟨y1, y2, rfl, e1⟩
      have hj1 : j + 1 < ms.length := by omega
      obtain ⟨mj, hmj⟩ : ∃ mj, ms[j + 1]? = some mj := ⟨_, List.getElem?_eq_getElem hj1⟩
      have ej : ((1 : Int) + (j : Int)) = ((j + 1 : Nat) : Int) := by omega
      walk_at "go"
      refine ⟨a, as, n, t, v, road, ms, j + 1, mj, by rw [← ej]; rfl, e1 _ _ ha, hms.ex e1, run, hlen, hml, hmj, fun s hs H2 e2 => ?_, fun hs H2 e2 => ?_⟩
      · have ef : fsN ms m.i (j + 1) = if s < (fsN ms m.i j).1 then (s, j + 1) else fsN ms m.i j := by
          show (match (ms[j + 1]?).bind fun m => src (ms.take (j + 1)) m.i with | some s => _ | none => _) = _
          rw [hmj]
          show (match src (ms.take (j + 1)) mj.i with | some s => _ | none => _) = _
          rw [hs]
        rw [ef]
        walk_at "go"
        refine w_br (fun c1 => ?_) (fun c1 => ?_)
        · rw [if_pos (by omega)]
          walk_at "go"
          exact ⟨_, _, by rw [ej]; rfl, e1.trans e2⟩
        · rw [if_neg (by omega)]
          walk_at "go"
          exact ⟨_, _, rfl, e1.trans e2⟩
      · have ef : fsN ms m.i (j + 1) = fsN ms m.i j := by
          show (match (ms[j + 1]?).bind fun m => src (ms.take (j + 1)) m.i with | some s => _ | none => _) = _
          rw [hmj]
          show (match src (ms.take (j + 1)) mj.i with | some s => _ | none => _) = _
          rw [hs]
        rw [ef]
        walk_at "go"
        exact ⟨_, _, rfl, e1.trans e2⟩
    · rintro σ H1 ⟨y1, y2, rfl, e1⟩
      have en : (((refs as).length : Int) - 1).toNat = ms.length - 1 := by omega
      rw [en]
      walk_at "go"
      intro p hp
      exact q _ p (ex_new e1 hp) (SqT.of upd_same)
end
end Ly
set_option Elab.async false
set_option linter.all false
set_option maxRecDepth 100000
set_option maxHeartbeats 8000000
namespace Ly
open PySem PySem.Spec PyProof.Rows L2 Evl
local macro_rules | `(tactic| walk_at "ne") => `(tactic| first
  | assumption
  | ((refine' Ne.symm ?hq); (case hq => assumption))
  | ((refine' ne_of_none ?nh1 ?nh2); (case nh2 => assumption); (case nh1 => walk_at "hp"))
  | ((refine' Ne.symm (ne_of_none ?nh1 ?nh2)); (case nh2 => assumption); (case nh1 => walk_at "hp")))
local macro_rules | `(tactic| walk_at "hp") => `(tactic| first
  | assumption
  | exact upd_same
  | ((refine' SqL.of ?hq); (case hq => walk_at "hp"))
  | ((refine' SqT.of ?hq); (case hq => walk_at "hp"))
  | ((refine' (upd_ne ?hne).trans ?hrest); (case hne => walk_at "ne"); (case hrest => walk_at "hp"))
  | ((refine' ly_at ?hex ?hh); (case hex => assumption); (case hh => walk_at "hp"))
  | ((refine' ly_atF ?hex ?hnn ?hh); (case hex => assumption); (case hh => walk_at "hp"); (case hnn => walk_at "ne"))
  | ((refine' ex_t ?hex ?hh); (case hh => assumption); (case hex => walk_at "ex"))
  | ((refine' ex_l ?hex ?hh); (case hh => assumption); (case hex => walk_at "ex")))
local macro_rules | `(tactic| walk_at "ex") => `(tactic| first
  | assumption
  | exact Ex.refl _
  | ((refine' ex_new ?xa ?xb); (case xb => assumption); (case xa => walk_at "ex"))
  | ((refine' ex_upd ?xa ?xb); (case xb => walk_at "free"); (case xa => walk_at "ex"))
  | ((refine' Ex.trans ?xa ?xb); (case xb => assumption); (case xa => walk_at "ex")))
local macro_rules | `(tactic| walk_at "free") => `(tactic| first
  | assumption
  | ((refine' fresh_back ?xa ?xb); (case xb => assumption); (case xa => walk_at "ex")))
local macro_rules | `(tactic| walk_at "fr") => `(tactic| first
  | assumption
  | exact Fr.refl _ _
  | ((refine' Fr.own ?hq); (case hq => walk_at "fr"))
  | ((refine' Fr.new ?xa ?xb); (case xb => assumption); (case xa => walk_at "fr"))
  | ((refine' Fr.mut ?xa ?xb); (case xb => assumption); (case xa => walk_at "fr"))
  | ((refine' Fr.trans ?xa ?xb); (case xb => assumption); (case xa => walk_at "fr"))
  | ((refine' Fr.trans ?xa (Fr.ex ?xb)); (case xb => assumption); (case xa => walk_at "fr")))
local macro_rules | `(tactic| walk_at "go1") => `(tactic| first
  | (with_reducible refine' w_seq ?_)
  | (with_reducible refine' w_asg ?_)
  | (with_reducible refine' w_ret ?_)
  | (with_reducible refine' w_drop ?_)
  | (with_reducible refine' w_if ?_)
  | (with_reducible refine' w_next ?_)
  | (with_reducible refine' w_name ?_)
  | (with_reducible refine' w_sub ?_)
  | ((with_reducible refine' w_var ?hv ?_); (case hv => exact rfl))
  | (with_reducible refine' w_c ?_)
  | (with_reducible refine' w_op ?_)
  | (with_reducible refine' w_un ?_)
  | (with_reducible refine' w_ch ?_)
  | (with_reducible refine' w_I0 ?_)
  | ((with_reducible refine' w_I ?hc ?_); (case hc => first | (exact ly_mulL (by decide) (by decide)) | (exact ly_mulR (by decide) (by decide)) | (exact ly_mulL (by omega) (by omega)) | (show (_ : Int) ≠ 0; decide) | (show (_ : Int) ≠ 0; omega) | (exact ⟨by decide, by decide⟩) | (exact ⟨by omega, by omega⟩)))
  | (with_reducible refine' w_U ?_)
  | ((with_reducible refine' w_eq ?hs ?_); (case hs => exact rfl))
  | ((with_reducible refine' w_ne ?hs ?_); (case hs => exact rfl))
  | (with_reducible refine' w_isB ?_)
  | (with_reducible refine' w_notB ?_)
  | (with_reducible refine' w_nil ?_)
  | (with_reducible refine' w_cons ?_)
  | (with_reducible refine' w_tup ?_)
  | (with_reducible refine' w_lst ?_)
  | (with_reducible refine' w_cb ?_)
  | (with_reducible refine' w_call ?_)
  | (with_reducible refine' w_bm ?_)
  | (with_reducible refine' w_bm0 ?_)
  | ((with_reducible refine' w_app ?hh ?hz ?_); (case hh => walk_at "hp"); (case hz => first | exact ly_lt (by omega) | exact ly_lt (by simp only [List.length_append, List.length_map, List.length_cons, List.length_nil]; omega)))
  | ((with_reducible refine' w_popA ?hh ?_); (case hh => walk_at "hp"))
  | ((with_reducible refine' w_ext ?hh ?hh2 ?hz ?_); (case hh => walk_at "hp"); (case hh2 => walk_at "hp"))
  | ((with_reducible refine' w_ixL ?hh ?ha ?_); (case hh => walk_at "hp"); (case ha => first | exact rfl | exact at_map (by omega) | exact atI_last _ _ | ((refine' at_of ?ae ?ah); (case ah => assumption); (case ae => omega))))
  | ((with_reducible refine' w_ixT ?hh ?ha ?_); (case hh => walk_at "hp"); (case ha => first | exact rfl | exact at_map (by omega) | exact atI_last _ _ | ((refine' at_of ?ae ?ah); (case ah => assumption); (case ae => omega))))
  | ((with_reducible refine' w_cat ?hh ?hh2 ?hz ?_); (case hh => walk_at "hp"); (case hh2 => walk_at "hp"))
  | ((with_reducible refine' w_setL ?hh ?ha ?_); (case hh => walk_at "hp"); (case ha => exact rfl))
  | (with_reducible refine' w_test ?_)
  | (with_reducible refine' w_tB ?_)
  | (with_reducible refine' w_bl ?_)
  | (with_reducible refine' w_and ?_)
  | (with_reducible refine' w_or ?_)
  | (with_reducible refine' w_not ?_)
  | (with_reducible refine' w_andV ?_)
  | (with_reducible refine' w_orV ?_)
  | (with_reducible refine' w_notV ?_)
  | (with_reducible refine' w_ifE ?_)
  | (with_reducible refine' w_for ?_)
  | ((with_reducible refine' w_nin ?hh ?_); (case hh => walk_at "hp"))
  | ((with_reducible refine' w_sorted ?hh ?_); (case hh => walk_at "hp"))
  | (with_reducible refine' w_tsadd ?_)
  | ((with_reducible refine' w_tsadd1 ?hh ?_); (case hh => walk_at "hp"))
  | ((with_reducible refine' w_sadd ?hh ?hr ?_); (case hh => walk_at "hp"); (case hr => omega))
  | (with_reducible refine' w_iZ ?_)
  | ((with_reducible refine' w_iZ1 ?hh ?hh2 ?_); (case hh => walk_at "hp"); (case hh2 => walk_at "hp"))
  | (with_reducible refine' w_iS ?_)
  | (with_reducible refine' w_iS1 ?_)
  | ((with_reducible refine' w_gtup ?hh ?hn ?_); (case hh => walk_at "hp"); (case hn => exact rfl))
  | (with_reducible refine' w_gcons ?_)
  | (with_reducible refine' w_gnil ?_)
  | (with_reducible refine' w_js ?_)
  | (with_reducible refine' w_jsn ?_)
  | ((with_reducible refine' w_js1 ?hl ?_); (case hl => decide +kernel))
  | (with_reducible refine' w_fmt ?_)
  | ((with_reducible refine' w_fmt1 ?hl ?_); (case hl => decide +kernel))
  | (with_reducible refine' w_callS ?_)
  | ((with_reducible refine' w_truL ?hh ?_); (case hh => walk_at "hp"))
  | (with_reducible refine' w_lc ?_)
  | (with_reducible refine' w_yes ?_)
  | ((with_reducible refine' w_wipe ?he ?_); (case he => exact rfl))
  | (with_reducible refine' w_iL ?_)
  | (with_reducible refine' w_iT ?_)
  | (with_reducible refine' w_iR ?_)
  | ((with_reducible refine' w_iL1 ?hh ?_); (case hh => walk_at "hp"))
  | ((with_reducible refine' w_iT1 ?hh ?_); (case hh => walk_at "hp"))
  | ((with_reducible refine' w_iR1 ?h1 ?h2 ?_); (case h1 => omega); (case h2 => omega))
  | ((with_reducible refine' w_aug ?hv ?_); (case hv => exact rfl))
  | (with_reducible refine' w_ipI ?_)
  | ((with_reducible refine' w_isi ?hy ?hk ?_); (case hy => walk_at "ty"); (case hk => walk_at "kit"))
  | ((with_reducible refine' w_int ?_))
  | ((with_reducible refine' w_intB ?_))
  | ((with_reducible refine' w_abs ?_))
  | ((with_reducible refine' w_lenL ?hh ?_); (case hh => walk_at "hp"))
  | ((with_reducible refine' w_lenT ?hh ?_); (case hh => walk_at "hp"))
  | ((with_reducible refine' w_tupL ?hh ?_); (case hh => walk_at "hp"))
  | ((with_reducible refine' w_tupT ?hh ?_); (case hh => walk_at "hp"))
  | ((with_reducible refine' w_catA ?hh ?hh2 ?hz ?_); (case hh => walk_at "hp"); (case hh2 => walk_at "hp"); (case hz => walk_at "len"))
  | ((with_reducible refine' w_repB ?hh ?hne ?h2 ?h3 ?hz ?_); (case hh => walk_at "hp"); (case hne => simp); (case h2 => omega); (case h3 => omega); (case hz => exact Nat.le_of_ble_eq_true rfl))
  | ((with_reducible refine' w_eqN ?hh ?hh2 ?n1 ?n2 ?_); (case hh => walk_at "hp"); (case hh2 => walk_at "hp"); (case n1 => walk_at "nd"); (case n2 => walk_at "nd"))
  | ((with_reducible refine' w_neN ?hh ?hh2 ?n1 ?n2 ?_); (case hh => walk_at "hp"); (case hh2 => walk_at "hp"); (case n1 => walk_at "nd"); (case n2 => walk_at "nd"))
  | ((with_reducible refine' w_eqL ?hh ?hh2 ?n1 ?n2 ?_); (case hh => walk_at "hp"); (case hh2 => walk_at "hp"); (case n1 => walk_at "nd"); (case n2 => walk_at "nd"))
  | ((with_reducible refine' w_neL ?hh ?hh2 ?n1 ?n2 ?_); (case hh => walk_at "hp"); (case hh2 => walk_at "hp"); (case n1 => walk_at "nd"); (case n2 => walk_at "nd"))
  | ((with_reducible refine' w_neNon ?hh2 ?n2 ?_); (case hh2 => walk_at "hp"); (case n2 => walk_at "nd"))
  | ((with_reducible refine' w_eqNon ?hh2 ?n2 ?_); (case hh2 => walk_at "hp"); (case n2 => walk_at "nd"))
  | ((with_reducible refine' w_slA ?hh ?_); (case hh => walk_at "hp"))
  | ((with_reducible refine' w_disp ?hz ?_); (case hz => exact sz_of (Nat.le_of_ble_eq_true rfl)))
  | ((with_reducible refine' w_tyL ?hh ?_); (case hh => walk_at "hp"))
  | (with_reducible refine' iteT ?_)
  | (with_reducible refine' iteF ?_)
  | (with_reducible refine' w_nT ?_)
  | (with_reducible refine' w_nn ?_)
  | (with_reducible refine' w_nnT ?_)
  | (with_reducible refine' w_nnR ?_)
  | (with_reducible refine' w_neG ?_)
  | (with_reducible refine' w_eqG ?_)
  | (with_reducible refine' w_neS ?_)
  | (with_reducible refine' w_eqS ?_)
  | (with_reducible refine' w_neSb ?_)
  | (with_reducible refine' w_eqSb ?_)
  | (with_reducible refine' w_deIS ?_)
  | (with_reducible refine' w_deSI ?_)
  | (with_reducible refine' w_deISn ?_)
  | ((with_reducible refine' w_deST ?he ?_); (case he => decide +kernel))
  | ((with_reducible refine' w_deSF ?he ?_); (case he => decide +kernel))
  | ((with_reducible refine' w_deSTn ?he ?_); (case he => decide +kernel))
  | ((with_reducible refine' w_deSFn ?he ?_); (case he => decide +kernel))
  | (with_reducible refine' w_nF ?_)
  | dsimp only [Bool.not_true, Bool.not_false])
local macro_rules | `(tactic| walk_at "ty") => `(tactic| first
  | exact .base (.int _) | exact .base (.str _) | exact .base (.bl _) | exact .base .non
  | ((refine' tyx_t ?hq); (case hq => walk_at "hp")) | ((refine' tyx_l ?hq); (case hq => walk_at "hp")) | ((refine' .base (.tup ?hq)); (case hq => walk_at "hp")) | assumption)
local macro_rules | `(tactic| walk_at "go") => `(tactic| repeat walk_at "go1")
local macro_rules | `(tactic| walk_at "st") => `(tactic| try dsimp only [cxOf, Cx.nox, Cx.wish])
local macro_rules | `(tactic| walk_at "kit") => `(tactic| with_reducible first | exact kit_int_int | exact kit_int_str | exact kit_int_bool | exact kit_int_tuple | exact kit_int_list | exact kit_str_int | exact kit_str_str | exact kit_str_bool | exact kit_str_tuple | exact kit_str_list | exact kit_bool_int | exact kit_bool_str | exact kit_bool_bool | exact kit_bool_tuple | exact kit_bool_list | exact kit_NoneType_int | exact kit_NoneType_str | exact kit_NoneType_bool | exact kit_NoneType_tuple | exact kit_NoneType_list | exact kit_list_int | exact kit_list_str | exact kit_list_bool | exact kit_list_tuple | exact kit_list_list | exact kit_tuple_int | exact kit_tuple_str | exact kit_tuple_bool | exact kit_tuple_tuple | exact kit_tuple_list)
local macro_rules | `(tactic| walk_at "nd") => `(tactic| first
  | assumption
  | exact Tm.nds _
  | exact Nds.nil
  | exact Nds.ofInts _
  | ((refine' Nds.cons ?na ?nb); (case na => first | exact Nds.I _ | exact Nds.L | exact Nds.A); (case nb => walk_at "nd"))
  | ((refine' Nds.app ?na ?nb); (case na => walk_at "nd"); (case nb => walk_at "nd"))
  | ((refine' Nds.rep ?na _); (case na => walk_at "nd")))
local macro_rules | `(tactic| walk_at "len") => `(tactic| first
  | exact ly_sz (by omega)
  | ((simp only [List.length_append, List.length_cons, List.length_nil, List.length_map, PyProof.Rows.lm_len_rep_flat]); exact ly_sz (by omega)))
local macro_rules | `(tactic| walk_at "go1") => `(tactic| first
  | (with_reducible refine' w_kget2 ?_)
  | (with_reducible refine' w_isRN ?_)
  | (with_reducible refine' w_isNN ?_)
  | (with_reducible refine' w_isIN ?_)
  | ((with_reducible refine' w_kg ?hd ?_); (case hd => assumption)))
section
variable {P : Program} {w : World} {K : PySem.W.Frag} {mg : Str → Option Value} {base : Heap} {tk : Nat → Tok} {cl : Nat → Addr}
def spChkLen (C : Addr) : Sp := fun vs H Q E => ∃ (a : Addr) (xs : List V), vs = [.ref a] ∧ H a = some (.lst xs) ∧ xs.length ≤ 1000000 ∧ (xs.length ≤ 200 → Q .non H) ∧ (200 < xs.length → ∀ H', Ex H H' → E (.ref C) none H')
theorem ok_chklen {f : Addr} {fd : FuncData} {k : Nat} (F : Fun K "check_length" "check_length" s_check_length f fd) (T : Txt w K mg tk cl) : FnOk P w K mg base (L2.CX P w) (k + 1) f fd ["road"] (spChkLen (cl 1)) := by
  refine F.okX sc_check_length (fun vs H Q E h => ?_) (fun cdv A outer s H vs Q E hr h => ?_)
  · obtain ⟨a, xs, rfl, _⟩ := h
    rfl
  · obtain ⟨a, xs, rfl, ha, hl, q, x⟩ := h
    refine ⟨_, (pss_one (ps_if (pt_cmpR op_gt (pe_callB call_len_seq (by rfl) T.n_len (by decide +kernel) (pa_cons (pv 0) pa_nil)) (pe_glob (v := .int 200) rfl T.g_MOST_ROAD ⟨_, rfl⟩) (nomark _)) (pss_one (ps_raise rfl (takes_of rfl rfl rfl rfl) (SkE.pmk_own1 PySem.F.excBase_ValueError T.x_TooLarge T.g_TooLarge T.k_TooLarge (raises_own T.b_TooLarge T.t_TooLarge) rfl (pe_joined (.cons pe_str (.cons (pe_fmt (pe_glob (v := .int 200) rfl T.g_MOST_ROAD ⟨_, rfl⟩)) (.cons pe_str .nil))))))) pss_nil)), ?_⟩
    refine sl_of (σ2 := [some _]) rfl ?_
    walk_at "st"
    walk_at "go"
    refine w_br (fun h1 => ?_) (fun h1 => ?_)
    · walk_at "go"
      exact x (by omega) _ (Ex.refl _)
    · walk_at "go"
      exact q (by omega)
end
end Ly
set_option Elab.async false
set_option linter.all false
set_option maxRecDepth 100000
set_option maxHeartbeats 8000000
namespace Ly
open PySem PySem.Spec PyProof.Rows L2 Evl
local macro_rules | `(tactic| walk_at "ne") => `(tactic| first
  | assumption
  | ((refine' Ne.symm ?hq); (case hq => assumption))
  | ((refine' ne_of_none ?nh1 ?nh2); (case nh2 => assumption); (case nh1 => walk_at "hp"))
  | ((refine' Ne.symm (ne_of_none ?nh1 ?nh2)); (case nh2 => assumption); (case nh1 => walk_at "hp")))
local macro_rules | `(tactic| walk_at "hp") => `(tactic| first
  | assumption
  | exact upd_same
  | ((refine' SqL.of ?hq); (case hq => walk_at "hp"))
  | ((refine' SqT.of ?hq); (case hq => walk_at "hp"))
  | ((refine' (upd_ne ?hne).trans ?hrest); (case hne => walk_at "ne"); (case hrest => walk_at "hp"))
  | ((refine' ly_at ?hex ?hh); (case hex => assumption); (case hh => walk_at "hp"))
  | ((refine' ly_atF ?hex ?hnn ?hh); (case hex => assumption); (case hh => walk_at "hp"); (case hnn => walk_at "ne"))
  | ((refine' ex_t ?hex ?hh); (case hh => assumption); (case hex => walk_at "ex"))
  | ((refine' ex_l ?hex ?hh); (case hh => assumption); (case hex => walk_at "ex")))
local macro_rules | `(tactic| walk_at "ex") => `(tactic| first
  | assumption
  | exact Ex.refl _
  | ((refine' ex_new ?xa ?xb); (case xb => assumption); (case xa => walk_at "ex"))
  | ((refine' ex_upd ?xa ?xb); (case xb => walk_at "free"); (case xa => walk_at "ex"))
  | ((refine' Ex.trans ?xa ?xb); (case xb => assumption); (case xa => walk_at "ex")))
local macro_rules | `(tactic| walk_at "free") => `(tactic| first
  | assumption
  | ((refine' fresh_back ?xa ?xb); (case xb => assumption); (case xa => walk_at "ex")))
local macro_rules | `(tactic| walk_at "fr") => `(tactic| first
  | assumption
  | exact Fr.refl _ _
  | ((refine' Fr.own ?hq); (case hq => walk_at "fr"))
  | ((refine' Fr.new ?xa ?xb); (case xb => assumption); (case xa => walk_at "fr"))
  | ((refine' Fr.mut ?xa ?xb); (case xb => assumption); (case xa => walk_at "fr"))
  | ((refine' Fr.trans ?xa ?xb); (case xb => assumption); (case xa => walk_at "fr"))
  | ((refine' Fr.trans ?xa (Fr.ex ?xb)); (case xb => assumption); (case xa => walk_at "fr")))
local macro_rules | `(tactic| walk_at "go1") => `(tactic| first
  | (with_reducible refine' w_seq ?_)
  | (with_reducible refine' w_asg ?_)
  | (with_reducible refine' w_ret ?_)
  | (with_reducible refine' w_drop ?_)
  | (with_reducible refine' w_if ?_)
  | (with_reducible refine' w_next ?_)
  | (with_reducible refine' w_name ?_)
  | (with_reducible refine' w_sub ?_)
  | ((with_reducible refine' w_var ?hv ?_); (case hv => exact rfl))
  | (with_reducible refine' w_c ?_)
  | (with_reducible refine' w_op ?_)
  | (with_reducible refine' w_un ?_)
  | (with_reducible refine' w_ch ?_)
  | (with_reducible refine' w_I0 ?_)
  | ((with_reducible refine' w_I ?hc ?_); (case hc => first | (exact ly_mulL (by decide) (by decide)) | (exact ly_mulR (by decide) (by decide)) | (exact ly_mulL (by omega) (by omega)) | (show (_ : Int) ≠ 0; decide) | (show (_ : Int) ≠ 0; omega) | (exact ⟨by decide, by decide⟩) | (exact ⟨by omega, by omega⟩)))
  | (with_reducible refine' w_U ?_)
  | ((with_reducible refine' w_eq ?hs ?_); (case hs => exact rfl))
  | ((with_reducible refine' w_ne ?hs ?_); (case hs => exact rfl))
  | (with_reducible refine' w_isB ?_)
  | (with_reducible refine' w_notB ?_)
  | (with_reducible refine' w_nil ?_)
  | (with_reducible refine' w_cons ?_)
  | (with_reducible refine' w_tup ?_)
  | (with_reducible refine' w_lst ?_)
  | (with_reducible refine' w_cb ?_)
  | (with_reducible refine' w_call ?_)
  | (with_reducible refine' w_bm ?_)
  | (with_reducible refine' w_bm0 ?_)
  | ((with_reducible refine' w_app ?hh ?hz ?_); (case hh => walk_at "hp"); (case hz => first | exact ly_lt (by omega) | exact ly_lt (by simp only [List.length_append, List.length_map, List.length_cons, List.length_nil]; omega)))
  | ((with_reducible refine' w_popA ?hh ?_); (case hh => walk_at "hp"))
  | ((with_reducible refine' w_ext ?hh ?hh2 ?hz ?_); (case hh => walk_at "hp"); (case hh2 => walk_at "hp"))
  | ((with_reducible refine' w_ixL ?hh ?ha ?_); (case hh => walk_at "hp"); (case ha => first | exact rfl | exact at_map (by omega) | exact atI_last _ _ | ((refine' at_of ?ae ?ah); (case ah => assumption); (case ae => omega))))
  | ((with_reducible refine' w_ixT ?hh ?ha ?_); (case hh => walk_at "hp"); (case ha => first | exact rfl | exact at_map (by omega) | exact atI_last _ _ | ((refine' at_of ?ae ?ah); (case ah => assumption); (case ae => omega))))
  | ((with_reducible refine' w_cat ?hh ?hh2 ?hz ?_); (case hh => walk_at "hp"); (case hh2 => walk_at "hp"))
  | ((with_reducible refine' w_setL ?hh ?ha ?_); (case hh => walk_at "hp"); (case ha => exact rfl))
  | (with_reducible refine' w_test ?_)
  | (with_reducible refine' w_tB ?_)
  | (with_reducible refine' w_bl ?_)
  | (with_reducible refine' w_and ?_)
  | (with_reducible refine' w_or ?_)
  | (with_reducible refine' w_not ?_)
  | (with_reducible refine' w_andV ?_)
  | (with_reducible refine' w_orV ?_)
  | (with_reducible refine' w_notV ?_)
  | (with_reducible refine' w_ifE ?_)
  | (with_reducible refine' w_for ?_)
  | ((with_reducible refine' w_nin ?hh ?_); (case hh => walk_at "hp"))
  | ((with_reducible refine' w_sorted ?hh ?_); (case hh => walk_at "hp"))
  | (with_reducible refine' w_tsadd ?_)
  | ((with_reducible refine' w_tsadd1 ?hh ?_); (case hh => walk_at "hp"))
  | ((with_reducible refine' w_sadd ?hh ?hr ?_); (case hh => walk_at "hp"); (case hr => omega))
  | (with_reducible refine' w_iZ ?_)
  | ((with_reducible refine' w_iZ1 ?hh ?hh2 ?_); (case hh => walk_at "hp"); (case hh2 => walk_at "hp"))
  | (with_reducible refine' w_iS ?_)
  | (with_reducible refine' w_iS1 ?_)
  | ((with_reducible refine' w_gtup ?hh ?hn ?_); (case hh => walk_at "hp"); (case hn => exact rfl))
  | (with_reducible refine' w_gcons ?_)
  | (with_reducible refine' w_gnil ?_)
  | (with_reducible refine' w_js ?_)
  | (with_reducible refine' w_jsn ?_)
  | ((with_reducible refine' w_js1 ?hl ?_); (case hl => decide +kernel))
  | (with_reducible refine' w_fmt ?_)
  | ((with_reducible refine' w_fmt1 ?hl ?_); (case hl => decide +kernel))
  | (with_reducible refine' w_callS ?_)
  | ((with_reducible refine' w_truL ?hh ?_); (case hh => walk_at "hp"))
  | (with_reducible refine' w_lc ?_)
  | (with_reducible refine' w_yes ?_)
  | ((with_reducible refine' w_wipe ?he ?_); (case he => exact rfl))
  | (with_reducible refine' w_iL ?_)
  | (with_reducible refine' w_iT ?_)
  | (with_reducible refine' w_iR ?_)
  | ((with_reducible refine' w_iL1 ?hh ?_); (case hh => walk_at "hp"))
  | ((with_reducible refine' w_iT1 ?hh ?_); (case hh => walk_at "hp"))
  | ((with_reducible refine' w_iR1 ?h1 ?h2 ?_); (case h1 => omega); (case h2 => omega))
  | ((with_reducible refine' w_aug ?hv ?_); (case hv => exact rfl))
  | (with_reducible refine' w_ipI ?_)
  | ((with_reducible refine' w_isi ?hy ?hk ?_); (case hy => walk_at "ty"); (case hk => walk_at "kit"))
  | ((with_reducible refine' w_int ?_))
  | ((with_reducible refine' w_intB ?_))
  | ((with_reducible refine' w_abs ?_))
  | ((with_reducible refine' w_lenL ?hh ?_); (case hh => walk_at "hp"))
  | ((with_reducible refine' w_lenT ?hh ?_); (case hh => walk_at "hp"))
  | ((with_reducible refine' w_tupL ?hh ?_); (case hh => walk_at "hp"))
  | ((with_reducible refine' w_tupT ?hh ?_); (case hh => walk_at "hp"))
  | ((with_reducible refine' w_catA ?hh ?hh2 ?hz ?_); (case hh => walk_at "hp"); (case hh2 => walk_at "hp"); (case hz => walk_at "len"))
  | ((with_reducible refine' w_repB ?hh ?hne ?h2 ?h3 ?hz ?_); (case hh => walk_at "hp"); (case hne => simp); (case h2 => omega); (case h3 => omega); (case hz => exact Nat.le_of_ble_eq_true rfl))
  | ((with_reducible refine' w_eqN ?hh ?hh2 ?n1 ?n2 ?_); (case hh => walk_at "hp"); (case hh2 => walk_at "hp"); (case n1 => walk_at "nd"); (case n2 => walk_at "nd"))
  | ((with_reducible refine' w_neN ?hh ?hh2 ?n1 ?n2 ?_); (case hh => walk_at "hp"); (case hh2 => walk_at "hp"); (case n1 => walk_at "nd"); (case n2 => walk_at "nd"))
  | ((with_reducible refine' w_eqL ?hh ?hh2 ?n1 ?n2 ?_); (case hh => walk_at "hp"); (case hh2 => walk_at "hp"); (case n1 => walk_at "nd"); (case n2 => walk_at "nd"))
  | ((with_reducible refine' w_neL ?hh ?hh2 ?n1 ?n2 ?_); (case hh => walk_at "hp"); (case hh2 => walk_at "hp"); (case n1 => walk_at "nd"); (case n2 => walk_at "nd"))
  | ((with_reducible refine' w_neNon ?hh2 ?n2 ?_); (case hh2 => walk_at "hp"); (case n2 => walk_at "nd"))
  | ((with_reducible refine' w_eqNon ?hh2 ?n2 ?_); (case hh2 => walk_at "hp"); (case n2 => walk_at "nd"))
  | ((with_reducible refine' w_slA ?hh ?_); (case hh => walk_at "hp"))
  | ((with_reducible refine' w_disp ?hz ?_); (case hz => exact sz_of (Nat.le_of_ble_eq_true rfl)))
  | ((with_reducible refine' w_tyL ?hh ?_); (case hh => walk_at "hp"))
  | (with_reducible refine' iteT ?_)
  | (with_reducible refine' iteF ?_)
  | (with_reducible refine' w_nT ?_)
  | (with_reducible refine' w_nn ?_)
  | (with_reducible refine' w_nnT ?_)
  | (with_reducible refine' w_nnR ?_)
  | (with_reducible refine' w_neG ?_)
  | (with_reducible refine' w_eqG ?_)
  | (with_reducible refine' w_neS ?_)
  | (with_reducible refine' w_eqS ?_)
  | (with_reducible refine' w_neSb ?_)
  | (with_reducible refine' w_eqSb ?_)
  | (with_reducible refine' w_deIS ?_)
  | (with_reducible refine' w_deSI ?_)
  | (with_reducible refine' w_deISn ?_)
  | ((with_reducible refine' w_deST ?he ?_); (case he => decide +kernel))
  | ((with_reducible refine' w_deSF ?he ?_); (case he => decide +kernel))
  | ((with_reducible refine' w_deSTn ?he ?_); (case he => decide +kernel))
  | ((with_reducible refine' w_deSFn ?he ?_); (case he => decide +kernel))
  | (with_reducible refine' w_nF ?_)
  | dsimp only [Bool.not_true, Bool.not_false])
local macro_rules | `(tactic| walk_at "ty") => `(tactic| first
  | exact .base (.int _) | exact .base (.str _) | exact .base (.bl _) | exact .base .non
  | ((refine' tyx_t ?hq); (case hq => walk_at "hp")) | ((refine' tyx_l ?hq); (case hq => walk_at "hp")) | ((refine' .base (.tup ?hq)); (case hq => walk_at "hp")) | assumption)
local macro_rules | `(tactic| walk_at "go") => `(tactic| repeat walk_at "go1")
local macro_rules | `(tactic| walk_at "st") => `(tactic| try dsimp only [cxOf, Cx.nox, Cx.wish])
local macro_rules | `(tactic| walk_at "kit") => `(tactic| with_reducible first | exact kit_int_int | exact kit_int_str | exact kit_int_bool | exact kit_int_tuple | exact kit_int_list | exact kit_str_int | exact kit_str_str | exact kit_str_bool | exact kit_str_tuple | exact kit_str_list | exact kit_bool_int | exact kit_bool_str | exact kit_bool_bool | exact kit_bool_tuple | exact kit_bool_list | exact kit_NoneType_int | exact kit_NoneType_str | exact kit_NoneType_bool | exact kit_NoneType_tuple | exact kit_NoneType_list | exact kit_list_int | exact kit_list_str | exact kit_list_bool | exact kit_list_tuple | exact kit_list_list | exact kit_tuple_int | exact kit_tuple_str | exact kit_tuple_bool | exact kit_tuple_tuple | exact kit_tuple_list)
local macro_rules | `(tactic| walk_at "nd") => `(tactic| first
  | assumption
  | exact Tm.nds _
  | exact Nds.nil
  | exact Nds.ofInts _
  | ((refine' Nds.cons ?na ?nb); (case na => first | exact Nds.I _ | exact Nds.L | exact Nds.A); (case nb => walk_at "nd"))
  | ((refine' Nds.app ?na ?nb); (case na => walk_at "nd"); (case nb => walk_at "nd"))
  | ((refine' Nds.rep ?na _); (case na => walk_at "nd")))
local macro_rules | `(tactic| walk_at "len") => `(tactic| first
  | exact ly_sz (by omega)
  | ((simp only [List.length_append, List.length_cons, List.length_nil, List.length_map, PyProof.Rows.lm_len_rep_flat]); exact ly_sz (by omega)))
local macro_rules | `(tactic| walk_at "go1") => `(tactic| first
  | (with_reducible refine' w_kget2 ?_)
  | (with_reducible refine' w_isRN ?_)
  | (with_reducible refine' w_isNN ?_)
  | (with_reducible refine' w_isIN ?_)
  | ((with_reducible refine' w_kg ?hd ?_); (case hd => assumption)))
local macro_rules | `(tactic| walk_at "go1") => `(tactic| first
  | ((with_reducible refine' w_extT ?hh ?hh2 ?hz ?_); (case hh => walk_at "hp"); (case hh2 => walk_at "hp"))
  | ((with_reducible refine' w_I ?hc ?_); (case hc => exact ⟨by decide, by decide, by decide⟩))
  | (with_reducible refine' w_sl ?_)
  | (with_reducible refine' w_noP ?_)
  | (with_reducible refine' w_part ?_)
  | (with_reducible refine' w_part1 ?_)
  | (with_reducible refine' w_it ?_)
  | (with_reducible refine' w_it1 ?_)
  | ((with_reducible refine' w_lenZ ?hz ?_); (case hz => omega))
  | ((with_reducible refine' w_addZb ?hz ?_); (case hz => omega))
  | ((with_reducible refine' w_addZf ?hz ?_); (case hz => omega))
  | ((with_reducible refine' w_addZa ?hz ?_); (case hz => omega))
  | ((with_reducible refine' w_inS ?hh ?_); (case hh => walk_at "hp"))
  | ((with_reducible refine' w_ixT ?hh ?ha ?_); (case hh => assumption); (case ha => exact atI_nat (by assumption))))
local macro_rules | `(tactic| walk_at "go1") => `(tactic| first
  | (with_reducible refine' w_iR2 ?_)
  | ((with_reducible refine' w_iR21 ?h1 ?h2 ?h3 ?h4 ?_); (case h1 => omega); (case h2 => omega); (case h3 => omega); (case h4 => omega))
  | (with_reducible refine' w_nnI ?_)
  | (with_reducible refine' w_max ?_)
  | (with_reducible refine' w_break ?_)
  | (with_reducible refine' w_cont ?_))
section
variable {P : Program} {w : World} {K : PySem.W.Frag} {mg : Str → Option Value} {base : Heap} {tk : Nat → Tok} {cl : Nat → Addr}
local macro_rules | `(tactic| walk_at "go1") => `(tactic| first
  | (with_reducible refine' w_make ?_)
  | (with_reducible refine' w_tfld ?_))
theorem MvsAt.app {C : Addr} {n : Addr → Prop} {H : Hp} {as bs : List Addr} {ms ns : List Mv} (h : MvsAt K C n H as ms) (g : MvsAt K C n H bs ns) : MvsAt K C n H (as ++ bs) (ms ++ ns) := by
  induction h with
  | nil => exact g
  | cons h _ ih => exact .cons h ih
theorem MvsAt.drop {C : Addr} {n : Addr → Prop} {H : Hp} {as : List Addr} {ms : List Mv} (h : MvsAt K C n H as ms) : ∀ k, MvsAt K C n H (as.drop k) (ms.drop k) := by
  induction h with
  | nil => intro k; simpa using MvsAt.nil
  | cons h r ih =>
    intro k
    cases k with
    | zero => exact .cons h r
    | succ k => exact ih k
theorem nrd_app (p : Nat) (a b : List Mv) : nrd p (a ++ b) = nrd p a ++ nrd p b := by simp [nrd]
def spWithout (K : PySem.W.Frag) (C C1 : Addr) : Sp := fun vs H Q E => ∃ (a : Addr) (as : List Addr) (nn : Addr → Prop) (t v : Tm) (road : List (List Nat)) (ms : List Mv) (p n : Nat), vs = [.ref a, .int (p : Int), .int (n : Int)] ∧ H a = some (.lst (refs as)) ∧ MvsAt K C nn H as ms ∧ Run t road ms v ∧ Least ms p n ∧ t.enc.length ≤ 3000 ∧ ms.length ≤ 1000 ∧
  (∀ H' q as2 ms2, Ex H H' → H' q = some (.lst (refs as2)) → MvsAt K C (fun x => nn x ∨ H x = none) H' as2 ms2 → Run (stp t p) (newRoad p n ms road) ms2 v → fitsV (stp t p).enc = true → (newRoad p n ms road).length ≤ 200 + ms.length → Q (.ref q) H') ∧
  ((fitsV (stp t p).enc = false ∨ okPass (stp t p) (newRoad p n ms road) = false ∨ 200 < (newRoad p n ms road).length) → ∀ H', Ex H H' → E (.ref C1) none H')
theorem ok_without {f : Addr} {fd : FuncData} (F : Fun K "moves_without" "moves_without" s_moves_without f fd) (T : Txt w K mg tk cl)
    (D1 : Def P w K mg base (L2.CX P w) 4 "stepped" ["term", "at"] (spStepped K (cl 1))) (D2 : Def P w K mg base CX0 1 "copies" ["origins", "at"] (spCopies K)) (D3 : Def P w K mg base CX0 3 "step_origins" ["term", "at"] (spStepO K))
    (D4 : DefC P w K mg base (L2.CX P w) 5 (cl 20) ["self", "term", "at"] (spMove K (cl 20) (cl 1))) (D5 : Def P w K mg base (L2.CX P w) 1 "check_length" ["road"] (spChkLen (cl 1))) : FnOk P w K mg base (L2.CX P w) 8 f fd ["moves", "p", "number"] (spWithout K (cl 20) (cl 1)) := by
  obtain ⟨f1, fd1, g_stepped, kp_stepped, b_stepped, G_stepped⟩ := D1
  obtain ⟨f2, fd2, g_copies, kp_copies, b_copies, G_copies⟩ := D2
  obtain ⟨f3, fd3, g_step_origins, kp_step_origins, b_step_origins, G_step_origins⟩ := D3
  obtain ⟨f4, fd4, M_Move, b_Move_init, G_Move_init⟩ := D4
  obtain ⟨f5, fd5, g_check_length, kp_check_length, b_check_length, G_check_length⟩ := D5
  refine F.okX sc_moves_without (fun vs H Q E h => ?_) (fun cdv A outer s H vs Q E hr h => ?_)
  · obtain ⟨_, _, _, _, _, _, _, _, _, rfl, _⟩ := h
    rfl
  · obtain ⟨a, as, nn, t, v, road, ms, p, n, rfl, ha, hms, run, L, htl, hml, q, x⟩ := h
    refine ⟨_, (pss_cons (ps_set (i := 3) sc_moves_without.nd rfl (.inl rfl) (pe_lst pa_nil)) (pss_cons (ps_set (i := 4) sc_moves_without.nd rfl (.inl rfl) (pe_call G_stepped (hr.mono (by first | decide | omega)) (by rfl) g_stepped kp_stepped b_stepped .nil (passes_call (takes_of rfl rfl rfl rfl) (fun _ _ _ _ h => h)) (pa_cons (pe_fld (pe_ix ix_list (pv 0) pe_int (fun _ _ => rfl)) rfl) (pa_cons (pv 1) pa_nil)))) (pss_cons (ps_for (passes_of rfl) rfl (pi_list (pe_slice sl_list (pv 0) po_none (po_some (pv 2)))) (pg_name (i := 5) sc_moves_without.nd rfl (.inl rfl)) (pss_cons (ps_set (i := 6) sc_moves_without.nd rfl (.inl rfl) (pe_call G_copies (hr.mono (by first | decide | omega)) (by rfl) g_copies kp_copies b_copies .nil pass0 (pa_cons (pe_call G_step_origins (hr.mono (by first | decide | omega)) (by rfl) g_step_origins kp_step_origins b_step_origins .nil pass0 (pa_cons (pe_fld (pv 5) rfl) (pa_cons (pv 1) pa_nil))) (pa_cons (pe_fld (pv 5) rfl) pa_nil)))) (pss_cons (ps_for (passes_of rfl) rfl (RT.pi_revA (by rfl) T.n_reversed (pv 6)) (pg_name (i := 7) sc_moves_without.nd rfl (.inl rfl)) (pss_cons (ps_expr (pe_bm PySem.F.plainAttrs_list PySem.F.slot_list_append PySem.F.type_list_append mt_append (pv 3) (pa_cons (pe_make M_Move G_Move_init (hr.mono (by first | decide | omega)) (by rfl) T.g_Move b_Move_init .nil (passes_call (takes_of rfl rfl rfl rfl) (fun _ _ _ _ h => h)) (pa_cons (pv 4) (pa_cons (pv 7) pa_nil))) pa_nil))) (pss_one (ps_set (i := 4) sc_moves_without.nd rfl (.inl rfl) (pe_fld (pe_ix ix_list (pv 3) (pe_un un_neg pe_int) (fun _ _ => rfl)) rfl))))) (pss_one (ps_expr (pe_call G_check_length (hr.mono (by first | decide | omega)) (by rfl) g_check_length kp_check_length b_check_length .nil (passes_call (takes_of rfl rfl rfl rfl) (fun _ _ _ _ h => h)) (pa_cons (pv 3) pa_nil))))))) (pss_one (ps_ret (pe_op op_cat (pv 3) (pe_slice sl_list (pv 0) (po_some (pe_op op_add (pv 2) pe_int)) po_none))))))), ?_⟩
    refine sl_of (σ2 := [some _, some _, some _, none, none, none, none, none]) rfl ?_
    have asl := hms.len
    obtain ⟨mn, hmn, hsn⟩ := L.at_
    have hnl := (List.getElem?_eq_some_iff.mp hmn).1
    obtain ⟨m0, hm0⟩ : ∃ m0, ms[0]? = some m0 := ⟨_, List.getElem?_eq_getElem (by omega)⟩
    obtain ⟨x0, hx0⟩ : ∃ x0, as[0]? = some x0 := ⟨_, List.getElem?_eq_getElem (by omega)⟩
    have hxv : (refs as)[0]? = some (.ref x0) := by rw [List.getElem?_map, hx0]; rfl
    obtain ⟨m', hm', hmv⟩ := hms.at hx0
    rw [hm0] at hm'
    cases hm'
    obtain ⟨hred0, dx, ta, ra, oa, h1, h2, h3, h4, h5⟩ := hmv
    have e0 := rn_head run hm0
    rw [e0] at h2
    have hr := L.red run
    obtain ⟨b0, u0, hpr⟩ := red_of_redB hr
    walk_at "st"
    walk_at "go"
    intro fl hfl
    have e1 := Ex.new hfl (o := .lst (refs []))
    have hf1 : upd H fl (.lst (refs [])) fl = some (.lst (refs [])) := upd_same
    rw [show (HO.lst ([] : List V)) = .lst (refs []) from rfl]
    have ha1 := e1 _ _ ha
    have h11 := e1 _ _ h1
    have h21 := ex_t e1 h2
    generalize upd H fl (.lst (refs [])) = H1 at *
    walk_at "go"
    refine ⟨x0, cl 20, dx, _, _, rfl, h11, T.cls_Move, T.nf_Move_term, mv_term _ _ _ _, ?_⟩
    walk_at "go"
    have estp : t.step (plc t p) = stp t p := rfl
    refine ⟨ta, t, plc t p, p, b0, u0, rfl, h21, hpr, htl, fun hf H2 x2 e2 hx2 => ?_, fun hf H2 e2 => x (.inl hf) _ (e1.trans e2)⟩
    rw [estp] at hf hx2
    have ha2 := e2 _ _ ha1
    have hf2 := e2 _ _ hf1
    have e02 := e1.trans e2
    clear ha1 hf1 h11 h21 e2
    walk_at "go"
    refine w_slL (SqL.of ha2) ?_
    intro pl hpl
    have ct : cutV (refs as) none (some (n : Int)) = refs (as.take n) := by
      rw [cut_lo]
      exact (List.map_take ..).symm
    rw [ct]
    have e3 := Ex.new hpl (o := .lst (refs (as.take n)))
    have hp3 : upd H2 pl (.lst (refs (as.take n))) pl = some (.lst (refs (as.take n))) := upd_same
    have hf3 := e3 _ _ hf2
    have hx3 := ex_t e3 hx2
    have e03 := e02.trans e3
    have npl : pl ≠ fl := (ne_of_none hf2 hpl).symm
    generalize upd H2 pl (.lst (refs (as.take n))) = H3 at *
    clear ha2 hf2 hx2 e3 hpl
    have hfront := L.front run
    have hfl0 : H fl = none := hfl
    refine ⟨pl, rfl, ⟨_, SqL.of hp3⟩, ?_⟩
    refine for_list (K := K) (a := pl) (xs := refs (as.take n)) (fun k σ H' => ∃ (xx : Addr) (asf : List Addr) (msf : List Mv) (y5 y6 y7 : Option V), σ = [some (.ref a), some (.int (p : Int)), some (.int (n : Int)), some (.ref fl), some (.ref xx), y5, y6, y7] ∧ Ex H H' ∧ H' pl = some (.lst (refs (as.take n))) ∧ SqT K H' xx ((stp t p).along (nrd p (ms.take k))).enc ∧ H' fl = some (.lst (refs asf)) ∧ MvsAt K (cl 20) (fun a => H a = none ∧ a ≠ fl) H' asf msf ∧ Run (stp t p) (nrd p (ms.take k)) msf ((stp t p).along (nrd p (ms.take k))) ∧ msf.length ≤ 200 ∧ ((stp t p).along (nrd p (ms.take k))).enc.length ≤ 1000)
      ⟨x2, [], [], _, _, _, rfl, e03, hp3, hx3, hf3, .nil, .nil, by simp, fits_len hf⟩ (fun k σ H' _ ⟨_, _, _, _, _, _, _, _, h, _⟩ => SqL.of h) ?_ ?_
    · rintro k z σ H4 hk ⟨xx, asf, msf, y5, y6, y7, rfl, e4, hp4, hxx, hf4, hm4, run4, hl4, hu4⟩
      rw [List.getElem?_map] at hk
      obtain ⟨xk, hxk, rfl⟩ := Option.map_eq_some_iff.mp hk
      have hkn : k < n := by
        have := (List.getElem?_eq_some_iff.mp hxk).1
        rw [List.length_take] at this
        omega
      rw [List.getElem?_take_of_lt hkn] at hxk
      obtain ⟨mk, hmk, hmvk⟩ := (hms.ex e4).at hxk
      obtain ⟨hredk, dxk, tak, rak, oak, g1, g2, g3, g4, g5⟩ := hmvk
      obtain ⟨n1, n2, n3⟩ := nrd_ok run hr hfront (Nat.le_of_lt hkn) hmk
      have hpk := hfront k mk hkn hmk
      have hokk := (run.sub hmk).1
      obtain ⟨bk, uk, hpkr⟩ := red_of_redB n3
      obtain ⟨c1, c2⟩ := crd_als hokk (by omega : p < mk.i) n3
      have eOP : OP mk.t p = stepO mk.t p bk uk := OP_eq (red_sti hpkr)
      have hktl : mk.t.enc.length ≤ 3000 := by
        cases k with
        | zero => rw [rn_head run hmk]; exact htl
        | succ k =>
          obtain ⟨mj, hmj⟩ : ∃ mj, ms[k]? = some mj := ⟨_, List.getElem?_eq_getElem (by omega)⟩
          rw [rn_next run hmj hmk]
          have := fits_len (run.fits hmj)
          omega
      walk_at "go"
      refine ⟨xk, cl 20, dxk, _, _, rfl, g1, T.cls_Move, T.nf_Move_term, mv_term _ _ _ _, ?_⟩
      walk_at "go"
      refine ⟨tak, mk.t, plc mk.t p, p, bk, uk, rfl, g2, hpkr, hktl, fun H5 o5 e5 ho0 ho5 => ?_⟩
      have g15 := e5 _ _ g1
      walk_at "go"
      refine ⟨xk, cl 20, dxk, _, _, rfl, g15, T.cls_Move, T.nf_Move_at, mv_at _ _ _ _, ?_⟩
      walk_at "go"
      rw [eOP] at c1 c2
      have hstl : (stp mk.t p).enc.length ≤ 1000 := by rw [← n2]; exact hu4
      refine ⟨o5, stepO mk.t p bk uk, mk.i, rfl, ho5, by omega, fun H6 c6 js e6 hc60 hc6 hjs => ?_⟩
      rw [posN_filter] at hjs
      subst hjs
      have e46 := e5.trans e6
      have hf6 := e46 _ _ hf4
      have hp6 := e46 _ _ hp4
      have hm6 := hm4.ex e46
      have hxx6 := ex_t e46 hxx
      have e06 := e4.trans e46
      have ncf : c6 ≠ fl := (ne_of_none hf4 (fresh_back e5 hc60)).symm
      clear hf4 hp4 hm4 hxx e5 e6 e46 e4 ho5 ho0 g15 g1 g2 g3 g4
      rw [n2] at run4 hxx6 hu4
      have cdef : crd p mk = (posN mk.i 0 (stepO mk.t p bk uk)).reverse.map (plc (stp mk.t p)) := by rw [← eOP]; rfl
      have hjl := posN_len mk.i (stepO mk.t p bk uk) 0
      have hdec := posN_dec mk.i (stepO mk.t p bk uk) 0
      generalize hJ : posN mk.i 0 (stepO mk.t p bk uk) = J at *
      have htk : nrd p (ms.take (k + 1)) = nrd p (ms.take k) ++ crd p mk := by
        rw [List.take_add_one, hmk]
        simp [nrd]
      have halong : (stp t p).along (nrd p (ms.take (k + 1))) = (stp mk.t p).along (crd p mk) := by rw [htk, Tm.along_app, n2]
      have hsub : ∀ s, nrd p (ms.take (k + 1)) ++ s = nrd p (ms.take k) ++ (crd p mk ++ s) := fun s => by rw [htk, List.append_assoc]
      obtain ⟨rest, hrest⟩ : ∃ rest, newRoad p n ms road = nrd p (ms.take (k + 1)) ++ rest := by
        refine ⟨nrd p ((ms.take n).drop (k + 1)) ++ road.drop (n + 1), ?_⟩
        unfold newRoad
        rw [← List.append_assoc, ← nrd_app]
        congr 2
        have : ms.take n = ms.take (k + 1) ++ (ms.take n).drop (k + 1) := by
          rw [show ms.take (k + 1) = (ms.take n).take (k + 1) by rw [List.take_take, Nat.min_eq_left (by omega)], List.take_append_drop]
        exact this
      unfold RT.iRevA
      walk_at "go"
      refine ⟨c6, _, rfl, .inl ⟨SqL.of hc6, ?_⟩⟩
      have lJ : (nums J).length = J.length := List.length_map _
      refine RT.for_Itv (K := K) (a := c6) (xs := nums J) (fun i σ H' => ∃ (xx : Addr) (asf : List Addr) (msf : List Mv) (y7 : Option V), σ = [some (.ref a), some (.int (p : Int)), some (.int (n : Int)), some (.ref fl), some (.ref xx), some (.ref xk), some (.ref c6), y7] ∧ Ex H H' ∧ H' pl = some (.lst (refs (as.take n))) ∧ H' c6 = some (.lst (nums J)) ∧ SqT K H' xx ((stp mk.t p).along ((crd p mk).take i)).enc ∧ H' fl = some (.lst (refs asf)) ∧ MvsAt K (cl 20) (fun a => H a = none ∧ a ≠ fl) H' asf msf ∧ Run (stp t p) (nrd p (ms.take k) ++ (crd p mk).take i) msf ((stp mk.t p).along ((crd p mk).take i)) ∧ msf.length ≤ 200 + i ∧ ((stp mk.t p).along ((crd p mk).take i)).enc.length ≤ 1000)
        ⟨xx, asf, msf, _, rfl, e06, hp6, hc6, hxx6, hf6, hm6, by rw [List.take_zero, List.append_nil]; exact run4, by omega, hu4⟩ (fun i σ H' ⟨_, _, _, _, _, _, _, h, _⟩ => SqL.of h) ?_ ?_
      · rintro i z σ H7 hi hz ⟨xx7, as7, ms7, y7, rfl, e7, hp7, hc7, hxx7, hf7, hm7, run7, hl7, hu7⟩
        rw [lJ] at hi hz
        rw [List.getElem?_map] at hz
        obtain ⟨kx, hkx, rfl⟩ := Option.map_eq_some_iff.mp hz
        have hkx2 : J.reverse[i]? = some kx := by
          rw [List.getElem?_reverse (by omega), ← hkx]
        obtain ⟨w9, O9, s9, pl9⟩ := c1.get hdec hkx2
        have etk : (J.reverse.take i).map (plc (stp mk.t p)) = (crd p mk).take i := by rw [cdef, List.map_take]
        rw [etk] at s9 pl9
        have hcrd : (crd p mk)[i]? = some (plc (stp mk.t p) kx) := by rw [cdef, List.getElem?_map, hkx2]; rfl
        obtain ⟨b9, u9, hr9, hs9, _⟩ := sti_red s9
        rw [pl9] at hr9 hs9
        have tk1 : (crd p mk).take (i + 1) = (crd p mk).take i ++ [plc (stp mk.t p) kx] := by rw [List.take_add_one, hcrd]; rfl
        have al1 : (stp mk.t p).along ((crd p mk).take (i + 1)) = ((stp mk.t p).along ((crd p mk).take i)).step (plc (stp mk.t p) kx) := by
          rw [tk1, Tm.along_app]
          rfl
        generalize hU : (stp mk.t p).along ((crd p mk).take i) = U at *
        have cutr : ∃ rs, newRoad p n ms road = (nrd p (ms.take k) ++ (crd p mk).take i) ++ plc (stp mk.t p) kx :: rs := by
          refine ⟨(crd p mk).drop (i + 1) ++ rest, ?_⟩
          rw [hrest, htk]
          have : crd p mk = (crd p mk).take i ++ plc (stp mk.t p) kx :: (crd p mk).drop (i + 1) := by
            have h1 := List.take_append_drop (i + 1) (crd p mk)
            rw [tk1, List.append_assoc] at h1
            exact h1.symm
          conv => lhs; rw [this]
          simp
        have asl7 := hm7.len
        walk_at "go"
        intro x2 dx2 nx2 ndx2 nex2
        have e0 : Ex H7 (upd (upd H7 dx2 (.own x2)) x2 (.ins (cl 20) dx2 [])) := ex_upd (Ex.new ndx2) nx2
        refine ⟨x2, dx2, xx7, U, plc (stp mk.t p) kx, kx, b9, u9, H7, rfl, upd_same, e0, nx2, hxx7, hr9, by omega, fun hf8 H8 e8 mv => ⟨rfl, ?_⟩, fun hf8 H8 e8 => ?_⟩
        · have hf9 := e8 _ _ hf7
          have e78 := e7.trans e8
          have hfl8 := fits_len hf8
          have mv2 : MvAt K (cl 20) (fun a => a ≠ fl) H8 x2 U (plc (stp mk.t p) kx) kx b9 u9 := mv.mono fun a ha => (ne_of_none hf7 ha).symm
          have mv3 : MvAt K (cl 20) (fun a => H a = none ∧ a ≠ fl) H8 x2 U (plc (stp mk.t p) kx) kx b9 u9 := mv.mono fun a ha => ⟨fresh_back e7 ha, (ne_of_none hf7 ha).symm⟩
          have hm8 := (hm7.ex e8).snoc (m := ⟨U, plc (stp mk.t p) kx, kx, b9, u9⟩) mv3
          have hp8 := e8 _ _ hp7
          have hc8 := e8 _ _ hc7
          walk_at "go"
          have er : refs as7 ++ [V.ref x2] = refs (as7 ++ [x2]) := by simp [refs]
          rw [er]
          obtain ⟨hr2, dx1, ta1, ra1, oa1, q1, q2, q3, q4, q5⟩ := mv2.keep (fun a h => h) (zs := refs (as7 ++ [x2])) hf9
          refine ⟨x2, cl 20, dx1, _, _, rfl, q1, T.cls_Move, T.nf_Move_result, mv_result _ _ _ _, ?_⟩
          walk_at "go"
          exact ⟨ra1, as7 ++ [x2], ms7 ++ [⟨U, plc (stp mk.t p) kx, kx, b9, u9⟩], _, rfl, ex_upd e78 hfl, by rw [upd_ne npl]; exact hp8, by rw [upd_ne ncf]; exact hc8, by rw [al1]; exact q3, upd_same, hm8.keep (fun a h => h.2) hf9, by rw [al1, tk1, ← List.append_assoc]; exact run7.snoc hr9 hf8, by rw [List.length_append, List.length_singleton]; omega, by rw [al1]; exact hfl8⟩
        · obtain ⟨rs, hrs⟩ := cutr
          exact x (.inr (.inl (by rw [hrs]; exact okPass_big run7 hr9 hf8 rs))) _ (e7.trans e8)
      · rintro σ H7 ⟨xx7, as7, ms7, y7, rfl, e7, hp7, hc7, hxx7, hf7, hm7, run7, hl7, hu7⟩
        have lc : (crd p mk).length = J.length := by rw [cdef, List.length_map, List.length_reverse]
        have tkall : (crd p mk).take J.length = crd p mk := List.take_of_length_le (by omega)
        rw [lJ] at hxx7 run7 hu7 hl7
        rw [tkall] at hxx7 run7 hu7
        rw [← htk] at run7
        walk_at "go"
        refine ⟨fl, refs as7, rfl, hf7, by rw [List.length_map, hm7.len]; omega, fun hlen => ?_, fun hlen H8 e8 => ?_⟩
        · rw [List.length_map, hm7.len] at hlen
          walk_at "go"
          exact ⟨xx7, as7, ms7, _, _, _, rfl, e7, hp7, by rw [halong]; exact hxx7, hf7, hm7, by rw [halong]; exact run7, hlen, by rw [halong]; exact hu7⟩
        · rw [List.length_map, hm7.len, run7.len] at hlen
          exact x (.inr (.inr (by rw [hrest, List.length_append]; omega))) _ (e7.trans e8)
    · rintro σ H4 ⟨xx, asf, msf, y5, y6, y7, rfl, e4, hp4, hxx, hf4, hm4, run4, hl4, hu4⟩
      have lt : (refs (as.take n)).length = n := by
        rw [List.length_map, List.length_take]
        omega
      rw [lt] at hxx run4 hu4
      obtain ⟨n1, n2, n3⟩ := nrd_ok run hr hfront (Nat.le_refl n) hmn
      have hdr := run_drop run hmn
      have e : stp mn.t p = mn.nx := by
        unfold stp Mv.nx
        rw [← L.here run hmn, mn.plc (run.sub hmn).1]
      rw [n2, e] at run4
      have rall := run_app run4 hdr
      have ha4 := e4 _ _ ha
      have lR : (newRoad p n ms road).length = msf.length + (ms.drop (n + 1)).length := by
        have := rall.len
        unfold newRoad
        rw [← this, List.length_append]
      have hms4 := hms.ex e4
      walk_at "go"
      refine w_slL (SqL.of ha4) ?_
      intro pd hpd
      have ct2 : cutV (refs as) (some ((n : Int) + 1)) none = refs (as.drop (n + 1)) := by
        rw [show (n : Int) + 1 = ((n + 1 : Nat) : Int) by omega, cut_hi]
        exact (List.map_drop ..).symm
      rw [ct2]
      have e5 := Ex.new hpd (o := .lst (refs (as.drop (n + 1))))
      have hd5 : upd H4 pd (.lst (refs (as.drop (n + 1)))) pd = some (.lst (refs (as.drop (n + 1)))) := upd_same
      have hf5 := e5 _ _ hf4
      have hm5 := hm4.ex e5
      have hms5 := hms4.ex e5
      have e05 := e4.trans e5
      generalize upd H4 pd (.lst (refs (as.drop (n + 1)))) = H5 at *
      have asfl := hm4.len
      refine w_cat hf5 hd5 (ly_sz (by simp; omega)) fun pc hpc => ?_
      have e6 := Ex.new hpc (o := .lst (refs asf ++ refs (as.drop (n + 1))))
      have hR : (refs asf ++ refs (as.drop (n + 1))) = refs (asf ++ as.drop (n + 1)) := by simp [refs]
      rw [hR] at e6 ⊢
      refine q _ pc (asf ++ as.drop (n + 1)) (msf ++ ms.drop (n + 1)) (e05.trans e6) upd_same ?_ rall hf (by rw [lR, List.length_drop]; omega)
      exact ((hm5.mono (n' := fun z => nn z ∨ H z = none) fun z hz => .inr hz.1).app ((hms5.mono (n' := fun z => nn z ∨ H z = none) fun z hz => .inl hz).drop (n + 1))).ex e6
end
end Ly
set_option Elab.async false
set_option linter.all false
set_option maxRecDepth 100000
set_option maxHeartbeats 8000000
namespace Ly
open PySem PySem.Spec PyProof.Rows L2 Evl
local macro_rules | `(tactic| walk_at "ne") => `(tactic| first
  | assumption
  | ((refine' Ne.symm ?hq); (case hq => assumption))
  | ((refine' ne_of_none ?nh1 ?nh2); (case nh2 => assumption); (case nh1 => walk_at "hp"))
  | ((refine' Ne.symm (ne_of_none ?nh1 ?nh2)); (case nh2 => assumption); (case nh1 => walk_at "hp")))
local macro_rules | `(tactic| walk_at "hp") => `(tactic| first
  | assumption
  | exact upd_same
  | ((refine' SqL.of ?hq); (case hq => walk_at "hp"))
  | ((refine' SqT.of ?hq); (case hq => walk_at "hp"))
  | ((refine' (upd_ne ?hne).trans ?hrest); (case hne => walk_at "ne"); (case hrest => walk_at "hp"))
  | ((refine' ly_at ?hex ?hh); (case hex => assumption); (case hh => walk_at "hp"))
  | ((refine' ly_atF ?hex ?hnn ?hh); (case hex => assumption); (case hh => walk_at "hp"); (case hnn => walk_at "ne"))
  | ((refine' ex_t ?hex ?hh); (case hh => assumption); (case hex => walk_at "ex"))
  | ((refine' ex_l ?hex ?hh); (case hh => assumption); (case hex => walk_at "ex")))
local macro_rules | `(tactic| walk_at "ex") => `(tactic| first
  | assumption
  | exact Ex.refl _
  | ((refine' ex_new ?xa ?xb); (case xb => assumption); (case xa => walk_at "ex"))
  | ((refine' ex_upd ?xa ?xb); (case xb => walk_at "free"); (case xa => walk_at "ex"))
  | ((refine' Ex.trans ?xa ?xb); (case xb => assumption); (case xa => walk_at "ex")))
local macro_rules | `(tactic| walk_at "free") => `(tactic| first
  | assumption
  | ((refine' fresh_back ?xa ?xb); (case xb => assumption); (case xa => walk_at "ex")))
local macro_rules | `(tactic| walk_at "fr") => `(tactic| first
  | assumption
  | exact Fr.refl _ _
  | ((refine' Fr.own ?hq); (case hq => walk_at "fr"))
  | ((refine' Fr.new ?xa ?xb); (case xb => assumption); (case xa => walk_at "fr"))
  | ((refine' Fr.mut ?xa ?xb); (case xb => assumption); (case xa => walk_at "fr"))
  | ((refine' Fr.trans ?xa ?xb); (case xb => assumption); (case xa => walk_at "fr"))
  | ((refine' Fr.trans ?xa (Fr.ex ?xb)); (case xb => assumption); (case xa => walk_at "fr")))
local macro_rules | `(tactic| walk_at "go1") => `(tactic| first
  | (with_reducible refine' w_seq ?_)
  | (with_reducible refine' w_asg ?_)
  | (with_reducible refine' w_ret ?_)
  | (with_reducible refine' w_drop ?_)
  | (with_reducible refine' w_if ?_)
  | (with_reducible refine' w_next ?_)
  | (with_reducible refine' w_name ?_)
  | (with_reducible refine' w_sub ?_)
  | ((with_reducible refine' w_var ?hv ?_); (case hv => exact rfl))
  | (with_reducible refine' w_c ?_)
  | (with_reducible refine' w_op ?_)
  | (with_reducible refine' w_un ?_)
  | (with_reducible refine' w_ch ?_)
  | (with_reducible refine' w_I0 ?_)
  | ((with_reducible refine' w_I ?hc ?_); (case hc => first | (exact ly_mulL (by decide) (by decide)) | (exact ly_mulR (by decide) (by decide)) | (exact ly_mulL (by omega) (by omega)) | (show (_ : Int) ≠ 0; decide) | (show (_ : Int) ≠ 0; omega) | (exact ⟨by decide, by decide⟩) | (exact ⟨by omega, by omega⟩)))
  | (with_reducible refine' w_U ?_)
  | ((with_reducible refine' w_eq ?hs ?_); (case hs => exact rfl))
  | ((with_reducible refine' w_ne ?hs ?_); (case hs => exact rfl))
  | (with_reducible refine' w_isB ?_)
  | (with_reducible refine' w_notB ?_)
  | (with_reducible refine' w_nil ?_)
  | (with_reducible refine' w_cons ?_)
  | (with_reducible refine' w_tup ?_)
  | (with_reducible refine' w_lst ?_)
  | (with_reducible refine' w_cb ?_)
  | (with_reducible refine' w_call ?_)
  | (with_reducible refine' w_bm ?_)
  | (with_reducible refine' w_bm0 ?_)
  | ((with_reducible refine' w_app ?hh ?hz ?_); (case hh => walk_at "hp"); (case hz => first | exact ly_lt (by omega) | exact ly_lt (by simp only [List.length_append, List.length_map, List.length_cons, List.length_nil]; omega)))
  | ((with_reducible refine' w_popA ?hh ?_); (case hh => walk_at "hp"))
  | ((with_reducible refine' w_ext ?hh ?hh2 ?hz ?_); (case hh => walk_at "hp"); (case hh2 => walk_at "hp"))
  | ((with_reducible refine' w_ixL ?hh ?ha ?_); (case hh => walk_at "hp"); (case ha => first | exact rfl | exact at_map (by omega) | exact atI_last _ _ | ((refine' at_of ?ae ?ah); (case ah => assumption); (case ae => omega))))
  | ((with_reducible refine' w_ixT ?hh ?ha ?_); (case hh => walk_at "hp"); (case ha => first | exact rfl | exact at_map (by omega) | exact atI_last _ _ | ((refine' at_of ?ae ?ah); (case ah => assumption); (case ae => omega))))
  | ((with_reducible refine' w_cat ?hh ?hh2 ?hz ?_); (case hh => walk_at "hp"); (case hh2 => walk_at "hp"))
  | ((with_reducible refine' w_setL ?hh ?ha ?_); (case hh => walk_at "hp"); (case ha => exact rfl))
  | (with_reducible refine' w_test ?_)
  | (with_reducible refine' w_tB ?_)
  | (with_reducible refine' w_bl ?_)
  | (with_reducible refine' w_and ?_)
  | (with_reducible refine' w_or ?_)
  | (with_reducible refine' w_not ?_)
  | (with_reducible refine' w_andV ?_)
  | (with_reducible refine' w_orV ?_)
  | (with_reducible refine' w_notV ?_)
  | (with_reducible refine' w_ifE ?_)
  | (with_reducible refine' w_for ?_)
  | ((with_reducible refine' w_nin ?hh ?_); (case hh => walk_at "hp"))
  | ((with_reducible refine' w_sorted ?hh ?_); (case hh => walk_at "hp"))
  | (with_reducible refine' w_tsadd ?_)
  | ((with_reducible refine' w_tsadd1 ?hh ?_); (case hh => walk_at "hp"))
  | ((with_reducible refine' w_sadd ?hh ?hr ?_); (case hh => walk_at "hp"); (case hr => omega))
  | (with_reducible refine' w_iZ ?_)
  | ((with_reducible refine' w_iZ1 ?hh ?hh2 ?_); (case hh => walk_at "hp"); (case hh2 => walk_at "hp"))
  | (with_reducible refine' w_iS ?_)
  | (with_reducible refine' w_iS1 ?_)
  | ((with_reducible refine' w_gtup ?hh ?hn ?_); (case hh => walk_at "hp"); (case hn => exact rfl))
  | (with_reducible refine' w_gcons ?_)
  | (with_reducible refine' w_gnil ?_)
  | (with_reducible refine' w_js ?_)
  | (with_reducible refine' w_jsn ?_)
  | ((with_reducible refine' w_js1 ?hl ?_); (case hl => decide +kernel))
  | (with_reducible refine' w_fmt ?_)
  | ((with_reducible refine' w_fmt1 ?hl ?_); (case hl => decide +kernel))
  | (with_reducible refine' w_callS ?_)
  | ((with_reducible refine' w_truL ?hh ?_); (case hh => walk_at "hp"))
  | (with_reducible refine' w_lc ?_)
  | (with_reducible refine' w_yes ?_)
  | ((with_reducible refine' w_wipe ?he ?_); (case he => exact rfl))
  | (with_reducible refine' w_iL ?_)
  | (with_reducible refine' w_iT ?_)
  | (with_reducible refine' w_iR ?_)
  | ((with_reducible refine' w_iL1 ?hh ?_); (case hh => walk_at "hp"))
  | ((with_reducible refine' w_iT1 ?hh ?_); (case hh => walk_at "hp"))
  | ((with_reducible refine' w_iR1 ?h1 ?h2 ?_); (case h1 => omega); (case h2 => omega))
  | ((with_reducible refine' w_aug ?hv ?_); (case hv => exact rfl))
  | (with_reducible refine' w_ipI ?_)
  | ((with_reducible refine' w_isi ?hy ?hk ?_); (case hy => walk_at "ty"); (case hk => walk_at "kit"))
  | ((with_reducible refine' w_int ?_))
  | ((with_reducible refine' w_intB ?_))
  | ((with_reducible refine' w_abs ?_))
  | ((with_reducible refine' w_lenL ?hh ?_); (case hh => walk_at "hp"))
  | ((with_reducible refine' w_lenT ?hh ?_); (case hh => walk_at "hp"))
  | ((with_reducible refine' w_tupL ?hh ?_); (case hh => walk_at "hp"))
  | ((with_reducible refine' w_tupT ?hh ?_); (case hh => walk_at "hp"))
  | ((with_reducible refine' w_catA ?hh ?hh2 ?hz ?_); (case hh => walk_at "hp"); (case hh2 => walk_at "hp"); (case hz => walk_at "len"))
  | ((with_reducible refine' w_repB ?hh ?hne ?h2 ?h3 ?hz ?_); (case hh => walk_at "hp"); (case hne => simp); (case h2 => omega); (case h3 => omega); (case hz => exact Nat.le_of_ble_eq_true rfl))
  | ((with_reducible refine' w_eqN ?hh ?hh2 ?n1 ?n2 ?_); (case hh => walk_at "hp"); (case hh2 => walk_at "hp"); (case n1 => walk_at "nd"); (case n2 => walk_at "nd"))
  | ((with_reducible refine' w_neN ?hh ?hh2 ?n1 ?n2 ?_); (case hh => walk_at "hp"); (case hh2 => walk_at "hp"); (case n1 => walk_at "nd"); (case n2 => walk_at "nd"))
  | ((with_reducible refine' w_eqL ?hh ?hh2 ?n1 ?n2 ?_); (case hh => walk_at "hp"); (case hh2 => walk_at "hp"); (case n1 => walk_at "nd"); (case n2 => walk_at "nd"))
  | ((with_reducible refine' w_neL ?hh ?hh2 ?n1 ?n2 ?_); (case hh => walk_at "hp"); (case hh2 => walk_at "hp"); (case n1 => walk_at "nd"); (case n2 => walk_at "nd"))
  | ((with_reducible refine' w_neNon ?hh2 ?n2 ?_); (case hh2 => walk_at "hp"); (case n2 => walk_at "nd"))
  | ((with_reducible refine' w_eqNon ?hh2 ?n2 ?_); (case hh2 => walk_at "hp"); (case n2 => walk_at "nd"))
  | ((with_reducible refine' w_slA ?hh ?_); (case hh => walk_at "hp"))
  | ((with_reducible refine' w_disp ?hz ?_); (case hz => exact sz_of (Nat.le_of_ble_eq_true rfl)))
  | ((with_reducible refine' w_tyL ?hh ?_); (case hh => walk_at "hp"))
  | (with_reducible refine' iteT ?_)
  | (with_reducible refine' iteF ?_)
  | (with_reducible refine' w_nT ?_)
  | (with_reducible refine' w_nn ?_)
  | (with_reducible refine' w_nnT ?_)
  | (with_reducible refine' w_nnR ?_)
  | (with_reducible refine' w_neG ?_)
  | (with_reducible refine' w_eqG ?_)
  | (with_reducible refine' w_neS ?_)
  | (with_reducible refine' w_eqS ?_)
  | (with_reducible refine' w_neSb ?_)
  | (with_reducible refine' w_eqSb ?_)
  | (with_reducible refine' w_deIS ?_)
  | (with_reducible refine' w_deSI ?_)
  | (with_reducible refine' w_deISn ?_)
  | ((with_reducible refine' w_deST ?he ?_); (case he => decide +kernel))
  | ((with_reducible refine' w_deSF ?he ?_); (case he => decide +kernel))
  | ((with_reducible refine' w_deSTn ?he ?_); (case he => decide +kernel))
  | ((with_reducible refine' w_deSFn ?he ?_); (case he => decide +kernel))
  | (with_reducible refine' w_nF ?_)
  | dsimp only [Bool.not_true, Bool.not_false])
local macro_rules | `(tactic| walk_at "ty") => `(tactic| first
  | exact .base (.int _) | exact .base (.str _) | exact .base (.bl _) | exact .base .non
  | ((refine' tyx_t ?hq); (case hq => walk_at "hp")) | ((refine' tyx_l ?hq); (case hq => walk_at "hp")) | ((refine' .base (.tup ?hq)); (case hq => walk_at "hp")) | assumption)
local macro_rules | `(tactic| walk_at "go") => `(tactic| repeat walk_at "go1")
local macro_rules | `(tactic| walk_at "st") => `(tactic| try dsimp only [cxOf, Cx.nox, Cx.wish])
local macro_rules | `(tactic| walk_at "kit") => `(tactic| with_reducible first | exact kit_int_int | exact kit_int_str | exact kit_int_bool | exact kit_int_tuple | exact kit_int_list | exact kit_str_int | exact kit_str_str | exact kit_str_bool | exact kit_str_tuple | exact kit_str_list | exact kit_bool_int | exact kit_bool_str | exact kit_bool_bool | exact kit_bool_tuple | exact kit_bool_list | exact kit_NoneType_int | exact kit_NoneType_str | exact kit_NoneType_bool | exact kit_NoneType_tuple | exact kit_NoneType_list | exact kit_list_int | exact kit_list_str | exact kit_list_bool | exact kit_list_tuple | exact kit_list_list | exact kit_tuple_int | exact kit_tuple_str | exact kit_tuple_bool | exact kit_tuple_tuple | exact kit_tuple_list)
local macro_rules | `(tactic| walk_at "nd") => `(tactic| first
  | assumption
  | exact Tm.nds _
  | exact Nds.nil
  | exact Nds.ofInts _
  | ((refine' Nds.cons ?na ?nb); (case na => first | exact Nds.I _ | exact Nds.L | exact Nds.A); (case nb => walk_at "nd"))
  | ((refine' Nds.app ?na ?nb); (case na => walk_at "nd"); (case nb => walk_at "nd"))
  | ((refine' Nds.rep ?na _); (case na => walk_at "nd")))
local macro_rules | `(tactic| walk_at "len") => `(tactic| first
  | exact ly_sz (by omega)
  | ((simp only [List.length_append, List.length_cons, List.length_nil, List.length_map, PyProof.Rows.lm_len_rep_flat]); exact ly_sz (by omega)))
local macro_rules | `(tactic| walk_at "go1") => `(tactic| first
  | (with_reducible refine' w_kget2 ?_)
  | (with_reducible refine' w_isRN ?_)
  | (with_reducible refine' w_isNN ?_)
  | (with_reducible refine' w_isIN ?_)
  | ((with_reducible refine' w_kg ?hd ?_); (case hd => assumption)))
local macro_rules | `(tactic| walk_at "go1") => `(tactic| first
  | ((with_reducible refine' w_extT ?hh ?hh2 ?hz ?_); (case hh => walk_at "hp"); (case hh2 => walk_at "hp"))
  | ((with_reducible refine' w_I ?hc ?_); (case hc => exact ⟨by decide, by decide, by decide⟩))
  | (with_reducible refine' w_sl ?_)
  | (with_reducible refine' w_noP ?_)
  | (with_reducible refine' w_part ?_)
  | (with_reducible refine' w_part1 ?_)
  | (with_reducible refine' w_it ?_)
  | (with_reducible refine' w_it1 ?_)
  | ((with_reducible refine' w_lenZ ?hz ?_); (case hz => omega))
  | ((with_reducible refine' w_addZb ?hz ?_); (case hz => omega))
  | ((with_reducible refine' w_addZf ?hz ?_); (case hz => omega))
  | ((with_reducible refine' w_addZa ?hz ?_); (case hz => omega))
  | ((with_reducible refine' w_inS ?hh ?_); (case hh => walk_at "hp"))
  | ((with_reducible refine' w_ixT ?hh ?ha ?_); (case hh => assumption); (case ha => exact atI_nat (by assumption))))
local macro_rules | `(tactic| walk_at "go1") => `(tactic| first
  | (with_reducible refine' w_iR2 ?_)
  | ((with_reducible refine' w_iR21 ?h1 ?h2 ?h3 ?h4 ?_); (case h1 => omega); (case h2 => omega); (case h3 => omega); (case h4 => omega))
  | (with_reducible refine' w_nnI ?_)
  | (with_reducible refine' w_max ?_)
  | (with_reducible refine' w_break ?_)
  | (with_reducible refine' w_cont ?_))
section
variable {P : Program} {w : World} {K : PySem.W.Frag} {mg : Str → Option Value} {base : Heap} {tk : Nat → Tok} {cl : Nat → Addr}
local macro_rules | `(tactic| walk_at "go1") => `(tactic| first
  | (with_reducible refine' w_make ?_)
  | (with_reducible refine' w_tfld ?_))
def spStandard (K : PySem.W.Frag) (C1 C2 : Addr) : Sp := fun vs H Q E => ∃ (a l : Addr) (t : Tm) (road : List (List Nat)), vs = [.ref a, .ref l] ∧ SqT K H a t.enc ∧ H l = some (.lst (plcs road)) ∧ t.enc.length ≤ 3000 ∧ road.length ≤ 1000 ∧ (∀ r ∈ road, r.length ≤ 3000) ∧
  (∀ ms v, Run t road ms v → (∀ out, stdS 200 t road = some out → ∀ H' q, Ex H H' → H q = none → H' q = some (.lst (plcs out)) → Q (.ref q) H') ∧ (stdS 200 t road = none → ∀ H', Ex H H' → E (.ref C1) none H')) ∧
  (Tm.pass t road = .large → ∀ H', Ex H H' → E (.ref C1) none H') ∧ (Tm.pass t road = .none → ∀ H', Ex H H' → E (.ref C2) none H')
theorem ok_standard {f : Addr} {fd : FuncData} (F : Fun K "standard" "standard" s_standard f fd) (T : Txt w K mg tk cl)
    (D1 : Def P w K mg base (L2.CX P w) 8 "moves_of" ["term", "road"] (spMovesOf K (cl 20) (cl 1) (cl 2))) (D2 : Def P w K mg base (L2.CX P w) 1 "check_length" ["road"] (spChkLen (cl 1))) (D3 : Def P w K mg base CX0 4 "first_source" ["moves"] (spFirstSrc K (cl 20)))
    (D4 : Def P w K mg base CX0 2 "places" ["term"] (spLPlaces K)) (D5 : Def P w K mg base (L2.CX P w) 8 "moves_without" ["moves", "p", "number"] (spWithout K (cl 20) (cl 1))) : FnOk P w K mg base (L2.CX P w) 10 f fd ["term", "road"] (spStandard K (cl 1) (cl 2)) := by
  obtain ⟨f1, fd1, g_moves_of, kp_moves_of, b_moves_of, G_moves_of⟩ := D1
  obtain ⟨f2, fd2, g_check_length, kp_check_length, b_check_length, G_check_length⟩ := D2
  obtain ⟨f3, fd3, g_first_source, kp_first_source, b_first_source, G_first_source⟩ := D3
  obtain ⟨f4, fd4, g_places, kp_places, b_places, G_places⟩ := D4
  obtain ⟨f5, fd5, g_moves_without, kp_moves_without, b_moves_without, G_moves_without⟩ := D5
  refine F.okX sc_standard (fun vs H Q E h => ?_) (fun cdv A outer s H vs Q E hr h => ?_)
  · obtain ⟨_, _, _, _, rfl, _⟩ := h
    rfl
  · obtain ⟨a, l, t, road, rfl, hS, hl, htl, hrl, hrs, q, xl, xn⟩ := h
    refine ⟨_, (pss_cons (ps_set (i := 2) sc_standard.nd rfl (.inl rfl) (pe_call G_moves_of (hr.mono (by first | decide | omega)) (by rfl) g_moves_of kp_moves_of b_moves_of .nil (passes_call (takes_of rfl rfl rfl rfl) (fun _ _ _ _ h => h)) (pa_cons (pv 0) (pa_cons (pv 1) pa_nil)))) (pss_cons (ps_set (i := 3) sc_standard.nd rfl (.inl rfl) (pe_lst pa_nil)) (pss_cons (ps_while (passes_of rfl) (pt_cmpR op_gt (pe_callB call_len_seq (by rfl) T.n_len (by decide +kernel) (pa_cons (pv 2) pa_nil)) pe_int (nomark _)) (pss_cons (ps_expr (pe_call G_check_length (hr.mono (by first | decide | omega)) (by rfl) g_check_length kp_check_length b_check_length .nil (passes_call (takes_of rfl rfl rfl rfl) (fun _ _ _ _ h => h)) (pa_cons (pv 2) pa_nil))) (pss_cons (ps_asg (pe_call G_first_source (hr.mono (by first | decide | omega)) (by rfl) g_first_source kp_first_source b_first_source .nil pass0 (pa_cons (pv 2) pa_nil)) (pg_tup (by rfl) (pgs_cons (pg_name (i := 4) sc_standard.nd rfl (.inl rfl)) (pgs_cons (pg_name (i := 5) sc_standard.nd rfl (.inl rfl)) pgs_nil)))) (pss_cons (ps_expr (pe_bm PySem.F.plainAttrs_list PySem.F.slot_list_append PySem.F.type_list_append mt_append (pv 3) (pa_cons (pe_ix ix_list (pe_call G_places (hr.mono (by first | decide | omega)) (by rfl) g_places kp_places b_places .nil pass0 (pa_cons (pe_fld (pe_ix ix_list (pv 2) pe_int (fun _ _ => rfl)) rfl) pa_nil)) (pv 4) (fun _ _ => rfl)) pa_nil))) (pss_cons (ps_expr (pe_call G_check_length (hr.mono (by first | decide | omega)) (by rfl) g_check_length kp_check_length b_check_length .nil (passes_call (takes_of rfl rfl rfl rfl) (fun _ _ _ _ h => h)) (pa_cons (pv 3) pa_nil))) (pss_one (ps_set (i := 2) sc_standard.nd rfl (.inl rfl) (pe_call G_moves_without (hr.mono (by first | decide | omega)) (by rfl) g_moves_without kp_moves_without b_moves_without .nil (passes_call (takes_of rfl rfl rfl rfl) (fun _ _ _ _ h => h)) (pa_cons (pv 2) (pa_cons (pv 4) (pa_cons (pv 5) pa_nil))))))))))) (pss_one (ps_ret (pv 3)))))), ?_⟩
    refine sl_of (σ2 := [some _, some _, none, none, none, none]) rfl ?_
    walk_at "st"
    walk_at "go"
    refine ⟨a, l, t, road, rfl, hS, hl, htl, hrl, hrs, fun ms v run H1 ml as e1 hml0 hml hms => ?_, fun hp H1 e1 => xl hp _ e1, fun hp H1 e1 => xn hp _ e1⟩
    obtain ⟨q, xs⟩ := q ms v run
    walk_at "go"
    intro fl hfl
    have e2 := Ex.new hfl (o := .lst (plcs []))
    have hf2 : upd H1 fl (.lst (plcs [])) fl = some (.lst (plcs [])) := upd_same
    rw [show (HO.lst ([] : List V)) = .lst (plcs []) from rfl]
    have hml2 := e2 _ _ hml
    have hms2 := (hms.off hfl).ex e2
    have hfl0 : H fl = none := fresh_back e1 hfl
    have e02 := e1.trans e2
    generalize upd H1 fl (.lst (plcs [])) = H2 at *
    have hrun0 := run.len
    walk_at "go"
    refine w_while (fun mm σ H' => ∃ (mla : Addr) (as' : List Addr) (t' : Tm) (road' : List (List Nat)) (ms' : List Mv) (outs : List (List Nat)) (y4 y5 : Option V), σ = [some (.ref a), some (.ref l), some (.ref mla), some (.ref fl), y4, y5] ∧ Ex H H' ∧ H' mla = some (.lst (refs as')) ∧ MvsAt K (cl 20) (fun b => b ≠ fl) H' as' ms' ∧ Run t' road' ms' v ∧ H' fl = some (.lst (plcs outs)) ∧ outs.length ≤ 200 ∧ stdS 200 t road = (stdS (200 - outs.length) t' road').map (outs ++ ·) ∧ t'.enc.length ≤ 3000 ∧ ms'.length ≤ 1000 ∧ mm = 201 - outs.length) 201
      ⟨ml, as, t, road, ms, [], none, none, rfl, e02, hml2, hms2, run, hf2, by simp, by rw [show (([] : List (List Nat)) ++ ·) = id from rfl, Option.map_id]; rfl, htl, by omega, rfl⟩ ?_
    rintro mm σ H3 ⟨mla, as', t', road', ms', outs, y4, y5, rfl, e3, hml3, hms3, run3, hf3, hou, hstd, htl3, hml1, rfl⟩
    have asl := hms3.len
    have hrl3 := run3.len
    have lo : (plcs outs).length = outs.length := List.length_map _
    have la : (refs as').length = as'.length := List.length_map _
    walk_at "go"
    by_cases hne : road' = []
    · subst hne
      have hz : ms' = [] := List.length_eq_zero_iff.mp (by simpa using hrl3)
      subst hz
      rw [decide_eq_false (by rw [la, asl]; simp)]
      rw [stdS_nil] at hstd
      walk_at "go"
      exact q outs (by rw [hstd]; simp) _ fl e3 hfl0 hf3
    · have hpos := List.length_pos_iff.mpr hne
      rw [decide_eq_true (by rw [la, asl]; omega)]
      walk_at "go"
      refine ⟨fun σ' H' => ∃ (mla : Addr) (as' : List Addr) (t' : Tm) (road' : List (List Nat)) (ms' : List Mv) (outs2 : List (List Nat)) (y4 y5 : Option V), σ' = [some (.ref a), some (.ref l), some (.ref mla), some (.ref fl), y4, y5] ∧ Ex H H' ∧ H' mla = some (.lst (refs as')) ∧ MvsAt K (cl 20) (fun b => b ≠ fl) H' as' ms' ∧ Run t' road' ms' v ∧ H' fl = some (.lst (plcs outs2)) ∧ outs2.length ≤ 200 ∧ stdS 200 t road = (stdS (200 - outs2.length) t' road').map (outs2 ++ ·) ∧ t'.enc.length ≤ 3000 ∧ ms'.length ≤ 1000 ∧ outs.length < outs2.length, fun σ' H' z => ?_, ?_⟩
      · obtain ⟨mla2, as2, t2, road2, ms2, outs2, y42, y52, g1, g2, g3, g4, g5, g6, g7, g8, g9, g10, g11⟩ := z
        exact ⟨201 - outs2.length, by omega, mla2, as2, t2, road2, ms2, outs2, y42, y52, g1, g2, g3, g4, g5, g6, g7, g8, g9, g10, rfl⟩
      walk_at "go"
      refine ⟨mla, refs as', rfl, hml3, by omega, fun hlen => ?_, fun hlen H4 e4 => ?_⟩
      rotate_left
      · exact xs (by rw [hstd, stdS_long (by omega)]; rfl) _ (e3.trans e4)
      have hm0 : ∃ m0, ms'[0]? = some m0 := ⟨_, List.getElem?_eq_getElem (by omega)⟩
      obtain ⟨m0, hm0⟩ := hm0
      obtain ⟨hred, hnr, hna⟩ := nx_ok run3 hne
      have hL := lst_least run3 hne
      have elst : fsN ms' m0.i (ms'.length - 1) = lst t' road' := by
        unfold lst
        rw [run_mvs run3]
        cases ms' with
        | nil => simp at hm0
        | cons m r => simp at hm0; rw [hm0]; rfl
      walk_at "go"
      refine ⟨mla, as', _, t', v, road', ms', m0, rfl, hml3, hms3, run3, htl3, by omega, hm0, fun H4 p4 e4 hp4 => ?_⟩
      rw [elst] at hp4
      have hml4 := e4 _ _ hml3
      have hms4 := hms3.ex e4
      have hf4 := e4 _ _ hf3
      have e04 := e3.trans e4
      walk_at "go"
      have hml0 : 0 < as'.length := by omega
      obtain ⟨x0, hx0⟩ : ∃ x0, as'[0]? = some x0 := ⟨_, List.getElem?_eq_getElem hml0⟩
      have hxv : (refs as')[0]? = some (.ref x0) := by rw [List.getElem?_map, hx0]; rfl
      obtain ⟨mx, hmx, hmv⟩ := hms4.at hx0
      rw [hm0] at hmx
      cases hmx
      obtain ⟨hred0, dx, ta, ra, oa, h1, h2, h3, h4, h5⟩ := hmv
      rw [rn_head run3 hm0] at h2
      refine w_ixL (SqL.of hml4) (atI_nat (j := 0) hxv) ?_
      refine ⟨x0, cl 20, dx, _, _, rfl, h1, T.cls_Move, T.nf_Move_term, mv_term _ _ _ _, ?_⟩
      walk_at "go"
      refine ⟨ta, t', rfl, h2, by omega, fun H5 p5 e5 hp50 hp5 => ?_⟩
      have hlt5 := redB_lt hred
      obtain ⟨bz, uz, hrz⟩ := red_of_redB hred
      obtain ⟨_, hpz⟩ := Tm.sub_at t' (plc t' (lst t' road').1) [] hrz
      rw [List.nil_append] at hpz
      have ixp : atI (plcs (t'.pls [])) ((lst t' road').1 : Int) = some (.str (pl (plc t' (lst t' road').1))) := atI_nat (by rw [List.getElem?_map, hpz]; rfl)
      have hf5 := e5 _ _ hf4
      have hml5 := e5 _ _ hml4
      have hms5 := hms4.ex e5
      have e05 := e04.trans e5
      have nmf : mla ≠ fl := fun z => by
        rw [z, hf4] at hml4
        have h9 := HO.lst.inj (Option.some.inj hml4)
        cases as' with
        | nil => simp at hml0
        | cons y r => cases outs <;> simp [plcs, refs] at h9
      walk_at "go"
      refine w_ixL (SqL.of hp5) ixp ?_
      walk_at "go"
      have er : plcs outs ++ [V.str (pl (plc t' (lst t' road').1))] = plcs (outs ++ [plc t' (lst t' road').1]) := by simp [plcs]
      rw [er]
      have e6 : Ex H (upd H5 fl (.lst (plcs (outs ++ [plc t' (lst t' road').1])))) := e05.mut hfl0
      have hf6 : upd H5 fl (.lst (plcs (outs ++ [plc t' (lst t' road').1]))) fl = some (.lst (plcs (outs ++ [plc t' (lst t' road').1]))) := upd_same
      have hml6 : upd H5 fl (.lst (plcs (outs ++ [plc t' (lst t' road').1]))) mla = some (.lst (refs as')) := by rw [upd_ne nmf]; exact hml5
      have hms6 := hms5.keep (fun a h => h) (zs := plcs (outs ++ [plc t' (lst t' road').1])) hf5
      generalize upd H5 fl (.lst (plcs (outs ++ [plc t' (lst t' road').1]))) = H6 at *
      clear hf5 hml5 hms5 hf4 hml4 hms4 e5 e4 h1 h2 h3 h4 h5 hp5 hp50 hp4
      have lo1 : (plcs (outs ++ [plc t' (lst t' road').1])).length = outs.length + 1 := by simp
      refine ⟨fl, _, rfl, hf6, by omega, fun hlen2 => ?_, fun hlen2 H7 e7 => ?_⟩
      rotate_left
      · have ho : outs.length = 200 := by omega
        exact xs (by rw [hstd, ho, show 200 - 200 = 0 from rfl]; simp [stdS, hne]) _ (e6.trans e7)
      walk_at "go"
      refine ⟨mla, as', _, t', v, road', ms', (lst t' road').1, (lst t' road').2, rfl, hml6, hms6, run3, hL, htl3, hml1, fun H7 q7 as7 ms7 e7 hq7 hm7 run7 hfit hl7 => ?_, fun hbad H7 e7 => ?_⟩
      rotate_left
      · have en : stdS (200 - outs.length) t' road' = none := by
          rcases hbad with h | h | h
          · exact stdS_bad hne (.inl h)
          · refine stdS_bad hne (.inr ?_)
            unfold nxT nxR
            rw [run_mvs run3]
            exact h
          · refine stdS_more hne ?_
            unfold nxR
            rw [run_mvs run3]
            exact h
        exact xs (by rw [hstd, en]; rfl) _ (e6.trans e7)
      walk_at "go"
      have eN : newRoad (lst t' road').1 (lst t' road').2 ms' road' = nxR t' road' := by
        unfold nxR
        rw [run_mvs run3]
      rw [eN] at run7 hl7
      have hlen3 : road'.length ≤ 200 := by rw [← hrl3, ← asl, ← la]; assumption
      have hf7 := e7 _ _ hf6
      have ho2 : (outs ++ [plc t' (lst t' road').1]).length = outs.length + 1 := by simp
      refine ⟨q7, as7, stp t' (lst t' road').1, nxR t' road', ms7, outs ++ [plc t' (lst t' road').1], _, _, rfl, e6.trans e7, hq7, hm7.mono fun b hb => ?_, run7, hf7, by omega, ?_, ?_, ?_, ?_⟩
      · rcases hb with h | h
        · exact h
        · exact fun z => by rw [z, hf6] at h; cases h
      · have e8 := stdS_next (n := 200 - outs.length - 1) hne hlen3 hfit (run_okPass run7)
        rw [show 200 - outs.length - 1 + 1 = 200 - outs.length by omega] at e8
        rw [hstd, e8, ho2, show 200 - (outs.length + 1) = 200 - outs.length - 1 by omega, Option.map_map]
        show Option.map _ (stdS _ (nxT t' road') _) = _
        congr 1
        funext x
        simp
      · have := fits_len hfit
        omega
      · have := run7.len
        omega
      · omega
end
end Ly
set_option Elab.async false
set_option linter.all false
set_option maxRecDepth 100000
set_option maxHeartbeats 8000000
namespace Ly
open PySem PySem.Spec PyProof.Rows L2 Evl
local macro_rules | `(tactic| walk_at "ne") => `(tactic| first
  | assumption
  | ((refine' Ne.symm ?hq); (case hq => assumption))
  | ((refine' ne_of_none ?nh1 ?nh2); (case nh2 => assumption); (case nh1 => walk_at "hp"))
  | ((refine' Ne.symm (ne_of_none ?nh1 ?nh2)); (case nh2 => assumption); (case nh1 => walk_at "hp")))
local macro_rules | `(tactic| walk_at "hp") => `(tactic| first
  | assumption
  | exact upd_same
  | ((refine' SqL.of ?hq); (case hq => walk_at "hp"))
  | ((refine' SqT.of ?hq); (case hq => walk_at "hp"))
  | ((refine' (upd_ne ?hne).trans ?hrest); (case hne => walk_at "ne"); (case hrest => walk_at "hp"))
  | ((refine' ly_at ?hex ?hh); (case hex => assumption); (case hh => walk_at "hp"))
  | ((refine' ly_atF ?hex ?hnn ?hh); (case hex => assumption); (case hh => walk_at "hp"); (case hnn => walk_at "ne"))
  | ((refine' ex_t ?hex ?hh); (case hh => assumption); (case hex => walk_at "ex"))
  | ((refine' ex_l ?hex ?hh); (case hh => assumption); (case hex => walk_at "ex")))
local macro_rules | `(tactic| walk_at "ex") => `(tactic| first
  | assumption
  | exact Ex.refl _
  | ((refine' ex_new ?xa ?xb); (case xb => assumption); (case xa => walk_at "ex"))
  | ((refine' ex_upd ?xa ?xb); (case xb => walk_at "free"); (case xa => walk_at "ex"))
  | ((refine' Ex.trans ?xa ?xb); (case xb => assumption); (case xa => walk_at "ex")))
local macro_rules | `(tactic| walk_at "free") => `(tactic| first
  | assumption
  | ((refine' fresh_back ?xa ?xb); (case xb => assumption); (case xa => walk_at "ex")))
local macro_rules | `(tactic| walk_at "fr") => `(tactic| first
  | assumption
  | exact Fr.refl _ _
  | ((refine' Fr.own ?hq); (case hq => walk_at "fr"))
  | ((refine' Fr.new ?xa ?xb); (case xb => assumption); (case xa => walk_at "fr"))
  | ((refine' Fr.mut ?xa ?xb); (case xb => assumption); (case xa => walk_at "fr"))
  | ((refine' Fr.trans ?xa ?xb); (case xb => assumption); (case xa => walk_at "fr"))
  | ((refine' Fr.trans ?xa (Fr.ex ?xb)); (case xb => assumption); (case xa => walk_at "fr")))
local macro_rules | `(tactic| walk_at "go1") => `(tactic| first
  | (with_reducible refine' w_seq ?_)
  | (with_reducible refine' w_asg ?_)
  | (with_reducible refine' w_ret ?_)
  | (with_reducible refine' w_drop ?_)
  | (with_reducible refine' w_if ?_)
  | (with_reducible refine' w_next ?_)
  | (with_reducible refine' w_name ?_)
  | (with_reducible refine' w_sub ?_)
  | ((with_reducible refine' w_var ?hv ?_); (case hv => exact rfl))
  | (with_reducible refine' w_c ?_)
  | (with_reducible refine' w_op ?_)
  | (with_reducible refine' w_un ?_)
  | (with_reducible refine' w_ch ?_)
  | (with_reducible refine' w_I0 ?_)
  | ((with_reducible refine' w_I ?hc ?_); (case hc => first | (exact ly_mulL (by decide) (by decide)) | (exact ly_mulR (by decide) (by decide)) | (exact ly_mulL (by omega) (by omega)) | (show (_ : Int) ≠ 0; decide) | (show (_ : Int) ≠ 0; omega) | (exact ⟨by decide, by decide⟩) | (exact ⟨by omega, by omega⟩)))
  | (with_reducible refine' w_U ?_)
  | ((with_reducible refine' w_eq ?hs ?_); (case hs => exact rfl))
  | ((with_reducible refine' w_ne ?hs ?_); (case hs => exact rfl))
  | (with_reducible refine' w_isB ?_)
  | (with_reducible refine' w_notB ?_)
  | (with_reducible refine' w_nil ?_)
  | (with_reducible refine' w_cons ?_)
  | (with_reducible refine' w_tup ?_)
  | (with_reducible refine' w_lst ?_)
  | (with_reducible refine' w_cb ?_)
  | (with_reducible refine' w_call ?_)
  | (with_reducible refine' w_bm ?_)
  | (with_reducible refine' w_bm0 ?_)
  | ((with_reducible refine' w_app ?hh ?hz ?_); (case hh => walk_at "hp"); (case hz => first | exact ly_lt (by omega) | exact ly_lt (by simp only [List.length_append, List.length_map, List.length_cons, List.length_nil]; omega)))
  | ((with_reducible refine' w_popA ?hh ?_); (case hh => walk_at "hp"))
  | ((with_reducible refine' w_ext ?hh ?hh2 ?hz ?_); (case hh => walk_at "hp"); (case hh2 => walk_at "hp"))
  | ((with_reducible refine' w_ixL ?hh ?ha ?_); (case hh => walk_at "hp"); (case ha => first | exact rfl | exact at_map (by omega) | exact atI_last _ _ | ((refine' at_of ?ae ?ah); (case ah => assumption); (case ae => omega))))
  | ((with_reducible refine' w_ixT ?hh ?ha ?_); (case hh => walk_at "hp"); (case ha => first | exact rfl | exact at_map (by omega) | exact atI_last _ _ | ((refine' at_of ?ae ?ah); (case ah => assumption); (case ae => omega))))
  | ((with_reducible refine' w_cat ?hh ?hh2 ?hz ?_); (case hh => walk_at "hp"); (case hh2 => walk_at "hp"))
  | ((with_reducible refine' w_setL ?hh ?ha ?_); (case hh => walk_at "hp"); (case ha => exact rfl))
  | (with_reducible refine' w_test ?_)
  | (with_reducible refine' w_tB ?_)
  | (with_reducible refine' w_bl ?_)
  | (with_reducible refine' w_and ?_)
  | (with_reducible refine' w_or ?_)
  | (with_reducible refine' w_not ?_)
  | (with_reducible refine' w_andV ?_)
  | (with_reducible refine' w_orV ?_)
  | (with_reducible refine' w_notV ?_)
  | (with_reducible refine' w_ifE ?_)
  | (with_reducible refine' w_for ?_)
  | ((with_reducible refine' w_nin ?hh ?_); (case hh => walk_at "hp"))
  | ((with_reducible refine' w_sorted ?hh ?_); (case hh => walk_at "hp"))
  | (with_reducible refine' w_tsadd ?_)
  | ((with_reducible refine' w_tsadd1 ?hh ?_); (case hh => walk_at "hp"))
  | ((with_reducible refine' w_sadd ?hh ?hr ?_); (case hh => walk_at "hp"); (case hr => omega))
  | (with_reducible refine' w_iZ ?_)
  | ((with_reducible refine' w_iZ1 ?hh ?hh2 ?_); (case hh => walk_at "hp"); (case hh2 => walk_at "hp"))
  | (with_reducible refine' w_iS ?_)
  | (with_reducible refine' w_iS1 ?_)
  | ((with_reducible refine' w_gtup ?hh ?hn ?_); (case hh => walk_at "hp"); (case hn => exact rfl))
  | (with_reducible refine' w_gcons ?_)
  | (with_reducible refine' w_gnil ?_)
  | (with_reducible refine' w_js ?_)
  | (with_reducible refine' w_jsn ?_)
  | ((with_reducible refine' w_js1 ?hl ?_); (case hl => decide +kernel))
  | (with_reducible refine' w_fmt ?_)
  | ((with_reducible refine' w_fmt1 ?hl ?_); (case hl => decide +kernel))
  | (with_reducible refine' w_callS ?_)
  | ((with_reducible refine' w_truL ?hh ?_); (case hh => walk_at "hp"))
  | (with_reducible refine' w_lc ?_)
  | (with_reducible refine' w_yes ?_)
  | ((with_reducible refine' w_wipe ?he ?_); (case he => exact rfl))
  | (with_reducible refine' w_iL ?_)
  | (with_reducible refine' w_iT ?_)
  | (with_reducible refine' w_iR ?_)
  | ((with_reducible refine' w_iL1 ?hh ?_); (case hh => walk_at "hp"))
  | ((with_reducible refine' w_iT1 ?hh ?_); (case hh => walk_at "hp"))
  | ((with_reducible refine' w_iR1 ?h1 ?h2 ?_); (case h1 => omega); (case h2 => omega))
  | ((with_reducible refine' w_aug ?hv ?_); (case hv => exact rfl))
  | (with_reducible refine' w_ipI ?_)
  | ((with_reducible refine' w_isi ?hy ?hk ?_); (case hy => walk_at "ty"); (case hk => walk_at "kit"))
  | ((with_reducible refine' w_int ?_))
  | ((with_reducible refine' w_intB ?_))
  | ((with_reducible refine' w_abs ?_))
  | ((with_reducible refine' w_lenL ?hh ?_); (case hh => walk_at "hp"))
  | ((with_reducible refine' w_lenT ?hh ?_); (case hh => walk_at "hp"))
  | ((with_reducible refine' w_tupL ?hh ?_); (case hh => walk_at "hp"))
  | ((with_reducible refine' w_tupT ?hh ?_); (case hh => walk_at "hp"))
  | ((with_reducible refine' w_catA ?hh ?hh2 ?hz ?_); (case hh => walk_at "hp"); (case hh2 => walk_at "hp"); (case hz => walk_at "len"))
  | ((with_reducible refine' w_repB ?hh ?hne ?h2 ?h3 ?hz ?_); (case hh => walk_at "hp"); (case hne => simp); (case h2 => omega); (case h3 => omega); (case hz => exact Nat.le_of_ble_eq_true rfl))
  | ((with_reducible refine' w_eqN ?hh ?hh2 ?n1 ?n2 ?_); (case hh => walk_at "hp"); (case hh2 => walk_at "hp"); (case n1 => walk_at "nd"); (case n2 => walk_at "nd"))
  | ((with_reducible refine' w_neN ?hh ?hh2 ?n1 ?n2 ?_); (case hh => walk_at "hp"); (case hh2 => walk_at "hp"); (case n1 => walk_at "nd"); (case n2 => walk_at "nd"))
  | ((with_reducible refine' w_eqL ?hh ?hh2 ?n1 ?n2 ?_); (case hh => walk_at "hp"); (case hh2 => walk_at "hp"); (case n1 => walk_at "nd"); (case n2 => walk_at "nd"))
  | ((with_reducible refine' w_neL ?hh ?hh2 ?n1 ?n2 ?_); (case hh => walk_at "hp"); (case hh2 => walk_at "hp"); (case n1 => walk_at "nd"); (case n2 => walk_at "nd"))
  | ((with_reducible refine' w_neNon ?hh2 ?n2 ?_); (case hh2 => walk_at "hp"); (case n2 => walk_at "nd"))
  | ((with_reducible refine' w_eqNon ?hh2 ?n2 ?_); (case hh2 => walk_at "hp"); (case n2 => walk_at "nd"))
  | ((with_reducible refine' w_slA ?hh ?_); (case hh => walk_at "hp"))
  | ((with_reducible refine' w_disp ?hz ?_); (case hz => exact sz_of (Nat.le_of_ble_eq_true rfl)))
  | ((with_reducible refine' w_tyL ?hh ?_); (case hh => walk_at "hp"))
  | (with_reducible refine' iteT ?_)
  | (with_reducible refine' iteF ?_)
  | (with_reducible refine' w_nT ?_)
  | (with_reducible refine' w_nn ?_)
  | (with_reducible refine' w_nnT ?_)
  | (with_reducible refine' w_nnR ?_)
  | (with_reducible refine' w_neG ?_)
  | (with_reducible refine' w_eqG ?_)
  | (with_reducible refine' w_neS ?_)
  | (with_reducible refine' w_eqS ?_)
  | (with_reducible refine' w_neSb ?_)
  | (with_reducible refine' w_eqSb ?_)
  | (with_reducible refine' w_deIS ?_)
  | (with_reducible refine' w_deSI ?_)
  | (with_reducible refine' w_deISn ?_)
  | ((with_reducible refine' w_deST ?he ?_); (case he => decide +kernel))
  | ((with_reducible refine' w_deSF ?he ?_); (case he => decide +kernel))
  | ((with_reducible refine' w_deSTn ?he ?_); (case he => decide +kernel))
  | ((with_reducible refine' w_deSFn ?he ?_); (case he => decide +kernel))
  | (with_reducible refine' w_nF ?_)
  | dsimp only [Bool.not_true, Bool.not_false])
local macro_rules | `(tactic| walk_at "ty") => `(tactic| first
  | exact .base (.int _) | exact .base (.str _) | exact .base (.bl _) | exact .base .non
  | ((refine' tyx_t ?hq); (case hq => walk_at "hp")) | ((refine' tyx_l ?hq); (case hq => walk_at "hp")) | ((refine' .base (.tup ?hq)); (case hq => walk_at "hp")) | assumption)
local macro_rules | `(tactic| walk_at "go") => `(tactic| repeat walk_at "go1")
local macro_rules | `(tactic| walk_at "st") => `(tactic| try dsimp only [cxOf, Cx.nox, Cx.wish])
local macro_rules | `(tactic| walk_at "kit") => `(tactic| with_reducible first | exact kit_int_int | exact kit_int_str | exact kit_int_bool | exact kit_int_tuple | exact kit_int_list | exact kit_str_int | exact kit_str_str | exact kit_str_bool | exact kit_str_tuple | exact kit_str_list | exact kit_bool_int | exact kit_bool_str | exact kit_bool_bool | exact kit_bool_tuple | exact kit_bool_list | exact kit_NoneType_int | exact kit_NoneType_str | exact kit_NoneType_bool | exact kit_NoneType_tuple | exact kit_NoneType_list | exact kit_list_int | exact kit_list_str | exact kit_list_bool | exact kit_list_tuple | exact kit_list_list | exact kit_tuple_int | exact kit_tuple_str | exact kit_tuple_bool | exact kit_tuple_tuple | exact kit_tuple_list)
local macro_rules | `(tactic| walk_at "nd") => `(tactic| first
  | assumption
  | exact Tm.nds _
  | exact Nds.nil
  | exact Nds.ofInts _
  | ((refine' Nds.cons ?na ?nb); (case na => first | exact Nds.I _ | exact Nds.L | exact Nds.A); (case nb => walk_at "nd"))
  | ((refine' Nds.app ?na ?nb); (case na => walk_at "nd"); (case nb => walk_at "nd"))
  | ((refine' Nds.rep ?na _); (case na => walk_at "nd")))
local macro_rules | `(tactic| walk_at "len") => `(tactic| first
  | exact ly_sz (by omega)
  | ((simp only [List.length_append, List.length_cons, List.length_nil, List.length_map, PyProof.Rows.lm_len_rep_flat]); exact ly_sz (by omega)))
local macro_rules | `(tactic| walk_at "go1") => `(tactic| first
  | (with_reducible refine' w_kget2 ?_)
  | (with_reducible refine' w_isRN ?_)
  | (with_reducible refine' w_isNN ?_)
  | (with_reducible refine' w_isIN ?_)
  | ((with_reducible refine' w_kg ?hd ?_); (case hd => assumption)))
section
variable {P : Program} {w : World} {K : PySem.W.Frag} {mg : Str → Option Value} {base : Heap} {tk : Nat → Tok} {cl : Nat → Addr}
theorem ok_ldepths {f : Addr} {fd : FuncData} {k : Nat} (F : Fun K "_law_depths" "_law_depths" s_law_depths f fd) (T : Txt w K mg tk cl) : FnOk P w K mg base CX0 (k + 1) f fd ["term"] (spDepths K) := by
  refine F.ok sc_law_depths (fun vs H Q E h => ?_) (fun cdv A outer s H vs Q E hr h => ?_)
  · obtain ⟨a, t, rfl, _⟩ := h
    rfl
  · obtain ⟨a, t, rfl, hS, hlen, q⟩ := h
    refine ⟨_, (pss_cons (ps_set (i := 1) sc_law_depths.nd rfl (.inl rfl) (pe_lst pa_nil)) (pss_cons (ps_set (i := 2) sc_law_depths.nd rfl (.inl rfl) (pe_lst (pa_cons pe_int pa_nil))) (pss_cons (ps_for PassesOwn.never rfl (pi_tup (pv 0)) (pg_name (i := 3) sc_law_depths.nd rfl (.inl rfl)) (pss_cons (ps_set (i := 4) sc_law_depths.nd rfl (.inl rfl) (pe_bm0 PySem.F.plainAttrs_list PySem.F.slot_list_pop PySem.F.type_list_pop mt_pop (pv 2))) (pss_cons (ps_expr (pe_bm PySem.F.plainAttrs_list PySem.F.slot_list_append PySem.F.type_list_append mt_append (pv 1) (pa_cons (pv 4) pa_nil))) (pss_one (ps_if (pt_cmpR op_eq (pv 3) pe_str (nomark _)) (pss_cons (ps_expr (pe_bm PySem.F.plainAttrs_list PySem.F.slot_list_append PySem.F.type_list_append mt_append (pv 2) (pa_cons (pv 4) pa_nil))) (pss_one (ps_expr (pe_bm PySem.F.plainAttrs_list PySem.F.slot_list_append PySem.F.type_list_append mt_append (pv 2) (pa_cons (pv 4) pa_nil))))) (pss_one (ps_if (pt_cmpR op_eq (pv 3) pe_str (nomark _)) (pss_one (ps_expr (pe_bm PySem.F.plainAttrs_list PySem.F.slot_list_append PySem.F.type_list_append mt_append (pv 2) (pa_cons (pe_op op_add (pv 4) pe_int) pa_nil)))) pss_nil))))))) (pss_one (ps_ret (pv 1)))))), ?_⟩
    refine sl_of (σ2 := [some _, none, none, none, none]) rfl ?_
    walk_at "st"
    walk_at "go"
    intro fl hfl
    walk_at "go"
    intro wl hwl
    have hwf : wl ≠ fl := (ne_of_none upd_same hwl).symm
    have hwl0 : H wl = none := by
      rw [upd_ne hwf] at hwl
      exact hwl
    walk_at "go"
    refine for_tup (K := K) (a := a) (xs := t.enc) (fun i σ H' => ∃ found ds y1 y2, σ = [some (.ref a), some (.ref fl), some (.ref wl), y1, y2] ∧ Ex H H' ∧ H' fl = some (.lst (nums found)) ∧ H' wl = some (.lst (nums ds)) ∧ DInv t i found ds ∧ found.length = i ∧ ds.length ≤ i + 1)
      ⟨[], [0], none, none, rfl, by walk_at "ex", by walk_at "hp", upd_same, DInv.start t, rfl, by simp⟩ (fun i σ H' _ h => by obtain ⟨_, _, _, _, _, e, _⟩ := h; exact ex_t e hS) ?_ ?_
    · rintro i v σ H1 hi ⟨found, ds, y1, y2, rfl, e1, hf1, hw1, hinv, hfl1, hds1⟩
      have hlt : i < t.enc.length := (List.getElem?_eq_some_iff.mp hi).1
      obtain ⟨r, d, rfl, hstep⟩ := hinv.step hi
      have hw1b : H1 wl = some (.lst (nums r ++ [V.int d])) := by rw [hw1]; simp [nums]
      have el : (nums found).length = found.length := List.length_map _
      have el2 : (nums r).length = r.length := List.length_map _
      have hrl : r.length ≤ i := by simpa using hds1
      have ef : nums found ++ [V.int d] = nums (found ++ [d]) := by simp [nums]
      rcases hstep with ⟨n, rfl, hn⟩ | ⟨rfl, hn⟩ | ⟨rfl, hn⟩
      · walk_at "go"
        refine ⟨found ++ [d], r, _, _, rfl, by walk_at "ex", ?_, by walk_at "hp", hn, by simp [hfl1], by omega⟩
        rw [← ef]
        walk_at "hp"
      · walk_at "go"
        refine ⟨found ++ [d], r ++ [d + 1], _, _, rfl, by walk_at "ex", ?_, ?_, hn, by simp [hfl1], by simp; omega⟩
        · rw [← ef]
          walk_at "hp"
        · rw [upd_same]
          simp [nums]
      · walk_at "go"
        refine ⟨found ++ [d], r ++ [d] ++ [d], _, _, rfl, by walk_at "ex", ?_, ?_, hn, by simp [hfl1], by simp; omega⟩
        · rw [← ef]
          walk_at "hp"
        · rw [upd_same]
          simp [nums]
    · rintro σ H1 ⟨found, ds, y1, y2, rfl, e1, hf1, hw1, hinv, hfl1, hds1⟩
      walk_at "go"
      rw [hinv.done] at hf1
      exact q H1 fl e1 hfl hf1
theorem ok_lend97 {f : Addr} {fd : FuncData} {k : Nat} (F : Fun K "_law_end" "_law_end" s_law_end f fd) (T : Txt w K mg tk cl) : FnOk P w K mg base CX0 (k + 1) f fd ["term", "at"] (spEnd K) := by
  refine F.ok sc_law_end (fun vs H Q E h => ?_) (fun cdv A outer s H vs Q E hr h => ?_)
  · obtain ⟨a, xs, s, u, post, rfl, _⟩ := h
    rfl
  · obtain ⟨a, xs, s, u, post, rfl, hS, hu, hlen, q⟩ := h
    refine ⟨_, (pss_cons (ps_set (i := 2) sc_law_end.nd rfl (.inl rfl) pe_int) (pss_cons (ps_while PassesOwn.never (pt_cmpR op_gt (pv 2) pe_int (nomark _)) (pss_cons (ps_set (i := 3) sc_law_end.nd rfl (.inl rfl) (pe_ix ix_tup (pv 0) (pv 1) (fun _ _ => rfl))) (pss_cons (ps_if (pt_cmpR op_eq (pv 3) pe_str (nomark _)) (pss_one (ps_set (i := 2) sc_law_end.nd rfl (.inl rfl) (pe_op op_add (pv 2) pe_int))) (pss_one (ps_if (pt_cmpR op_ne (pv 3) pe_str (nomark _)) (pss_one (ps_set (i := 2) sc_law_end.nd rfl (.inl rfl) (pe_op op_sub (pv 2) pe_int))) pss_nil))) (pss_one (ps_set (i := 1) sc_law_end.nd rfl (.inl rfl) (pe_op op_add (pv 1) pe_int)))))) (pss_one (ps_ret (pv 1))))), ?_⟩
    refine sl_of (σ2 := [some _, some _, none, none]) rfl ?_
    walk_at "st"
    walk_at "go"
    refine w_while (fun m σ H' => H' = H ∧ ∃ (e : Nat) (ts : List Tm) (y : Option V), σ = [some (.ref a), some (.int (e : Int)), some (.int (ts.length : Int)), y] ∧ EInv xs (s + u.enc.length) e ts ∧ m = s + u.enc.length - e) _ ⟨rfl, s, [u], none, rfl, EInv.start hu, rfl⟩ ?_
    rintro m σ H ⟨rfl, e, ts, y, rfl, inv, rfl⟩
    walk_at "go"
    cases ts with
    | nil =>
      obtain ⟨post2, h1, h2⟩ := inv
      have h2 : e = s + u.enc.length := by simpa [encs] using h2
      refine w_br (fun h => by simp at h) (fun _ => ?_)
      walk_at "go"
      rw [h2]
      exact q
    | cons t ts =>
      obtain ⟨lt, v, ts', hv, inv', hcase⟩ := inv.step
      refine w_br (fun h => ?_) (fun h => absurd h (by simp))
      refine ⟨fun σ' H' => H' = H ∧ ∃ (e' : Nat) (ts2 : List Tm) (y : Option V), σ' = [some (.ref a), some (.int (e' : Int)), some (.int (ts2.length : Int)), y] ∧ EInv xs (s + u.enc.length) e' ts2 ∧ e' = e + 1, fun σ' H' ⟨h1, e', ts2, y, h2, h3, h4⟩ => ⟨_, ?_, h1, e', ts2, y, h2, h3, rfl⟩, ?_⟩
      · omega
      · have fin : ∀ {j : Int} {y : Option V}, j = (ts'.length : Int) → H = H ∧ ∃ (e' : Nat) (ts2 : List Tm) (y' : Option V), [some (V.ref a), some (.int ((e : Int) + 1)), some (.int j), y] = [some (.ref a), some (.int (e' : Int)), some (.int (ts2.length : Int)), y'] ∧ EInv xs (s + u.enc.length) e' ts2 ∧ e' = e + 1 := fun {j y} hj => ⟨rfl, e + 1, ts', y, by rw [hj]; rfl, inv', rfl⟩
        walk_at "go"
        rcases hcase with ⟨n, rfl, hl⟩ | ⟨rfl, hl⟩ | ⟨rfl, hl⟩
        · walk_at "go"
          exact fin (by simp; omega)
        · walk_at "go"
          exact fin (by simp; omega)
        · walk_at "go"
          exact fin (by simp; omega)
end
end Ly
set_option Elab.async false
set_option linter.all false
set_option maxRecDepth 100000
set_option maxHeartbeats 8000000
namespace Ly
open PySem PySem.Spec PyProof.Rows L2 Evl
local macro_rules | `(tactic| walk_at "ne") => `(tactic| first
  | assumption
  | ((refine' Ne.symm ?hq); (case hq => assumption))
  | ((refine' ne_of_none ?nh1 ?nh2); (case nh2 => assumption); (case nh1 => walk_at "hp"))
  | ((refine' Ne.symm (ne_of_none ?nh1 ?nh2)); (case nh2 => assumption); (case nh1 => walk_at "hp")))
local macro_rules | `(tactic| walk_at "hp") => `(tactic| first
  | assumption
  | exact upd_same
  | ((refine' SqL.of ?hq); (case hq => walk_at "hp"))
  | ((refine' SqT.of ?hq); (case hq => walk_at "hp"))
  | ((refine' (upd_ne ?hne).trans ?hrest); (case hne => walk_at "ne"); (case hrest => walk_at "hp"))
  | ((refine' ly_at ?hex ?hh); (case hex => assumption); (case hh => walk_at "hp"))
  | ((refine' ly_atF ?hex ?hnn ?hh); (case hex => assumption); (case hh => walk_at "hp"); (case hnn => walk_at "ne"))
  | ((refine' ex_t ?hex ?hh); (case hh => assumption); (case hex => walk_at "ex"))
  | ((refine' ex_l ?hex ?hh); (case hh => assumption); (case hex => walk_at "ex")))
local macro_rules | `(tactic| walk_at "ex") => `(tactic| first
  | assumption
  | exact Ex.refl _
  | ((refine' ex_new ?xa ?xb); (case xb => assumption); (case xa => walk_at "ex"))
  | ((refine' ex_upd ?xa ?xb); (case xb => walk_at "free"); (case xa => walk_at "ex"))
  | ((refine' Ex.trans ?xa ?xb); (case xb => assumption); (case xa => walk_at "ex")))
local macro_rules | `(tactic| walk_at "free") => `(tactic| first
  | assumption
  | ((refine' fresh_back ?xa ?xb); (case xb => assumption); (case xa => walk_at "ex")))
local macro_rules | `(tactic| walk_at "fr") => `(tactic| first
  | assumption
  | exact Fr.refl _ _
  | ((refine' Fr.own ?hq); (case hq => walk_at "fr"))
  | ((refine' Fr.new ?xa ?xb); (case xb => assumption); (case xa => walk_at "fr"))
  | ((refine' Fr.mut ?xa ?xb); (case xb => assumption); (case xa => walk_at "fr"))
  | ((refine' Fr.trans ?xa ?xb); (case xb => assumption); (case xa => walk_at "fr"))
  | ((refine' Fr.trans ?xa (Fr.ex ?xb)); (case xb => assumption); (case xa => walk_at "fr")))
local macro_rules | `(tactic| walk_at "go1") => `(tactic| first
  | (with_reducible refine' w_seq ?_)
  | (with_reducible refine' w_asg ?_)
  | (with_reducible refine' w_ret ?_)
  | (with_reducible refine' w_drop ?_)
  | (with_reducible refine' w_if ?_)
  | (with_reducible refine' w_next ?_)
  | (with_reducible refine' w_name ?_)
  | (with_reducible refine' w_sub ?_)
  | ((with_reducible refine' w_var ?hv ?_); (case hv => exact rfl))
  | (with_reducible refine' w_c ?_)
  | (with_reducible refine' w_op ?_)
  | (with_reducible refine' w_un ?_)
  | (with_reducible refine' w_ch ?_)
  | (with_reducible refine' w_I0 ?_)
  | ((with_reducible refine' w_I ?hc ?_); (case hc => first | (exact ly_mulL (by decide) (by decide)) | (exact ly_mulR (by decide) (by decide)) | (exact ly_mulL (by omega) (by omega)) | (show (_ : Int) ≠ 0; decide) | (show (_ : Int) ≠ 0; omega) | (exact ⟨by decide, by decide⟩) | (exact ⟨by omega, by omega⟩)))
  | (with_reducible refine' w_U ?_)
  | ((with_reducible refine' w_eq ?hs ?_); (case hs => exact rfl))
  | ((with_reducible refine' w_ne ?hs ?_); (case hs => exact rfl))
  | (with_reducible refine' w_isB ?_)
  | (with_reducible refine' w_notB ?_)
  | (with_reducible refine' w_nil ?_)
  | (with_reducible refine' w_cons ?_)
  | (with_reducible refine' w_tup ?_)
  | (with_reducible refine' w_lst ?_)
  | (with_reducible refine' w_cb ?_)
  | (with_reducible refine' w_call ?_)
  | (with_reducible refine' w_bm ?_)
  | (with_reducible refine' w_bm0 ?_)
  | ((with_reducible refine' w_app ?hh ?hz ?_); (case hh => walk_at "hp"); (case hz => first | exact ly_lt (by omega) | exact ly_lt (by simp only [List.length_append, List.length_map, List.length_cons, List.length_nil]; omega)))
  | ((with_reducible refine' w_popA ?hh ?_); (case hh => walk_at "hp"))
  | ((with_reducible refine' w_ext ?hh ?hh2 ?hz ?_); (case hh => walk_at "hp"); (case hh2 => walk_at "hp"))
  | ((with_reducible refine' w_ixL ?hh ?ha ?_); (case hh => walk_at "hp"); (case ha => first | exact rfl | exact at_map (by omega) | exact atI_last _ _ | ((refine' at_of ?ae ?ah); (case ah => assumption); (case ae => omega))))
  | ((with_reducible refine' w_ixT ?hh ?ha ?_); (case hh => walk_at "hp"); (case ha => first | exact rfl | exact at_map (by omega) | exact atI_last _ _ | ((refine' at_of ?ae ?ah); (case ah => assumption); (case ae => omega))))
  | ((with_reducible refine' w_cat ?hh ?hh2 ?hz ?_); (case hh => walk_at "hp"); (case hh2 => walk_at "hp"))
  | ((with_reducible refine' w_setL ?hh ?ha ?_); (case hh => walk_at "hp"); (case ha => exact rfl))
  | (with_reducible refine' w_test ?_)
  | (with_reducible refine' w_tB ?_)
  | (with_reducible refine' w_bl ?_)
  | (with_reducible refine' w_and ?_)
  | (with_reducible refine' w_or ?_)
  | (with_reducible refine' w_not ?_)
  | (with_reducible refine' w_andV ?_)
  | (with_reducible refine' w_orV ?_)
  | (with_reducible refine' w_notV ?_)
  | (with_reducible refine' w_ifE ?_)
  | (with_reducible refine' w_for ?_)
  | ((with_reducible refine' w_nin ?hh ?_); (case hh => walk_at "hp"))
  | ((with_reducible refine' w_sorted ?hh ?_); (case hh => walk_at "hp"))
  | (with_reducible refine' w_tsadd ?_)
  | ((with_reducible refine' w_tsadd1 ?hh ?_); (case hh => walk_at "hp"))
  | ((with_reducible refine' w_sadd ?hh ?hr ?_); (case hh => walk_at "hp"); (case hr => omega))
  | (with_reducible refine' w_iZ ?_)
  | ((with_reducible refine' w_iZ1 ?hh ?hh2 ?_); (case hh => walk_at "hp"); (case hh2 => walk_at "hp"))
  | (with_reducible refine' w_iS ?_)
  | (with_reducible refine' w_iS1 ?_)
  | ((with_reducible refine' w_gtup ?hh ?hn ?_); (case hh => walk_at "hp"); (case hn => exact rfl))
  | (with_reducible refine' w_gcons ?_)
  | (with_reducible refine' w_gnil ?_)
  | (with_reducible refine' w_js ?_)
  | (with_reducible refine' w_jsn ?_)
  | ((with_reducible refine' w_js1 ?hl ?_); (case hl => decide +kernel))
  | (with_reducible refine' w_fmt ?_)
  | ((with_reducible refine' w_fmt1 ?hl ?_); (case hl => decide +kernel))
  | (with_reducible refine' w_callS ?_)
  | ((with_reducible refine' w_truL ?hh ?_); (case hh => walk_at "hp"))
  | (with_reducible refine' w_lc ?_)
  | (with_reducible refine' w_yes ?_)
  | ((with_reducible refine' w_wipe ?he ?_); (case he => exact rfl))
  | (with_reducible refine' w_iL ?_)
  | (with_reducible refine' w_iT ?_)
  | (with_reducible refine' w_iR ?_)
  | ((with_reducible refine' w_iL1 ?hh ?_); (case hh => walk_at "hp"))
  | ((with_reducible refine' w_iT1 ?hh ?_); (case hh => walk_at "hp"))
  | ((with_reducible refine' w_iR1 ?h1 ?h2 ?_); (case h1 => omega); (case h2 => omega))
  | ((with_reducible refine' w_aug ?hv ?_); (case hv => exact rfl))
  | (with_reducible refine' w_ipI ?_)
  | ((with_reducible refine' w_isi ?hy ?hk ?_); (case hy => walk_at "ty"); (case hk => walk_at "kit"))
  | ((with_reducible refine' w_int ?_))
  | ((with_reducible refine' w_intB ?_))
  | ((with_reducible refine' w_abs ?_))
  | ((with_reducible refine' w_lenL ?hh ?_); (case hh => walk_at "hp"))
  | ((with_reducible refine' w_lenT ?hh ?_); (case hh => walk_at "hp"))
  | ((with_reducible refine' w_tupL ?hh ?_); (case hh => walk_at "hp"))
  | ((with_reducible refine' w_tupT ?hh ?_); (case hh => walk_at "hp"))
  | ((with_reducible refine' w_catA ?hh ?hh2 ?hz ?_); (case hh => walk_at "hp"); (case hh2 => walk_at "hp"); (case hz => walk_at "len"))
  | ((with_reducible refine' w_repB ?hh ?hne ?h2 ?h3 ?hz ?_); (case hh => walk_at "hp"); (case hne => simp); (case h2 => omega); (case h3 => omega); (case hz => exact Nat.le_of_ble_eq_true rfl))
  | ((with_reducible refine' w_eqN ?hh ?hh2 ?n1 ?n2 ?_); (case hh => walk_at "hp"); (case hh2 => walk_at "hp"); (case n1 => walk_at "nd"); (case n2 => walk_at "nd"))
  | ((with_reducible refine' w_neN ?hh ?hh2 ?n1 ?n2 ?_); (case hh => walk_at "hp"); (case hh2 => walk_at "hp"); (case n1 => walk_at "nd"); (case n2 => walk_at "nd"))
  | ((with_reducible refine' w_eqL ?hh ?hh2 ?n1 ?n2 ?_); (case hh => walk_at "hp"); (case hh2 => walk_at "hp"); (case n1 => walk_at "nd"); (case n2 => walk_at "nd"))
  | ((with_reducible refine' w_neL ?hh ?hh2 ?n1 ?n2 ?_); (case hh => walk_at "hp"); (case hh2 => walk_at "hp"); (case n1 => walk_at "nd"); (case n2 => walk_at "nd"))
  | ((with_reducible refine' w_neNon ?hh2 ?n2 ?_); (case hh2 => walk_at "hp"); (case n2 => walk_at "nd"))
  | ((with_reducible refine' w_eqNon ?hh2 ?n2 ?_); (case hh2 => walk_at "hp"); (case n2 => walk_at "nd"))
  | ((with_reducible refine' w_slA ?hh ?_); (case hh => walk_at "hp"))
  | ((with_reducible refine' w_disp ?hz ?_); (case hz => exact sz_of (Nat.le_of_ble_eq_true rfl)))
  | ((with_reducible refine' w_tyL ?hh ?_); (case hh => walk_at "hp"))
  | (with_reducible refine' iteT ?_)
  | (with_reducible refine' iteF ?_)
  | (with_reducible refine' w_nT ?_)
  | (with_reducible refine' w_nn ?_)
  | (with_reducible refine' w_nnT ?_)
  | (with_reducible refine' w_nnR ?_)
  | (with_reducible refine' w_neG ?_)
  | (with_reducible refine' w_eqG ?_)
  | (with_reducible refine' w_neS ?_)
  | (with_reducible refine' w_eqS ?_)
  | (with_reducible refine' w_neSb ?_)
  | (with_reducible refine' w_eqSb ?_)
  | (with_reducible refine' w_deIS ?_)
  | (with_reducible refine' w_deSI ?_)
  | (with_reducible refine' w_deISn ?_)
  | ((with_reducible refine' w_deST ?he ?_); (case he => decide +kernel))
  | ((with_reducible refine' w_deSF ?he ?_); (case he => decide +kernel))
  | ((with_reducible refine' w_deSTn ?he ?_); (case he => decide +kernel))
  | ((with_reducible refine' w_deSFn ?he ?_); (case he => decide +kernel))
  | (with_reducible refine' w_nF ?_)
  | dsimp only [Bool.not_true, Bool.not_false])
local macro_rules | `(tactic| walk_at "ty") => `(tactic| first
  | exact .base (.int _) | exact .base (.str _) | exact .base (.bl _) | exact .base .non
  | ((refine' tyx_t ?hq); (case hq => walk_at "hp")) | ((refine' tyx_l ?hq); (case hq => walk_at "hp")) | ((refine' .base (.tup ?hq)); (case hq => walk_at "hp")) | assumption)
local macro_rules | `(tactic| walk_at "go") => `(tactic| repeat walk_at "go1")
local macro_rules | `(tactic| walk_at "st") => `(tactic| try dsimp only [cxOf, Cx.nox, Cx.wish])
local macro_rules | `(tactic| walk_at "kit") => `(tactic| with_reducible first | exact kit_int_int | exact kit_int_str | exact kit_int_bool | exact kit_int_tuple | exact kit_int_list | exact kit_str_int | exact kit_str_str | exact kit_str_bool | exact kit_str_tuple | exact kit_str_list | exact kit_bool_int | exact kit_bool_str | exact kit_bool_bool | exact kit_bool_tuple | exact kit_bool_list | exact kit_NoneType_int | exact kit_NoneType_str | exact kit_NoneType_bool | exact kit_NoneType_tuple | exact kit_NoneType_list | exact kit_list_int | exact kit_list_str | exact kit_list_bool | exact kit_list_tuple | exact kit_list_list | exact kit_tuple_int | exact kit_tuple_str | exact kit_tuple_bool | exact kit_tuple_tuple | exact kit_tuple_list)
local macro_rules | `(tactic| walk_at "nd") => `(tactic| first
  | assumption
  | exact Tm.nds _
  | exact Nds.nil
  | exact Nds.ofInts _
  | ((refine' Nds.cons ?na ?nb); (case na => first | exact Nds.I _ | exact Nds.L | exact Nds.A); (case nb => walk_at "nd"))
  | ((refine' Nds.app ?na ?nb); (case na => walk_at "nd"); (case nb => walk_at "nd"))
  | ((refine' Nds.rep ?na _); (case na => walk_at "nd")))
local macro_rules | `(tactic| walk_at "len") => `(tactic| first
  | exact ly_sz (by omega)
  | ((simp only [List.length_append, List.length_cons, List.length_nil, List.length_map, PyProof.Rows.lm_len_rep_flat]); exact ly_sz (by omega)))
local macro_rules | `(tactic| walk_at "go1") => `(tactic| first
  | (with_reducible refine' w_kget2 ?_)
  | (with_reducible refine' w_isRN ?_)
  | (with_reducible refine' w_isNN ?_)
  | (with_reducible refine' w_isIN ?_)
  | ((with_reducible refine' w_kg ?hd ?_); (case hd => assumption)))
local macro_rules | `(tactic| walk_at "go1") => `(tactic| first
  | ((with_reducible refine' w_extT ?hh ?hh2 ?hz ?_); (case hh => walk_at "hp"); (case hh2 => walk_at "hp"))
  | ((with_reducible refine' w_I ?hc ?_); (case hc => exact ⟨by decide, by decide, by decide⟩))
  | (with_reducible refine' w_sl ?_)
  | (with_reducible refine' w_noP ?_)
  | (with_reducible refine' w_part ?_)
  | (with_reducible refine' w_part1 ?_)
  | (with_reducible refine' w_it ?_)
  | (with_reducible refine' w_it1 ?_)
  | ((with_reducible refine' w_lenZ ?hz ?_); (case hz => omega))
  | ((with_reducible refine' w_addZb ?hz ?_); (case hz => omega))
  | ((with_reducible refine' w_addZf ?hz ?_); (case hz => omega))
  | ((with_reducible refine' w_addZa ?hz ?_); (case hz => omega))
  | ((with_reducible refine' w_inS ?hh ?_); (case hh => walk_at "hp"))
  | ((with_reducible refine' w_ixT ?hh ?ha ?_); (case hh => assumption); (case ha => exact atI_nat (by assumption))))
section
variable {P : Program} {w : World} {K : PySem.W.Frag} {mg : Str → Option Value} {base : Heap} {tk : Nat → Tok} {cl : Nat → Addr}
def spLawLift97 (K : PySem.W.Frag) : Sp := fun vs H Q _ => ∃ (a : Addr) (t : Tm) (c : Nat), vs = [.ref a, .int (c : Int)] ∧ SqT K H a t.enc ∧ t.enc.length ≤ 90000 ∧
  ∀ H' p, Ex H H' → SqT K H' p (t.vmap (lif c) 0).enc → Q (.ref p) H'
theorem ok_llift97 {f : Addr} {fd : FuncData} (F : Fun K "_law_lift" "_law_lift" s_law_lift f fd) (T : Txt w K mg tk cl)
    (D1 : Def P w K mg base CX0 1 "_law_depths" ["term"] (spDepths K)) : FnOk P w K mg base CX0 2 f fd ["term", "count"] (spLawLift97 K) := by
  obtain ⟨f1, fd1, g_law_depths, kp_law_depths, b_law_depths, G_law_depths⟩ := D1
  refine F.ok sc_law_lift (fun vs H Q E h => ?_) (fun cdv A outer s H vs Q E hr h => ?_)
  · obtain ⟨a, t, c, rfl, _⟩ := h
    rfl
  · obtain ⟨a, t, c, rfl, hS, hlen, q⟩ := h
    refine ⟨_, (pss_cons (ps_set (i := 2) sc_law_lift.nd rfl (.inl rfl) (pe_call G_law_depths (hr.mono (by first | decide | omega)) (by rfl) g_law_depths kp_law_depths b_law_depths .nil pass0 (pa_cons (pv 0) pa_nil))) (pss_cons (ps_set (i := 3) sc_law_lift.nd rfl (.inl rfl) (pe_lst pa_nil)) (pss_cons (ps_for PassesOwn.never rfl (pi_range1 (by rfl) T.n_range (pa_cons (pe_callB call_len_seq (by rfl) T.n_len (by decide +kernel) (pa_cons (pv 0) pa_nil)) pa_nil)) (pg_name (i := 4) sc_law_lift.nd rfl (.inl rfl)) (pss_one (ps_if (PW.pt (pw_and (pt_cmpR op_ne (pe_ix ix_tup (pv 0) (pv 4) (fun _ _ => rfl)) pe_str (nomark _)) (pw_and (pt_cmpR op_ne (pe_ix ix_tup (pv 0) (pv 4) (fun _ _ => rfl)) pe_str (nomark _)) (pw_and1 (pt_cmpR op_ge (pe_ix ix_tup (pv 0) (pv 4) (fun _ _ => rfl)) (pe_ix ix_list (pv 2) (pv 4) (fun _ _ => rfl)) (nomark _)))))) (pss_one (ps_expr (pe_bm PySem.F.plainAttrs_list PySem.F.slot_list_append PySem.F.type_list_append mt_append (pv 3) (pa_cons (pe_op op_add (pe_ix ix_tup (pv 0) (pv 4) (fun _ _ => rfl)) (pv 1)) pa_nil)))) (pss_one (ps_expr (pe_bm PySem.F.plainAttrs_list PySem.F.slot_list_append PySem.F.type_list_append mt_append (pv 3) (pa_cons (pe_ix ix_tup (pv 0) (pv 4) (fun _ _ => rfl)) pa_nil))))))) (pss_one (ps_ret (pe_callTy call_tuple_of (by rfl) T.n_tuple (by decide +kernel) (pa_cons (pv 3) pa_nil))))))), ?_⟩
    refine sl_of (σ2 := [some _, some _, none, none, none]) rfl ?_
    walk_at "st"
    walk_at "go"
    refine ⟨a, t, rfl, hS, by omega, fun H1 dl e1 hdl hdn => ?_⟩
    walk_at "go"
    intro nl hnl
    have hdn0 : dl ≠ nl := ne_of_none hdn hnl
    have hnl0 : H nl = none := fresh_back e1 hnl
    have eH1 : Ex H (upd H1 nl (.lst [])) := e1.trans (Ex.new hnl)
    have hd1 : upd H1 nl (.lst []) dl = some (.lst (nums (t.deps 0))) := by rw [upd_ne hdn0]; exact hdn
    have hS1 : SqT K (upd H1 nl (.lst [])) a t.enc := ex_t eH1 hS
    walk_at "go"
    refine for_range (lo := 0) (n := (t.enc.length : Int).toNat) (fun i σ H' => ∃ y, σ = [some (.ref a), some (.int (c : Int)), some (.ref dl), some (.ref nl), y] ∧ Ex H H' ∧ H' dl = some (.lst (nums (t.deps 0))) ∧
        H' nl = some (.lst ((List.zipWith (vm (lif c)) t.enc (t.deps 0)).take i))) ⟨none, rfl, eH1, hd1, upd_same⟩ ?_ ?_
    · rintro i σ H2 hi ⟨y, rfl, e2, hd2, hs2⟩
      have hil : i < t.enc.length := by omega
      obtain ⟨x, hx⟩ : ∃ x, t.enc[i]? = some x := ⟨_, List.getElem?_eq_getElem hil⟩
      obtain ⟨d, hd⟩ : ∃ d, (t.deps 0)[i]? = some d := ⟨_, List.getElem?_eq_getElem (by rw [t.deps_len]; exact hil)⟩
      have hdn2 : (nums (t.deps 0))[i]? = some (.int (d : Int)) := by rw [List.getElem?_map, hd]; rfl
      have hS2 := ex_t e2 hS
      have tk1 := zip_take (f := vm (lif c)) hx hd
      have ll : ((List.zipWith (vm (lif c)) t.enc (t.deps 0)).take i).length < 100000 := by
        rw [List.length_take]
        omega
      walk_at "go"
      rcases Tm.int_nat (List.mem_of_getElem? hx) with ⟨m, rfl⟩ | rfl | rfl
      · walk_at "go"
        refine w_br (fun h3 => ?_) (fun h3 => ?_)
        · walk_at "go"
          refine ⟨_, rfl, by walk_at "ex", by walk_at "hp", ?_⟩
          have ev : vm (lif c) (.int m) d = .int ((m : Int) + c) := by
            simp only [vm, lif, Int.toNat_natCast]
            rw [if_pos (by omega), Int.natCast_add]
          rw [upd_same, tk1, ev]
        · walk_at "go"
          refine ⟨_, rfl, by walk_at "ex", by walk_at "hp", ?_⟩
          have ev : vm (lif c) (.int m) d = .int m := by
            simp only [vm, lif, Int.toNat_natCast]
            rw [if_neg (by omega)]
          rw [upd_same, tk1, ev]
      · walk_at "go"
        refine ⟨_, rfl, by walk_at "ex", by walk_at "hp", ?_⟩
        rw [upd_same, tk1]
        rfl
      · walk_at "go"
        refine ⟨_, rfl, by walk_at "ex", by walk_at "hp", ?_⟩
        rw [upd_same, tk1]
        rfl
    · rintro σ H2 ⟨y, rfl, e2, hd2, hs2⟩
      have all : (List.zipWith (vm (lif c)) t.enc (t.deps 0)).take (t.enc.length : Int).toNat = (t.vmap (lif c) 0).enc := by
        rw [Tm.enc_vmap]
        exact List.take_of_length_le (by simp [Tm.deps_len])
      rw [all] at hs2
      walk_at "go"
      intro p hp
      walk_at "go"
      exact q _ p (by walk_at "ex") (by walk_at "hp")
/-- what the law's putting gives: all of it, or what comes first of it, where that is too much -/
def PutV (u t : Tm) (xs : List V) : Prop := xs = (Tm.put u 0 t).enc ∨ (1100 < xs.length ∧ xs.length ≤ 1100 + u.enc.length ∧ ∃ ys, (Tm.put u 0 t).enc = xs ++ ys)
def spLawPut97 (K : PySem.W.Frag) : Sp := fun vs H Q _ => ∃ (a b : Addr) (t u : Tm), vs = [.ref a, .ref b] ∧ SqT K H a t.enc ∧ SqT K H b u.enc ∧ t.enc.length ≤ 2000 ∧ u.enc.length ≤ 2000 ∧
  ∀ H' p xs, Ex H H' → SqT K H' p xs → PutV u t xs → Q (.ref p) H'
theorem ok_lput97 {f : Addr} {fd : FuncData} (F : Fun K "_law_put" "_law_put" s_law_put f fd) (T : Txt w K mg tk cl)
    (D1 : Def P w K mg base CX0 1 "_law_depths" ["term"] (spDepths K)) (D2 : Def P w K mg base CX0 2 "_law_lift" ["term", "count"] (spLawLift97 K)) : FnOk P w K mg base CX0 3 f fd ["term", "value"] (spLawPut97 K) := by
  obtain ⟨f1, fd1, g_law_depths, kp_law_depths, b_law_depths, G_law_depths⟩ := D1
  obtain ⟨f2, fd2, g_law_lift, kp_law_lift, b_law_lift, G_law_lift⟩ := D2
  refine F.ok sc_law_put (fun vs H Q E h => ?_) (fun cdv A outer s H vs Q E hr h => ?_)
  · obtain ⟨a, b, t, u, rfl, _⟩ := h
    rfl
  · obtain ⟨a, b, t, u, rfl, hS, hU, hlen, hul, q⟩ := h
    refine ⟨_, (pss_cons (ps_set (i := 2) sc_law_put.nd rfl (.inl rfl) (pe_call G_law_depths (hr.mono (by first | decide | omega)) (by rfl) g_law_depths kp_law_depths b_law_depths .nil pass0 (pa_cons (pv 0) pa_nil))) (pss_cons (ps_set (i := 3) sc_law_put.nd rfl (.inl rfl) (pe_tup pa_nil)) (pss_cut (ps_for PassesOwn.never rfl (pi_range1 (by rfl) T.n_range (pa_cons (pe_callB call_len_seq (by rfl) T.n_len (by decide +kernel) (pa_cons (pv 0) pa_nil)) pa_nil)) (pg_name (i := 4) sc_law_put.nd rfl (.inl rfl)) (pss_cons (ps_set (i := 5) sc_law_put.nd rfl (.inl rfl) (pe_ix ix_tup (pv 0) (pv 4) (fun _ _ => rfl))) (pss_cut (ps_if (PW.pt (pw_or (pt_cmpR op_eq (pv 5) pe_str (nomark _)) (pw_or (pt_cmpR op_eq (pv 5) pe_str (nomark _)) (pw_or1 (pt_cmpR op_lt (pv 5) (pe_ix ix_list (pv 2) (pv 4) (fun _ _ => rfl)) (nomark _)))))) (pss_one (ps_set (i := 3) sc_law_put.nd rfl (.inl rfl) (pe_op op_catA (pv 3) (pe_tup (pa_cons (pv 5) pa_nil))))) (pss_one (ps_if (pt_cmpR op_eq (pv 5) (pe_ix ix_list (pv 2) (pv 4) (fun _ _ => rfl)) (nomark _)) (pss_one (ps_set (i := 3) sc_law_put.nd rfl (.inl rfl) (pe_op op_catA (pv 3) (pe_call G_law_lift (hr.mono (by first | decide | omega)) (by rfl) g_law_lift kp_law_lift b_law_lift .nil pass0 (pa_cons (pv 1) (pa_cons (pe_ix ix_list (pv 2) (pv 4) (fun _ _ => rfl)) pa_nil)))))) (pss_one (ps_set (i := 3) sc_law_put.nd rfl (.inl rfl) (pe_op op_catA (pv 3) (pe_tup (pa_cons (pe_op op_sub (pv 5) pe_int) pa_nil)))))))) (pss_one (ps_if (pt_cmpR op_gt (pe_callB call_len_seq (by rfl) T.n_len (by decide +kernel) (pa_cons (pv 3) pa_nil)) pe_int (nomark _)) (pss_one ps_break) pss_nil))))) (pss_one (ps_ret (pv 3)))))), ?_⟩
    refine sl_of (σ2 := [some _, some _, none, none, none, none]) rfl ?_
    walk_at "st"
    walk_at "go"
    refine ⟨a, t, rfl, hS, by omega, fun H1 dl e1 hdl hdn => ?_⟩
    have hS1 := ex_t e1 hS
    have full := Tm.enc_put u t 0
    walk_at "go"
    intro p0 hp0
    have e0 : Ex H (upd H1 p0 (.tup [])) := e1.trans (Ex.new hp0)
    have hd0 : upd H1 p0 (.tup []) dl = some (.lst (nums (t.deps 0))) := (Ex.new hp0) _ _ hdn
    have h00 : SqT K (upd H1 p0 (.tup [])) p0 [] := SqT.of upd_same
    have hS0 : SqT K (upd H1 p0 (.tup [])) a t.enc := ex_t e0 hS
    generalize upd H1 p0 (.tup []) = H0 at *
    walk_at "go"
    refine w_cut (M := fun σ' H' => ∃ (q1 : Addr) (xs : List V) (y1 y2 : Option V), σ' = [some (.ref a), some (.ref b), some (.ref dl), some (.ref q1), y1, y2] ∧ Ex H H' ∧ SqT K H' q1 xs ∧ PutV u t xs) ?_ ?_
    · walk_at "go"
      refine for_range (lo := 0) (n := (t.enc.length : Int).toNat) (fun i σ H' => ∃ (q1 : Addr) (y1 y2 : Option V), σ = [some (.ref a), some (.ref b), some (.ref dl), some (.ref q1), y1, y2] ∧ Ex H H' ∧ H' dl = some (.lst (nums (t.deps 0))) ∧
        SqT K H' q1 ((List.zipWith (pvs u) t.enc (t.deps 0)).take i).flatten ∧ ((List.zipWith (pvs u) t.enc (t.deps 0)).take i).flatten.length ≤ 1100) ⟨p0, none, none, rfl, e0, hd0, by simpa using h00, by simp⟩ ?_ ?_
      · rintro i σ H2 hi ⟨q1, y1, y2, rfl, e2, hd2, hs2, hl2⟩
        have hil : i < t.enc.length := by omega
        obtain ⟨x, hx⟩ : ∃ x, t.enc[i]? = some x := ⟨_, List.getElem?_eq_getElem hil⟩
        obtain ⟨d, hd⟩ : ∃ d, (t.deps 0)[i]? = some d := ⟨_, List.getElem?_eq_getElem (by rw [t.deps_len]; exact hil)⟩
        have hdn2 : (nums (t.deps 0))[i]? = some (.int (d : Int)) := by rw [List.getElem?_map, hd]; rfl
        have hS2 := ex_t e2 hS
        have hU2 := ex_t e2 hU
        have tk1 := zip_take (f := pvs u) hx hd
        have tk2 : ((List.zipWith (pvs u) t.enc (t.deps 0)).take (i + 1)).flatten = ((List.zipWith (pvs u) t.enc (t.deps 0)).take i).flatten ++ pvs u x d := by
          rw [tk1, List.flatten_append]
          simp
        have pre : ∃ ys, (Tm.put u 0 t).enc = ((List.zipWith (pvs u) t.enc (t.deps 0)).take (i + 1)).flatten ++ ys := ⟨((List.zipWith (pvs u) t.enc (t.deps 0)).drop (i + 1)).flatten, by rw [← List.flatten_append, List.take_append_drop]; exact full⟩
        have pvl := pvs_len u x d
        generalize ((List.zipWith (pvs u) t.enc (t.deps 0)).take (i + 1)).flatten = next at *
        generalize ((List.zipWith (pvs u) t.enc (t.deps 0)).take i).flatten = done at *
        have nl : next.length = done.length + (pvs u x d).length := by rw [tk2, List.length_append]
        have fin : ∀ (H3 : Hp) (q2 : Addr) (y1 y2 : Option V), Ex H2 H3 → SqT K H3 q2 next → ∃ (q1 : Addr) (xs : List V) (y1' y2' : Option V), [some (V.ref a), some (.ref b), some (.ref dl), some (.ref q2), y1, y2] = [some (.ref a), some (.ref b), some (.ref dl), some (.ref q1), y1', y2'] ∧ Ex H2 H3 ∧ SqT K H3 q1 xs ∧ xs = next := fun H3 q2 y1 y2 e h => ⟨q2, next, y1, y2, rfl, e, h, rfl⟩
        walk_at "go"
        refine w_cut (M := fun σ' H' => ∃ (q2 : Addr) (y1' y2' : Option V), σ' = [some (.ref a), some (.ref b), some (.ref dl), some (.ref q2), y1', y2'] ∧ Ex H2 H' ∧ SqT K H' q2 next) ?_ ?_
        · rcases Tm.int_nat (List.mem_of_getElem? hx) with ⟨m, rfl⟩ | rfl | rfl
          · walk_at "go"
            refine w_br (fun h3 => ?_) (fun h3 => ?_)
            · walk_at "go"
              intro p hp
              refine w_catA (ex_t (Ex.new hp) hs2) (SqT.of upd_same) (ly_sz (by simp only [List.length_singleton]; omega)) fun q2 H3 e3 hq2 => ?_
              walk_at "go"
              exact ⟨q2, _, _, rfl, (Ex.new hp).trans e3, by rw [tk2, pvs_low (by omega)]; exact hq2⟩
            · walk_at "go"
              refine w_brI (fun h4 => ?_) (fun h4 => ?_)
              · have e0 : m = d := by omega
                subst e0
                have vl := Tm.vmap_len (lif m) u 0
                walk_at "go"
                refine ⟨b, u, m, rfl, hU2, by omega, fun H3 p3 e3 hp3 => ?_⟩
                rw [← pvs_at] at hp3
                refine w_catA (ex_t e3 hs2) hp3 (ly_sz (by omega)) fun q2 H4 e4 hq2 => ?_
                walk_at "go"
                exact ⟨q2, _, _, rfl, e3.trans e4, by rw [tk2]; exact hq2⟩
              · walk_at "go"
                intro p hp
                refine w_catA (ex_t (Ex.new hp) hs2) (SqT.of upd_same) (ly_sz (by simp only [List.length_singleton]; omega)) fun q2 H3 e3 hq2 => ?_
                walk_at "go"
                exact ⟨q2, _, _, rfl, (Ex.new hp).trans e3, by rw [tk2, pvs_high (by omega)]; exact hq2⟩
          · walk_at "go"
            intro p hp
            refine w_catA (ex_t (Ex.new hp) hs2) (SqT.of upd_same) (ly_sz (by simp only [List.length_singleton]; omega)) fun q2 H3 e3 hq2 => ?_
            walk_at "go"
            exact ⟨q2, _, _, rfl, (Ex.new hp).trans e3, by rw [tk2, show pvs u (.str "lam") d = [.str "lam"] from rfl]; exact hq2⟩
          · walk_at "go"
            intro p hp
            refine w_catA (ex_t (Ex.new hp) hs2) (SqT.of upd_same) (ly_sz (by simp only [List.length_singleton]; omega)) fun q2 H3 e3 hq2 => ?_
            walk_at "go"
            exact ⟨q2, _, _, rfl, (Ex.new hp).trans e3, by rw [tk2, show pvs u (.str "app") d = [.str "app"] from rfl]; exact hq2⟩
        · rintro σ' H' ⟨q2, y1', y2', rfl, e3, hq2⟩
          walk_at "go"
          refine w_br (fun h3 => ?_) (fun h3 => ?_)
          · walk_at "go"
            exact ⟨q2, next, _, _, rfl, e2.trans e3, hq2, .inr ⟨by omega, by omega, pre⟩⟩
          · walk_at "go"
            exact ⟨q2, _, _, rfl, e2.trans e3, e3 _ _ hd2, hq2, by omega⟩
      · rintro σ H2 ⟨q1, y1, y2, rfl, e2, hd2, hs2, hl2⟩
        have all : ((List.zipWith (pvs u) t.enc (t.deps 0)).take (t.enc.length : Int).toNat).flatten = (Tm.put u 0 t).enc := by
          rw [full, List.take_of_length_le (by simp [Tm.deps_len])]
        rw [all] at hs2
        walk_at "go"
        exact ⟨q1, _, _, _, rfl, e2, hs2, .inl rfl⟩
    · rintro σ' H' ⟨q1, xs, y1, y2, rfl, e2, hq, hv⟩
      walk_at "go"
      exact q H' q1 xs e2 hq hv
end
end Ly
set_option Elab.async false
set_option linter.all false
set_option maxRecDepth 100000
set_option maxHeartbeats 8000000
namespace Ly
open PySem PySem.Spec PyProof.Rows L2 Evl
local macro_rules | `(tactic| walk_at "ne") => `(tactic| first
  | assumption
  | ((refine' Ne.symm ?hq); (case hq => assumption))
  | ((refine' ne_of_none ?nh1 ?nh2); (case nh2 => assumption); (case nh1 => walk_at "hp"))
  | ((refine' Ne.symm (ne_of_none ?nh1 ?nh2)); (case nh2 => assumption); (case nh1 => walk_at "hp")))
local macro_rules | `(tactic| walk_at "hp") => `(tactic| first
  | assumption
  | exact upd_same
  | ((refine' SqL.of ?hq); (case hq => walk_at "hp"))
  | ((refine' SqT.of ?hq); (case hq => walk_at "hp"))
  | ((refine' (upd_ne ?hne).trans ?hrest); (case hne => walk_at "ne"); (case hrest => walk_at "hp"))
  | ((refine' ly_at ?hex ?hh); (case hex => assumption); (case hh => walk_at "hp"))
  | ((refine' ly_atF ?hex ?hnn ?hh); (case hex => assumption); (case hh => walk_at "hp"); (case hnn => walk_at "ne"))
  | ((refine' ex_t ?hex ?hh); (case hh => assumption); (case hex => walk_at "ex"))
  | ((refine' ex_l ?hex ?hh); (case hh => assumption); (case hex => walk_at "ex")))
local macro_rules | `(tactic| walk_at "ex") => `(tactic| first
  | assumption
  | exact Ex.refl _
  | ((refine' ex_new ?xa ?xb); (case xb => assumption); (case xa => walk_at "ex"))
  | ((refine' ex_upd ?xa ?xb); (case xb => walk_at "free"); (case xa => walk_at "ex"))
  | ((refine' Ex.trans ?xa ?xb); (case xb => assumption); (case xa => walk_at "ex")))
local macro_rules | `(tactic| walk_at "free") => `(tactic| first
  | assumption
  | ((refine' fresh_back ?xa ?xb); (case xb => assumption); (case xa => walk_at "ex")))
local macro_rules | `(tactic| walk_at "fr") => `(tactic| first
  | assumption
  | exact Fr.refl _ _
  | ((refine' Fr.own ?hq); (case hq => walk_at "fr"))
  | ((refine' Fr.new ?xa ?xb); (case xb => assumption); (case xa => walk_at "fr"))
  | ((refine' Fr.mut ?xa ?xb); (case xb => assumption); (case xa => walk_at "fr"))
  | ((refine' Fr.trans ?xa ?xb); (case xb => assumption); (case xa => walk_at "fr"))
  | ((refine' Fr.trans ?xa (Fr.ex ?xb)); (case xb => assumption); (case xa => walk_at "fr")))
local macro_rules | `(tactic| walk_at "go1") => `(tactic| first
  | (with_reducible refine' w_seq ?_)
  | (with_reducible refine' w_asg ?_)
  | (with_reducible refine' w_ret ?_)
  | (with_reducible refine' w_drop ?_)
  | (with_reducible refine' w_if ?_)
  | (with_reducible refine' w_next ?_)
  | (with_reducible refine' w_name ?_)
  | (with_reducible refine' w_sub ?_)
  | ((with_reducible refine' w_var ?hv ?_); (case hv => exact rfl))
  | (with_reducible refine' w_c ?_)
  | (with_reducible refine' w_op ?_)
  | (with_reducible refine' w_un ?_)
  | (with_reducible refine' w_ch ?_)
  | (with_reducible refine' w_I0 ?_)
  | ((with_reducible refine' w_I ?hc ?_); (case hc => first | (exact ly_mulL (by decide) (by decide)) | (exact ly_mulR (by decide) (by decide)) | (exact ly_mulL (by omega) (by omega)) | (show (_ : Int) ≠ 0; decide) | (show (_ : Int) ≠ 0; omega) | (exact ⟨by decide, by decide⟩) | (exact ⟨by omega, by omega⟩)))
  | (with_reducible refine' w_U ?_)
  | ((with_reducible refine' w_eq ?hs ?_); (case hs => exact rfl))
  | ((with_reducible refine' w_ne ?hs ?_); (case hs => exact rfl))
  | (with_reducible refine' w_isB ?_)
  | (with_reducible refine' w_notB ?_)
  | (with_reducible refine' w_nil ?_)
  | (with_reducible refine' w_cons ?_)
  | (with_reducible refine' w_tup ?_)
  | (with_reducible refine' w_lst ?_)
  | (with_reducible refine' w_cb ?_)
  | (with_reducible refine' w_call ?_)
  | (with_reducible refine' w_bm ?_)
  | (with_reducible refine' w_bm0 ?_)
  | ((with_reducible refine' w_app ?hh ?hz ?_); (case hh => walk_at "hp"); (case hz => first | exact ly_lt (by omega) | exact ly_lt (by simp only [List.length_append, List.length_map, List.length_cons, List.length_nil]; omega)))
  | ((with_reducible refine' w_popA ?hh ?_); (case hh => walk_at "hp"))
  | ((with_reducible refine' w_ext ?hh ?hh2 ?hz ?_); (case hh => walk_at "hp"); (case hh2 => walk_at "hp"))
  | ((with_reducible refine' w_ixL ?hh ?ha ?_); (case hh => walk_at "hp"); (case ha => first | exact rfl | exact at_map (by omega) | exact atI_last _ _ | ((refine' at_of ?ae ?ah); (case ah => assumption); (case ae => omega))))
  | ((with_reducible refine' w_ixT ?hh ?ha ?_); (case hh => walk_at "hp"); (case ha => first | exact rfl | exact at_map (by omega) | exact atI_last _ _ | ((refine' at_of ?ae ?ah); (case ah => assumption); (case ae => omega))))
  | ((with_reducible refine' w_cat ?hh ?hh2 ?hz ?_); (case hh => walk_at "hp"); (case hh2 => walk_at "hp"))
  | ((with_reducible refine' w_setL ?hh ?ha ?_); (case hh => walk_at "hp"); (case ha => exact rfl))
  | (with_reducible refine' w_test ?_)
  | (with_reducible refine' w_tB ?_)
  | (with_reducible refine' w_bl ?_)
  | (with_reducible refine' w_and ?_)
  | (with_reducible refine' w_or ?_)
  | (with_reducible refine' w_not ?_)
  | (with_reducible refine' w_andV ?_)
  | (with_reducible refine' w_orV ?_)
  | (with_reducible refine' w_notV ?_)
  | (with_reducible refine' w_ifE ?_)
  | (with_reducible refine' w_for ?_)
  | ((with_reducible refine' w_nin ?hh ?_); (case hh => walk_at "hp"))
  | ((with_reducible refine' w_sorted ?hh ?_); (case hh => walk_at "hp"))
  | (with_reducible refine' w_tsadd ?_)
  | ((with_reducible refine' w_tsadd1 ?hh ?_); (case hh => walk_at "hp"))
  | ((with_reducible refine' w_sadd ?hh ?hr ?_); (case hh => walk_at "hp"); (case hr => omega))
  | (with_reducible refine' w_iZ ?_)
  | ((with_reducible refine' w_iZ1 ?hh ?hh2 ?_); (case hh => walk_at "hp"); (case hh2 => walk_at "hp"))
  | (with_reducible refine' w_iS ?_)
  | (with_reducible refine' w_iS1 ?_)
  | ((with_reducible refine' w_gtup ?hh ?hn ?_); (case hh => walk_at "hp"); (case hn => exact rfl))
  | (with_reducible refine' w_gcons ?_)
  | (with_reducible refine' w_gnil ?_)
  | (with_reducible refine' w_js ?_)
  | (with_reducible refine' w_jsn ?_)
  | ((with_reducible refine' w_js1 ?hl ?_); (case hl => decide +kernel))
  | (with_reducible refine' w_fmt ?_)
  | ((with_reducible refine' w_fmt1 ?hl ?_); (case hl => decide +kernel))
  | (with_reducible refine' w_callS ?_)
  | ((with_reducible refine' w_truL ?hh ?_); (case hh => walk_at "hp"))
  | (with_reducible refine' w_lc ?_)
  | (with_reducible refine' w_yes ?_)
  | ((with_reducible refine' w_wipe ?he ?_); (case he => exact rfl))
  | (with_reducible refine' w_iL ?_)
  | (with_reducible refine' w_iT ?_)
  | (with_reducible refine' w_iR ?_)
  | ((with_reducible refine' w_iL1 ?hh ?_); (case hh => walk_at "hp"))
  | ((with_reducible refine' w_iT1 ?hh ?_); (case hh => walk_at "hp"))
  | ((with_reducible refine' w_iR1 ?h1 ?h2 ?_); (case h1 => omega); (case h2 => omega))
  | ((with_reducible refine' w_aug ?hv ?_); (case hv => exact rfl))
  | (with_reducible refine' w_ipI ?_)
  | ((with_reducible refine' w_isi ?hy ?hk ?_); (case hy => walk_at "ty"); (case hk => walk_at "kit"))
  | ((with_reducible refine' w_int ?_))
  | ((with_reducible refine' w_intB ?_))
  | ((with_reducible refine' w_abs ?_))
  | ((with_reducible refine' w_lenL ?hh ?_); (case hh => walk_at "hp"))
  | ((with_reducible refine' w_lenT ?hh ?_); (case hh => walk_at "hp"))
  | ((with_reducible refine' w_tupL ?hh ?_); (case hh => walk_at "hp"))
  | ((with_reducible refine' w_tupT ?hh ?_); (case hh => walk_at "hp"))
  | ((with_reducible refine' w_catA ?hh ?hh2 ?hz ?_); (case hh => walk_at "hp"); (case hh2 => walk_at "hp"); (case hz => walk_at "len"))
  | ((with_reducible refine' w_repB ?hh ?hne ?h2 ?h3 ?hz ?_); (case hh => walk_at "hp"); (case hne => simp); (case h2 => omega); (case h3 => omega); (case hz => exact Nat.le_of_ble_eq_true rfl))
  | ((with_reducible refine' w_eqN ?hh ?hh2 ?n1 ?n2 ?_); (case hh => walk_at "hp"); (case hh2 => walk_at "hp"); (case n1 => walk_at "nd"); (case n2 => walk_at "nd"))
  | ((with_reducible refine' w_neN ?hh ?hh2 ?n1 ?n2 ?_); (case hh => walk_at "hp"); (case hh2 => walk_at "hp"); (case n1 => walk_at "nd"); (case n2 => walk_at "nd"))
  | ((with_reducible refine' w_eqL ?hh ?hh2 ?n1 ?n2 ?_); (case hh => walk_at "hp"); (case hh2 => walk_at "hp"); (case n1 => walk_at "nd"); (case n2 => walk_at "nd"))
  | ((with_reducible refine' w_neL ?hh ?hh2 ?n1 ?n2 ?_); (case hh => walk_at "hp"); (case hh2 => walk_at "hp"); (case n1 => walk_at "nd"); (case n2 => walk_at "nd"))
  | ((with_reducible refine' w_neNon ?hh2 ?n2 ?_); (case hh2 => walk_at "hp"); (case n2 => walk_at "nd"))
  | ((with_reducible refine' w_eqNon ?hh2 ?n2 ?_); (case hh2 => walk_at "hp"); (case n2 => walk_at "nd"))
  | ((with_reducible refine' w_slA ?hh ?_); (case hh => walk_at "hp"))
  | ((with_reducible refine' w_disp ?hz ?_); (case hz => exact sz_of (Nat.le_of_ble_eq_true rfl)))
  | ((with_reducible refine' w_tyL ?hh ?_); (case hh => walk_at "hp"))
  | (with_reducible refine' iteT ?_)
  | (with_reducible refine' iteF ?_)
  | (with_reducible refine' w_nT ?_)
  | (with_reducible refine' w_nn ?_)
  | (with_reducible refine' w_nnT ?_)
  | (with_reducible refine' w_nnR ?_)
  | (with_reducible refine' w_neG ?_)
  | (with_reducible refine' w_eqG ?_)
  | (with_reducible refine' w_neS ?_)
  | (with_reducible refine' w_eqS ?_)
  | (with_reducible refine' w_neSb ?_)
  | (with_reducible refine' w_eqSb ?_)
  | (with_reducible refine' w_deIS ?_)
  | (with_reducible refine' w_deSI ?_)
  | (with_reducible refine' w_deISn ?_)
  | ((with_reducible refine' w_deST ?he ?_); (case he => decide +kernel))
  | ((with_reducible refine' w_deSF ?he ?_); (case he => decide +kernel))
  | ((with_reducible refine' w_deSTn ?he ?_); (case he => decide +kernel))
  | ((with_reducible refine' w_deSFn ?he ?_); (case he => decide +kernel))
  | (with_reducible refine' w_nF ?_)
  | dsimp only [Bool.not_true, Bool.not_false])
local macro_rules | `(tactic| walk_at "ty") => `(tactic| first
  | exact .base (.int _) | exact .base (.str _) | exact .base (.bl _) | exact .base .non
  | ((refine' tyx_t ?hq); (case hq => walk_at "hp")) | ((refine' tyx_l ?hq); (case hq => walk_at "hp")) | ((refine' .base (.tup ?hq)); (case hq => walk_at "hp")) | assumption)
local macro_rules | `(tactic| walk_at "go") => `(tactic| repeat walk_at "go1")
local macro_rules | `(tactic| walk_at "st") => `(tactic| try dsimp only [cxOf, Cx.nox, Cx.wish])
local macro_rules | `(tactic| walk_at "kit") => `(tactic| with_reducible first | exact kit_int_int | exact kit_int_str | exact kit_int_bool | exact kit_int_tuple | exact kit_int_list | exact kit_str_int | exact kit_str_str | exact kit_str_bool | exact kit_str_tuple | exact kit_str_list | exact kit_bool_int | exact kit_bool_str | exact kit_bool_bool | exact kit_bool_tuple | exact kit_bool_list | exact kit_NoneType_int | exact kit_NoneType_str | exact kit_NoneType_bool | exact kit_NoneType_tuple | exact kit_NoneType_list | exact kit_list_int | exact kit_list_str | exact kit_list_bool | exact kit_list_tuple | exact kit_list_list | exact kit_tuple_int | exact kit_tuple_str | exact kit_tuple_bool | exact kit_tuple_tuple | exact kit_tuple_list)
local macro_rules | `(tactic| walk_at "nd") => `(tactic| first
  | assumption
  | exact Tm.nds _
  | exact Nds.nil
  | exact Nds.ofInts _
  | ((refine' Nds.cons ?na ?nb); (case na => first | exact Nds.I _ | exact Nds.L | exact Nds.A); (case nb => walk_at "nd"))
  | ((refine' Nds.app ?na ?nb); (case na => walk_at "nd"); (case nb => walk_at "nd"))
  | ((refine' Nds.rep ?na _); (case na => walk_at "nd")))
local macro_rules | `(tactic| walk_at "len") => `(tactic| first
  | exact ly_sz (by omega)
  | ((simp only [List.length_append, List.length_cons, List.length_nil, List.length_map, PyProof.Rows.lm_len_rep_flat]); exact ly_sz (by omega)))
local macro_rules | `(tactic| walk_at "go1") => `(tactic| first
  | (with_reducible refine' w_kget2 ?_)
  | (with_reducible refine' w_isRN ?_)
  | (with_reducible refine' w_isNN ?_)
  | (with_reducible refine' w_isIN ?_)
  | ((with_reducible refine' w_kg ?hd ?_); (case hd => assumption)))
local macro_rules | `(tactic| walk_at "go1") => `(tactic| first
  | ((with_reducible refine' w_extT ?hh ?hh2 ?hz ?_); (case hh => walk_at "hp"); (case hh2 => walk_at "hp"))
  | ((with_reducible refine' w_I ?hc ?_); (case hc => exact ⟨by decide, by decide, by decide⟩))
  | (with_reducible refine' w_sl ?_)
  | (with_reducible refine' w_noP ?_)
  | (with_reducible refine' w_part ?_)
  | (with_reducible refine' w_part1 ?_)
  | (with_reducible refine' w_it ?_)
  | (with_reducible refine' w_it1 ?_)
  | ((with_reducible refine' w_lenZ ?hz ?_); (case hz => omega))
  | ((with_reducible refine' w_addZb ?hz ?_); (case hz => omega))
  | ((with_reducible refine' w_addZf ?hz ?_); (case hz => omega))
  | ((with_reducible refine' w_addZa ?hz ?_); (case hz => omega))
  | ((with_reducible refine' w_inS ?hh ?_); (case hh => walk_at "hp"))
  | ((with_reducible refine' w_ixT ?hh ?ha ?_); (case hh => assumption); (case ha => exact atI_nat (by assumption))))
local macro_rules | `(tactic| walk_at "go1") => `(tactic| first
  | (with_reducible refine' w_iR2 ?_)
  | ((with_reducible refine' w_iR21 ?h1 ?h2 ?h3 ?h4 ?_); (case h1 => omega); (case h2 => omega); (case h3 => omega); (case h4 => omega))
  | (with_reducible refine' w_nnI ?_)
  | (with_reducible refine' w_max ?_)
  | (with_reducible refine' w_break ?_)
  | (with_reducible refine' w_cont ?_))
section
variable {P : Program} {w : World} {K : PySem.W.Frag} {mg : Str → Option Value} {base : Heap} {tk : Nat → Tok} {cl : Nat → Addr}
theorem ok_lplaces97 {f : Addr} {fd : FuncData} {k : Nat} (F : Fun K "_law_places" "_law_places" s_law_places f fd) (T : Txt w K mg tk cl) : FnOk P w K mg base CX0 (k + 1) f fd ["term"] (spLPlaces K) := by
  refine F.ok sc_law_places (fun vs H Q E h => ?_) (fun cdv A outer s H vs Q E hr h => ?_)
  · obtain ⟨a, t, rfl, _⟩ := h
    rfl
  · obtain ⟨a, t, rfl, hS, hlen, q⟩ := h
    refine ⟨_, (pss_cons (ps_set (i := 1) sc_law_places.nd rfl (.inl rfl) (pe_lst pa_nil)) (pss_cons (ps_set (i := 2) sc_law_places.nd rfl (.inl rfl) (pe_lst (pa_cons pe_str pa_nil))) (pss_cons (ps_for PassesOwn.never rfl (pi_tup (pv 0)) (pg_name (i := 3) sc_law_places.nd rfl (.inl rfl)) (pss_cons (ps_set (i := 4) sc_law_places.nd rfl (.inl rfl) (pe_bm0 PySem.F.plainAttrs_list PySem.F.slot_list_pop PySem.F.type_list_pop mt_pop (pv 2))) (pss_cons (ps_expr (pe_bm PySem.F.plainAttrs_list PySem.F.slot_list_append PySem.F.type_list_append mt_append (pv 1) (pa_cons (pv 4) pa_nil))) (pss_one (ps_if (pt_cmpR op_eq (pv 3) pe_str (nomark _)) (pss_cons (ps_expr (pe_bm PySem.F.plainAttrs_list PySem.F.slot_list_append PySem.F.type_list_append mt_append (pv 2) (pa_cons (pe_op op_addZ (pv 4) pe_str) pa_nil))) (pss_one (ps_expr (pe_bm PySem.F.plainAttrs_list PySem.F.slot_list_append PySem.F.type_list_append mt_append (pv 2) (pa_cons (pe_op op_addZ (pv 4) pe_str) pa_nil))))) (pss_one (ps_if (pt_cmpR op_eq (pv 3) pe_str (nomark _)) (pss_one (ps_expr (pe_bm PySem.F.plainAttrs_list PySem.F.slot_list_append PySem.F.type_list_append mt_append (pv 2) (pa_cons (pe_op op_addZ (pv 4) pe_str) pa_nil)))) pss_nil))))))) (pss_one (ps_ret (pv 1)))))), ?_⟩
    refine sl_of (σ2 := [some _, none, none, none, none]) rfl ?_
    walk_at "st"
    walk_at "go"
    intro fl hfl
    walk_at "go"
    intro wl hwl
    have hwf : wl ≠ fl := (ne_of_none upd_same hwl).symm
    have hwl0 : H wl = none := by
      rw [upd_ne hwf] at hwl
      exact hwl
    rw [pl_e]
    walk_at "go"
    refine for_tup (K := K) (a := a) (xs := t.enc) (fun i σ H' => ∃ found ds y1 y2, σ = [some (.ref a), some (.ref fl), some (.ref wl), y1, y2] ∧ Ex H H' ∧ H' fl = some (.lst (plcs found)) ∧ H' wl = some (.lst (plcs ds)) ∧ PInv t i found ds ∧ found.length = i ∧ ds.length ≤ i + 1 ∧ ∀ d ∈ ds, d.length ≤ i)
      ⟨[], [[]], none, none, rfl, by walk_at "ex", by walk_at "hp", upd_same, PInv.start t, rfl, by simp, by simp⟩ (fun i σ H' _ h => by obtain ⟨_, _, _, _, _, e, _⟩ := h; exact ex_t e hS) ?_ ?_
    · rintro i v σ H1 hi ⟨found, ds, y1, y2, rfl, e1, hf1, hw1, hinv, hfl1, hds1, hdl1⟩
      have hlt : i < t.enc.length := (List.getElem?_eq_some_iff.mp hi).1
      obtain ⟨r, d, rfl, hstep⟩ := hinv.step hi
      have hw1b : H1 wl = some (.lst (plcs r ++ [V.str (pl d)])) := by rw [hw1]; simp [plcs]
      have el : (plcs found).length = found.length := List.length_map _
      have el2 : (plcs r).length = r.length := List.length_map _
      have hrl : r.length ≤ i := by simpa using hds1
      have hdl : d.length ≤ i := hdl1 d (by simp)
      have hrd : ∀ x ∈ r, x.length ≤ i + 1 := fun x hx => Nat.le_succ_of_le (hdl1 x (by simp [hx]))
      have ef : plcs found ++ [V.str (pl d)] = plcs (found ++ [d]) := by simp [plcs]
      rcases hstep with ⟨n, rfl, hn⟩ | ⟨rfl, hn⟩ | ⟨rfl, hn⟩
      · walk_at "go"
        refine ⟨found ++ [d], r, _, _, rfl, by walk_at "ex", ?_, by walk_at "hp", hn, by simp [hfl1], by omega, hrd⟩
        rw [← ef]
        walk_at "hp"
      · walk_at "go"
        refine ⟨found ++ [d], r ++ [d ++ [98]], _, _, rfl, by walk_at "ex", ?_, ?_, hn, by simp [hfl1], by simp; omega, fun x hx => ?_⟩
        · rw [← ef]
          walk_at "hp"
        · rw [upd_same]
          simp [plcs]
        · rcases List.mem_append.mp hx with hx | hx
          · exact hrd x hx
          · rw [List.mem_singleton.mp hx, List.length_append, List.length_singleton]
            omega
      · walk_at "go"
        refine ⟨found ++ [d], r ++ [d ++ [97]] ++ [d ++ [102]], _, _, rfl, by walk_at "ex", ?_, ?_, hn, by simp [hfl1], by simp; omega, fun x hx => ?_⟩
        · rw [← ef]
          walk_at "hp"
        · rw [upd_same]
          simp [plcs]
        · rcases List.mem_append.mp hx with hx | hx
          · rcases List.mem_append.mp hx with hx | hx
            · exact hrd x hx
            · rw [List.mem_singleton.mp hx, List.length_append, List.length_singleton]
              omega
          · rw [List.mem_singleton.mp hx, List.length_append, List.length_singleton]
            omega
    · rintro σ H1 ⟨found, ds, y1, y2, rfl, e1, hf1, hw1, hinv, hfl1, hds1, _⟩
      walk_at "go"
      rw [hinv.done] at hf1
      exact q H1 fl e1 hfl hf1
def NodesV (xs : List V) : Prop := ∀ v ∈ xs, (∃ m : Nat, v = .int m) ∨ v = .str "lam" ∨ v = .str "app"
theorem nodes_enc (t : Tm) : NodesV t.enc := fun v hv => Tm.int_nat hv
def spLRedx (K : PySem.W.Frag) : Sp := fun vs H Q _ => ∃ (a : Addr) (xs : List V), vs = [.ref a] ∧ SqT K H a xs ∧ NodesV xs ∧ xs.length ≤ 2000000 ∧ ∀ H' p, Ex H H' → H p = none → H' p = some (.lst (nums (redI xs (xs.length - 1)))) → Q (.ref p) H'
theorem ok_lredx97 {f : Addr} {fd : FuncData} {k : Nat} (F : Fun K "_law_redexes" "_law_redexes" s_law_redexes f fd) (T : Txt w K mg tk cl) : FnOk P w K mg base CX0 (k + 1) f fd ["term"] (spLRedx K) := by
  refine F.ok sc_law_redexes (fun vs H Q E h => ?_) (fun cdv A outer s H vs Q E hr h => ?_)
  · obtain ⟨a, xs, rfl, _⟩ := h
    rfl
  · obtain ⟨a, xs, rfl, hS, hnv, hlen, q⟩ := h
    refine ⟨_, (pss_one (ps_ret (pe_lc (own := [("k", 1)]) (g := gName 1) rfl sc_law_redexes.nd (pi_range1 (by rfl) T.n_range (pa_cons (pe_op op_sub (pe_callB call_len_seq (by rfl) T.n_len (by decide +kernel) (pa_cons (pv 0) pa_nil)) pe_int) pa_nil)) (blkOk_by (N := N_law_redexes) (sc := defScope s_law_redexes) (by decide +kernel)) (fun _ _ _ _ _ => pg_name (i := 1) sc_law_redexes.nd rfl (Or.inl rfl)) (fun _ _ _ _ _ => (pts_one (PW.pt (pw_and (pt_cmpR op_eq (pe_ix (ix_tupK (K := K) (by rfl)) (pv 0) (pv 1) (fun _ _ => rfl)) pe_str (nomark _)) (pw_and1 (pt_cmpR op_eq (pe_ix (ix_tupK (K := K) (by rfl)) (pv 0) (pe_op op_add (pv 1) pe_int) (fun _ _ => rfl)) pe_str (nomark _))))))) (fun _ _ _ _ _ => (pv 1))))), ?_⟩
    refine sl_of (σ2 := [some _, none]) rfl ?_
    walk_at "st"
    walk_at "go"
    intro nl hnl
    refine lc_range (lo := 0) (n := ((xs.length : Int) - 1).toNat) (fun i H' => Ex H H' ∧ H' nl = some (.lst (nums (redI xs i)))) ⟨by walk_at "ex", upd_same⟩ ?_ ?_
    · rintro i H2 hi ⟨e2, hn2⟩
      have hil : i + 1 < xs.length := by omega
      obtain ⟨x, hx⟩ : ∃ x, xs[i]? = some x := ⟨_, List.getElem?_eq_getElem (by omega)⟩
      obtain ⟨y, hy⟩ : ∃ y, xs[i + 1]? = some y := ⟨_, List.getElem?_eq_getElem hil⟩
      have hS2 := ex_t e2 hS
      have ll : (nums (redI xs i)).length < 3000000 := by
        rw [List.length_map]
        have := redI_len xs i
        omega
      have no : redB xs i = false → redI xs (i + 1) = redI xs i := fun h => by
        simp only [redI, h]
        simp
      walk_at "go"
      rcases hnv x (List.mem_of_getElem? hx) with ⟨m, rfl⟩ | rfl | rfl
      · walk_at "go"
        rw [no (redB_of hx (by simp))]
        exact ⟨e2, hn2⟩
      · walk_at "go"
        rw [no (redB_of hx (by simp [str_ne1]))]
        exact ⟨e2, hn2⟩
      · walk_at "go"
        rcases hnv y (List.mem_of_getElem? hy) with ⟨m, rfl⟩ | rfl | rfl
        · walk_at "go"
          rw [no (by simp [redB, hy])]
          exact ⟨e2, hn2⟩
        · walk_at "go"
          have hb : redB xs i = true := by rw [redB_iff]; exact ⟨hx, hy⟩
          refine ⟨_, hn2, ly_lt (by omega), by walk_at "ex", ?_⟩
          rw [upd_same]
          simp [redI, hb, nums]
        · walk_at "go"
          rw [no (by unfold redB; rw [hy, Bool.and_eq_false_iff]; exact .inr (by decide +kernel))]
          exact ⟨e2, hn2⟩
    · rintro H2 ⟨e2, hn2⟩
      rw [show ((xs.length : Int) - 1).toNat = xs.length - 1 by omega] at hn2
      exact q H2 nl e2 hnl hn2
/-- what the law's step gives: the step, or too much, where that is too large -/
def StepV (v : Tm) (xs : List V) : Prop := xs = v.enc ∨ (1100 < xs.length ∧ xs.length ≤ 6000 ∧ 1100 < v.enc.length ∧ NodesV xs)
def spLStep97 (K : PySem.W.Frag) : Sp := fun vs H Q _ => ∃ (a : Addr) (t : Tm) (p : List Nat) (i : Nat) (b u : Tm), vs = [.ref a, .int (i : Int)] ∧ SqT K H a t.enc ∧ t.Red p i b u ∧ t.enc.length ≤ 1000 ∧ ∀ H' r xs, Ex H H' → SqT K H' r xs → StepV (t.step p) xs → Q (.ref r) H'
theorem ok_lstep97 {f : Addr} {fd : FuncData} (F : Fun K "_law_step" "_law_step" s_law_step f fd) (T : Txt w K mg tk cl)
    (D1 : Def P w K mg base CX0 1 "_law_end" ["term", "at"] (spEnd K)) (D2 : Def P w K mg base CX0 3 "_law_put" ["term", "value"] (spLawPut97 K)) : FnOk P w K mg base CX0 4 f fd ["term", "at"] (spLStep97 K) := by
  obtain ⟨f1, fd1, g_law_end, kp_law_end, b_law_end, G_law_end⟩ := D1
  obtain ⟨f2, fd2, g_law_put, kp_law_put, b_law_put, G_law_put⟩ := D2
  refine F.ok sc_law_step (fun vs H Q E h => ?_) (fun cdv A outer s H vs Q E hr h => ?_)
  · obtain ⟨a, t, p, i, b, u, rfl, _⟩ := h
    rfl
  · obtain ⟨a, t, p, i, b, u, rfl, hS, hred, hlen, q⟩ := h
    refine ⟨_, (pss_cons (ps_set (i := 2) sc_law_step.nd rfl (.inl rfl) (pe_call G_law_end (hr.mono (by first | decide | omega)) (by rfl) g_law_end kp_law_end b_law_end .nil pass0 (pa_cons (pv 0) (pa_cons (pe_op op_add (pv 1) pe_int) pa_nil)))) (pss_cons (ps_set (i := 3) sc_law_step.nd rfl (.inl rfl) (pe_call G_law_end (hr.mono (by first | decide | omega)) (by rfl) g_law_end kp_law_end b_law_end .nil pass0 (pa_cons (pv 0) (pa_cons (pv 2) pa_nil)))) (pss_one (ps_ret (pe_op op_catA (pe_op op_catA (pe_slice sl_tupA (pv 0) po_none (po_some (pv 1))) (pe_call G_law_put (hr.mono (by first | decide | omega)) (by rfl) g_law_put kp_law_put b_law_put .nil pass0 (pa_cons (pe_slice sl_tupA (pv 0) (po_some (pe_op op_add (pv 1) pe_int)) (po_some (pv 2))) (pa_cons (pe_slice sl_tupA (pv 0) (po_some (pv 2)) (po_some (pv 3))) pa_nil)))) (pe_slice sl_tupA (pv 0) (po_some (pv 3)) po_none)))))), ?_⟩
    refine sl_of (σ2 := [some _, some _, none, none]) rfl ?_
    walk_at "st"
    walk_at "go"
    obtain ⟨post, hdr⟩ := Tm.red_at hred
    have lt := Tm.sub_lt hred
    have hal : (Tm.app (.lam b) u).enc.length = b.enc.length + u.enc.length + 2 := by
      simp only [Tm.enc, List.length_cons, List.length_append]
      omega
    rw [hal] at lt
    have hll : (Tm.lam b).enc.length = b.enc.length + 1 := rfl
    have d1 : t.enc.drop (i + 1) = (Tm.lam b).enc ++ (u.enc ++ post) := (at_drop hdr).2
    have d2 : t.enc.drop (i + 2) = b.enc ++ (u.enc ++ post) := (at_drop d1).2
    have d3 : t.enc.drop (i + 1 + (Tm.lam b).enc.length) = u.enc ++ post := by
      rw [← List.drop_drop, d1, List.drop_left]
    refine ⟨a, t.enc, i + 1, .lam b, _, rfl, hS, d1, by omega, ?_⟩
    walk_at "go"
    refine ⟨a, t.enc, i + 1 + (Tm.lam b).enc.length, u, _, rfl, hS, d3, by omega, ?_⟩
    walk_at "go"
    intro x1 H2 e2 hx1
    have hS2 := ex_t e2 hS
    walk_at "go"
    intro x2 H3 e3 hx2
    have c2 : cutV t.enc (some ((i : Int) + 2)) (some ((i + 1 + (Tm.lam b).enc.length : Nat) : Int)) = b.enc := by
      have h := cut_mid (i := i + 2) (u := b) d2
      have e : i + 1 + (Tm.lam b).enc.length = i + 2 + b.enc.length := by omega
      rw [e]
      exact h
    rw [c2] at hx2
    have hS3 := ex_t e3 hS2
    walk_at "go"
    intro x3 H4 e4 hx3
    have c3 : cutV t.enc (some ((i + 1 + (Tm.lam b).enc.length : Nat) : Int)) (some ((i + 1 + (Tm.lam b).enc.length + u.enc.length : Nat) : Int)) = u.enc := cut_mid d3
    rw [c3] at hx3
    have hS4 := ex_t e4 hS3
    have hx2 := ex_t e4 hx2
    have hx1 := ex_t e4 (ex_t e3 hx1)
    have e9 := Tm.step_enc hred
    have e34 := (e2.trans e3).trans e4
    have e10 : i + 1 + (Tm.lam b).enc.length + u.enc.length = i + 2 + b.enc.length + u.enc.length := by omega
    have pl9 := Nat.le_trans (Tm.put_len u b 0) (Nat.mul_le_mul (show b.enc.length ≤ 1000 by omega) (show u.enc.length ≤ 1000 by omega))
    walk_at "go"
    refine ⟨x2, x3, b, u, rfl, hx2, hx3, by omega, by omega, fun H5 x5 zs e5 hx5 hz => ?_⟩
    have hzl : zs.length ≤ 1002000 := by
      rcases hz with rfl | ⟨_, h, _⟩
      · omega
      · omega
    have hx15 := ex_t e5 hx1
    have hS5 := ex_t e5 hS4
    rw [cut_lo] at hx15
    refine w_catA hx15 hx5 (ly_sz (by rw [List.length_take]; omega)) fun p6 H6 e6 hp6 => ?_
    have hS6 := ex_t e6 hS5
    walk_at "go"
    intro x7 H7 e7 hx7
    have c4 : cutV t.enc (some ((i + 1 + (Tm.lam b).enc.length + u.enc.length : Nat) : Int)) none = t.enc.drop (i + 2 + b.enc.length + u.enc.length) := by rw [e10]; exact cut_hi _ _
    rw [c4] at hx7
    refine w_catA (ex_t e7 hp6) hx7 (ly_sz (by rw [List.length_append, List.length_take, List.length_drop]; omega)) fun p8 H8 e8 hp8 => ?_
    refine q H8 p8 _ (by walk_at "ex") hp8 ?_
    rcases hz with rfl | ⟨h1, h2, ys, h3⟩
    · left
      rw [← e9]
    · right
      have l1 : (t.enc.take i ++ zs ++ t.enc.drop (i + 2 + b.enc.length + u.enc.length)).length ≤ 6000 := by
        simp only [List.length_append, List.length_take, List.length_drop]
        omega
      refine ⟨by simp only [List.length_append]; omega, l1, ?_, fun v hv => ?_⟩
      · rw [e9, h3]
        simp only [List.length_append]
        omega
      · rcases List.mem_append.mp hv with hv | hv
        · rcases List.mem_append.mp hv with hv | hv
          · exact Tm.int_nat (List.mem_of_mem_take hv)
          · exact Tm.int_nat (t := Tm.put u 0 b) (by rw [h3]; exact List.mem_append_left _ hv)
        · exact Tm.int_nat (List.mem_of_mem_drop hv)
end
end Ly
set_option Elab.async false
set_option linter.all false
set_option maxRecDepth 100000
set_option maxHeartbeats 8000000
namespace Ly
open PySem PySem.Spec PyProof.Rows L2 Evl
local macro_rules | `(tactic| walk_at "ne") => `(tactic| first
  | assumption
  | ((refine' Ne.symm ?hq); (case hq => assumption))
  | ((refine' ne_of_none ?nh1 ?nh2); (case nh2 => assumption); (case nh1 => walk_at "hp"))
  | ((refine' Ne.symm (ne_of_none ?nh1 ?nh2)); (case nh2 => assumption); (case nh1 => walk_at "hp")))
local macro_rules | `(tactic| walk_at "hp") => `(tactic| first
  | assumption
  | exact upd_same
  | ((refine' SqL.of ?hq); (case hq => walk_at "hp"))
  | ((refine' SqT.of ?hq); (case hq => walk_at "hp"))
  | ((refine' (upd_ne ?hne).trans ?hrest); (case hne => walk_at "ne"); (case hrest => walk_at "hp"))
  | ((refine' ly_at ?hex ?hh); (case hex => assumption); (case hh => walk_at "hp"))
  | ((refine' ly_atF ?hex ?hnn ?hh); (case hex => assumption); (case hh => walk_at "hp"); (case hnn => walk_at "ne"))
  | ((refine' ex_t ?hex ?hh); (case hh => assumption); (case hex => walk_at "ex"))
  | ((refine' ex_l ?hex ?hh); (case hh => assumption); (case hex => walk_at "ex")))
local macro_rules | `(tactic| walk_at "ex") => `(tactic| first
  | assumption
  | exact Ex.refl _
  | ((refine' ex_new ?xa ?xb); (case xb => assumption); (case xa => walk_at "ex"))
  | ((refine' ex_upd ?xa ?xb); (case xb => walk_at "free"); (case xa => walk_at "ex"))
  | ((refine' Ex.trans ?xa ?xb); (case xb => assumption); (case xa => walk_at "ex")))
local macro_rules | `(tactic| walk_at "free") => `(tactic| first
  | assumption
  | ((refine' fresh_back ?xa ?xb); (case xb => assumption); (case xa => walk_at "ex")))
local macro_rules | `(tactic| walk_at "fr") => `(tactic| first
  | assumption
  | exact Fr.refl _ _
  | ((refine' Fr.own ?hq); (case hq => walk_at "fr"))
  | ((refine' Fr.new ?xa ?xb); (case xb => assumption); (case xa => walk_at "fr"))
  | ((refine' Fr.mut ?xa ?xb); (case xb => assumption); (case xa => walk_at "fr"))
  | ((refine' Fr.trans ?xa ?xb); (case xb => assumption); (case xa => walk_at "fr"))
  | ((refine' Fr.trans ?xa (Fr.ex ?xb)); (case xb => assumption); (case xa => walk_at "fr")))
local macro_rules | `(tactic| walk_at "go1") => `(tactic| first
  | (with_reducible refine' w_seq ?_)
  | (with_reducible refine' w_asg ?_)
  | (with_reducible refine' w_ret ?_)
  | (with_reducible refine' w_drop ?_)
  | (with_reducible refine' w_if ?_)
  | (with_reducible refine' w_next ?_)
  | (with_reducible refine' w_name ?_)
  | (with_reducible refine' w_sub ?_)
  | ((with_reducible refine' w_var ?hv ?_); (case hv => exact rfl))
  | (with_reducible refine' w_c ?_)
  | (with_reducible refine' w_op ?_)
  | (with_reducible refine' w_un ?_)
  | (with_reducible refine' w_ch ?_)
  | (with_reducible refine' w_I0 ?_)
  | ((with_reducible refine' w_I ?hc ?_); (case hc => first | (exact ly_mulL (by decide) (by decide)) | (exact ly_mulR (by decide) (by decide)) | (exact ly_mulL (by omega) (by omega)) | (show (_ : Int) ≠ 0; decide) | (show (_ : Int) ≠ 0; omega) | (exact ⟨by decide, by decide⟩) | (exact ⟨by omega, by omega⟩)))
  | (with_reducible refine' w_U ?_)
  | ((with_reducible refine' w_eq ?hs ?_); (case hs => exact rfl))
  | ((with_reducible refine' w_ne ?hs ?_); (case hs => exact rfl))
  | (with_reducible refine' w_isB ?_)
  | (with_reducible refine' w_notB ?_)
  | (with_reducible refine' w_nil ?_)
  | (with_reducible refine' w_cons ?_)
  | (with_reducible refine' w_tup ?_)
  | (with_reducible refine' w_lst ?_)
  | (with_reducible refine' w_cb ?_)
  | (with_reducible refine' w_call ?_)
  | (with_reducible refine' w_bm ?_)
  | (with_reducible refine' w_bm0 ?_)
  | ((with_reducible refine' w_app ?hh ?hz ?_); (case hh => walk_at "hp"); (case hz => first | exact ly_lt (by omega) | exact ly_lt (by simp only [List.length_append, List.length_map, List.length_cons, List.length_nil]; omega)))
  | ((with_reducible refine' w_popA ?hh ?_); (case hh => walk_at "hp"))
  | ((with_reducible refine' w_ext ?hh ?hh2 ?hz ?_); (case hh => walk_at "hp"); (case hh2 => walk_at "hp"))
  | ((with_reducible refine' w_ixL ?hh ?ha ?_); (case hh => walk_at "hp"); (case ha => first | exact rfl | exact at_map (by omega) | exact atI_last _ _ | ((refine' at_of ?ae ?ah); (case ah => assumption); (case ae => omega))))
  | ((with_reducible refine' w_ixT ?hh ?ha ?_); (case hh => walk_at "hp"); (case ha => first | exact rfl | exact at_map (by omega) | exact atI_last _ _ | ((refine' at_of ?ae ?ah); (case ah => assumption); (case ae => omega))))
  | ((with_reducible refine' w_cat ?hh ?hh2 ?hz ?_); (case hh => walk_at "hp"); (case hh2 => walk_at "hp"))
  | ((with_reducible refine' w_setL ?hh ?ha ?_); (case hh => walk_at "hp"); (case ha => exact rfl))
  | (with_reducible refine' w_test ?_)
  | (with_reducible refine' w_tB ?_)
  | (with_reducible refine' w_bl ?_)
  | (with_reducible refine' w_and ?_)
  | (with_reducible refine' w_or ?_)
  | (with_reducible refine' w_not ?_)
  | (with_reducible refine' w_andV ?_)
  | (with_reducible refine' w_orV ?_)
  | (with_reducible refine' w_notV ?_)
  | (with_reducible refine' w_ifE ?_)
  | (with_reducible refine' w_for ?_)
  | ((with_reducible refine' w_nin ?hh ?_); (case hh => walk_at "hp"))
  | ((with_reducible refine' w_sorted ?hh ?_); (case hh => walk_at "hp"))
  | (with_reducible refine' w_tsadd ?_)
  | ((with_reducible refine' w_tsadd1 ?hh ?_); (case hh => walk_at "hp"))
  | ((with_reducible refine' w_sadd ?hh ?hr ?_); (case hh => walk_at "hp"); (case hr => omega))
  | (with_reducible refine' w_iZ ?_)
  | ((with_reducible refine' w_iZ1 ?hh ?hh2 ?_); (case hh => walk_at "hp"); (case hh2 => walk_at "hp"))
  | (with_reducible refine' w_iS ?_)
  | (with_reducible refine' w_iS1 ?_)
  | ((with_reducible refine' w_gtup ?hh ?hn ?_); (case hh => walk_at "hp"); (case hn => exact rfl))
  | (with_reducible refine' w_gcons ?_)
  | (with_reducible refine' w_gnil ?_)
  | (with_reducible refine' w_js ?_)
  | (with_reducible refine' w_jsn ?_)
  | ((with_reducible refine' w_js1 ?hl ?_); (case hl => decide +kernel))
  | (with_reducible refine' w_fmt ?_)
  | ((with_reducible refine' w_fmt1 ?hl ?_); (case hl => decide +kernel))
  | (with_reducible refine' w_callS ?_)
  | ((with_reducible refine' w_truL ?hh ?_); (case hh => walk_at "hp"))
  | (with_reducible refine' w_lc ?_)
  | (with_reducible refine' w_yes ?_)
  | ((with_reducible refine' w_wipe ?he ?_); (case he => exact rfl))
  | (with_reducible refine' w_iL ?_)
  | (with_reducible refine' w_iT ?_)
  | (with_reducible refine' w_iR ?_)
  | ((with_reducible refine' w_iL1 ?hh ?_); (case hh => walk_at "hp"))
  | ((with_reducible refine' w_iT1 ?hh ?_); (case hh => walk_at "hp"))
  | ((with_reducible refine' w_iR1 ?h1 ?h2 ?_); (case h1 => omega); (case h2 => omega))
  | ((with_reducible refine' w_aug ?hv ?_); (case hv => exact rfl))
  | (with_reducible refine' w_ipI ?_)
  | ((with_reducible refine' w_isi ?hy ?hk ?_); (case hy => walk_at "ty"); (case hk => walk_at "kit"))
  | ((with_reducible refine' w_int ?_))
  | ((with_reducible refine' w_intB ?_))
  | ((with_reducible refine' w_abs ?_))
  | ((with_reducible refine' w_lenL ?hh ?_); (case hh => walk_at "hp"))
  | ((with_reducible refine' w_lenT ?hh ?_); (case hh => walk_at "hp"))
  | ((with_reducible refine' w_tupL ?hh ?_); (case hh => walk_at "hp"))
  | ((with_reducible refine' w_tupT ?hh ?_); (case hh => walk_at "hp"))
  | ((with_reducible refine' w_catA ?hh ?hh2 ?hz ?_); (case hh => walk_at "hp"); (case hh2 => walk_at "hp"); (case hz => walk_at "len"))
  | ((with_reducible refine' w_repB ?hh ?hne ?h2 ?h3 ?hz ?_); (case hh => walk_at "hp"); (case hne => simp); (case h2 => omega); (case h3 => omega); (case hz => exact Nat.le_of_ble_eq_true rfl))
  | ((with_reducible refine' w_eqN ?hh ?hh2 ?n1 ?n2 ?_); (case hh => walk_at "hp"); (case hh2 => walk_at "hp"); (case n1 => walk_at "nd"); (case n2 => walk_at "nd"))
  | ((with_reducible refine' w_neN ?hh ?hh2 ?n1 ?n2 ?_); (case hh => walk_at "hp"); (case hh2 => walk_at "hp"); (case n1 => walk_at "nd"); (case n2 => walk_at "nd"))
  | ((with_reducible refine' w_eqL ?hh ?hh2 ?n1 ?n2 ?_); (case hh => walk_at "hp"); (case hh2 => walk_at "hp"); (case n1 => walk_at "nd"); (case n2 => walk_at "nd"))
  | ((with_reducible refine' w_neL ?hh ?hh2 ?n1 ?n2 ?_); (case hh => walk_at "hp"); (case hh2 => walk_at "hp"); (case n1 => walk_at "nd"); (case n2 => walk_at "nd"))
  | ((with_reducible refine' w_neNon ?hh2 ?n2 ?_); (case hh2 => walk_at "hp"); (case n2 => walk_at "nd"))
  | ((with_reducible refine' w_eqNon ?hh2 ?n2 ?_); (case hh2 => walk_at "hp"); (case n2 => walk_at "nd"))
  | ((with_reducible refine' w_slA ?hh ?_); (case hh => walk_at "hp"))
  | ((with_reducible refine' w_disp ?hz ?_); (case hz => exact sz_of (Nat.le_of_ble_eq_true rfl)))
  | ((with_reducible refine' w_tyL ?hh ?_); (case hh => walk_at "hp"))
  | (with_reducible refine' iteT ?_)
  | (with_reducible refine' iteF ?_)
  | (with_reducible refine' w_nT ?_)
  | (with_reducible refine' w_nn ?_)
  | (with_reducible refine' w_nnT ?_)
  | (with_reducible refine' w_nnR ?_)
  | (with_reducible refine' w_neG ?_)
  | (with_reducible refine' w_eqG ?_)
  | (with_reducible refine' w_neS ?_)
  | (with_reducible refine' w_eqS ?_)
  | (with_reducible refine' w_neSb ?_)
  | (with_reducible refine' w_eqSb ?_)
  | (with_reducible refine' w_deIS ?_)
  | (with_reducible refine' w_deSI ?_)
  | (with_reducible refine' w_deISn ?_)
  | ((with_reducible refine' w_deST ?he ?_); (case he => decide +kernel))
  | ((with_reducible refine' w_deSF ?he ?_); (case he => decide +kernel))
  | ((with_reducible refine' w_deSTn ?he ?_); (case he => decide +kernel))
  | ((with_reducible refine' w_deSFn ?he ?_); (case he => decide +kernel))
  | (with_reducible refine' w_nF ?_)
  | dsimp only [Bool.not_true, Bool.not_false])
local macro_rules | `(tactic| walk_at "ty") => `(tactic| first
  | exact .base (.int _) | exact .base (.str _) | exact .base (.bl _) | exact .base .non
  | ((refine' tyx_t ?hq); (case hq => walk_at "hp")) | ((refine' tyx_l ?hq); (case hq => walk_at "hp")) | ((refine' .base (.tup ?hq)); (case hq => walk_at "hp")) | assumption)
local macro_rules | `(tactic| walk_at "go") => `(tactic| repeat walk_at "go1")
local macro_rules | `(tactic| walk_at "st") => `(tactic| try dsimp only [cxOf, Cx.nox, Cx.wish])
local macro_rules | `(tactic| walk_at "kit") => `(tactic| with_reducible first | exact kit_int_int | exact kit_int_str | exact kit_int_bool | exact kit_int_tuple | exact kit_int_list | exact kit_str_int | exact kit_str_str | exact kit_str_bool | exact kit_str_tuple | exact kit_str_list | exact kit_bool_int | exact kit_bool_str | exact kit_bool_bool | exact kit_bool_tuple | exact kit_bool_list | exact kit_NoneType_int | exact kit_NoneType_str | exact kit_NoneType_bool | exact kit_NoneType_tuple | exact kit_NoneType_list | exact kit_list_int | exact kit_list_str | exact kit_list_bool | exact kit_list_tuple | exact kit_list_list | exact kit_tuple_int | exact kit_tuple_str | exact kit_tuple_bool | exact kit_tuple_tuple | exact kit_tuple_list)
local macro_rules | `(tactic| walk_at "nd") => `(tactic| first
  | assumption
  | exact Tm.nds _
  | exact Nds.nil
  | exact Nds.ofInts _
  | ((refine' Nds.cons ?na ?nb); (case na => first | exact Nds.I _ | exact Nds.L | exact Nds.A); (case nb => walk_at "nd"))
  | ((refine' Nds.app ?na ?nb); (case na => walk_at "nd"); (case nb => walk_at "nd"))
  | ((refine' Nds.rep ?na _); (case na => walk_at "nd")))
local macro_rules | `(tactic| walk_at "len") => `(tactic| first
  | exact ly_sz (by omega)
  | ((simp only [List.length_append, List.length_cons, List.length_nil, List.length_map, PyProof.Rows.lm_len_rep_flat]); exact ly_sz (by omega)))
local macro_rules | `(tactic| walk_at "go1") => `(tactic| first
  | (with_reducible refine' w_kget2 ?_)
  | (with_reducible refine' w_isRN ?_)
  | (with_reducible refine' w_isNN ?_)
  | (with_reducible refine' w_isIN ?_)
  | ((with_reducible refine' w_kg ?hd ?_); (case hd => assumption)))
local macro_rules | `(tactic| walk_at "go1") => `(tactic| first
  | ((with_reducible refine' w_extT ?hh ?hh2 ?hz ?_); (case hh => walk_at "hp"); (case hh2 => walk_at "hp"))
  | ((with_reducible refine' w_I ?hc ?_); (case hc => exact ⟨by decide, by decide, by decide⟩))
  | (with_reducible refine' w_sl ?_)
  | (with_reducible refine' w_noP ?_)
  | (with_reducible refine' w_part ?_)
  | (with_reducible refine' w_part1 ?_)
  | (with_reducible refine' w_it ?_)
  | (with_reducible refine' w_it1 ?_)
  | ((with_reducible refine' w_lenZ ?hz ?_); (case hz => omega))
  | ((with_reducible refine' w_addZb ?hz ?_); (case hz => omega))
  | ((with_reducible refine' w_addZf ?hz ?_); (case hz => omega))
  | ((with_reducible refine' w_addZa ?hz ?_); (case hz => omega))
  | ((with_reducible refine' w_inS ?hh ?_); (case hh => walk_at "hp"))
  | ((with_reducible refine' w_ixT ?hh ?ha ?_); (case hh => assumption); (case ha => exact atI_nat (by assumption))))
local macro_rules | `(tactic| walk_at "go1") => `(tactic| first
  | (with_reducible refine' w_iR2 ?_)
  | ((with_reducible refine' w_iR21 ?h1 ?h2 ?h3 ?h4 ?_); (case h1 => omega); (case h2 => omega); (case h3 => omega); (case h4 => omega))
  | (with_reducible refine' w_nnI ?_)
  | (with_reducible refine' w_max ?_)
  | (with_reducible refine' w_break ?_)
  | (with_reducible refine' w_cont ?_))
section
variable {P : Program} {w : World} {K : PySem.W.Frag} {mg : Str → Option Value} {base : Heap} {tk : Nat → Tok} {cl : Nat → Addr}
theorem w_ninNums {H : Hp} {Q : VK} {p : Addr} {ds : List Nat} {z : Nat} (h : H p = some (.lst (nums ds))) (q : Q (.bl (!decide (z ∈ ds))) H) : rIn K true (.int (z : Int)) (.ref p) H Q := by
  have e : nums ds = (ds.map Int.ofNat).map V.int := by
    rw [List.map_map]
    rfl
  rw [e] at h
  refine w_nin (SqL.of h) ?_
  have : decide ((z : Int) ∈ ds.map Int.ofNat) = decide (z ∈ ds) := by
    rw [Bool.eq_iff_iff, decide_eq_true_iff, decide_eq_true_iff]
    constructor
    · intro hm
      obtain ⟨y, hy, he⟩ := List.mem_map.mp hm
      have : y = z := Int.ofNat.inj he
      rwa [this] at hy
    · intro hm
      exact List.mem_map.mpr ⟨z, hm, rfl⟩
  rw [this]
  exact q

local macro_rules | `(tactic| walk_at "go1") => `(tactic| first
  | ((with_reducible refine' w_ninS ?hh ?_); (case hh => walk_at "hp"))
  | ((with_reducible refine' w_ninNums ?hh ?_); (case hh => walk_at "hp")))
def spFollow97 (K : PySem.W.Frag) : Sp := fun vs H Q _ => ∃ (a l : Addr) (t : Tm) (road : List (List Nat)), vs = [.ref a, .ref l] ∧ SqT K H a t.enc ∧ H l = some (.lst (plcs road)) ∧ t.enc.length ≤ 1000 ∧ t.wf 8 ∧ Road t road ∧
  (∀ ms v, Run t road ms v → ∀ H' p, Ex H H' → SqT K H' p v.enc → Q (.ref p) H') ∧ ((∀ ms v, ¬ Run t road ms v) → ∀ H', Ex H H' → Q .non H')
theorem ok_lfollow97 {f : Addr} {fd : FuncData} (F : Fun K "_law_follow" "_law_follow" s_law_follow f fd) (T : Txt w K mg tk cl)
    (D1 : Def P w K mg base CX0 1 "_law_places" ["term"] (spLPlaces K)) (D2 : Def P w K mg base CX0 1 "_law_redexes" ["term"] (spLRedx K)) (D3 : Def P w K mg base CX0 4 "_law_step" ["term", "at"] (spLStep97 K)) : FnOk P w K mg base CX0 5 f fd ["term", "road"] (spFollow97 K) := by
  obtain ⟨f1, fd1, g_law_places, kp_law_places, b_law_places, G_law_places⟩ := D1
  obtain ⟨f2, fd2, g_law_redexes, kp_law_redexes, b_law_redexes, G_law_redexes⟩ := D2
  obtain ⟨f3, fd3, g_law_step, kp_law_step, b_law_step, G_law_step⟩ := D3
  refine F.ok sc_law_follow (fun vs H Q E h => ?_) (fun cdv A outer s H vs Q E hr h => ?_)
  · obtain ⟨a, l, t, road, rfl, _⟩ := h
    rfl
  · obtain ⟨a, l, t, road, rfl, hS, hl, hlen, hw, hroad, q, qn⟩ := h
    refine ⟨_, (pss_cons (ps_for PassesOwn.never rfl (pi_list (pv 1)) (pg_name (i := 2) sc_law_follow.nd rfl (.inl rfl)) (pss_cons (ps_set (i := 3) sc_law_follow.nd rfl (.inl rfl) (pe_call G_law_places (hr.mono (by first | decide | omega)) (by rfl) g_law_places kp_law_places b_law_places .nil pass0 (pa_cons (pv 0) pa_nil))) (pss_cons (ps_if (pt_cmpR op_notIn_seq (pv 2) (pv 3) (by rfl)) (pss_one (ps_ret pe_non)) pss_nil) (pss_cons (ps_set (i := 4) sc_law_follow.nd rfl (.inl rfl) (pe_bm PySem.F.plainAttrs_list PySem.F.slot_list_index PySem.F.type_list_index mt_index (pv 3) (pa_cons (pv 2) pa_nil))) (pss_cons (ps_if (pt_cmpR op_notIn_seq (pv 4) (pe_call G_law_redexes (hr.mono (by first | decide | omega)) (by rfl) g_law_redexes kp_law_redexes b_law_redexes .nil pass0 (pa_cons (pv 0) pa_nil)) (by rfl)) (pss_one (ps_ret pe_non)) pss_nil) (pss_cons (ps_set (i := 0) sc_law_follow.nd rfl (.inl rfl) (pe_call G_law_step (hr.mono (by first | decide | omega)) (by rfl) g_law_step kp_law_step b_law_step .nil pass0 (pa_cons (pv 0) (pa_cons (pv 4) pa_nil)))) (pss_one (ps_if (pt_cmpR op_gt (pe_callB call_len_seq (by rfl) T.n_len (by decide +kernel) (pa_cons (pv 0) pa_nil)) pe_int (nomark _)) (pss_one (ps_ret pe_non)) pss_nil)))))))) (pss_one (ps_ret (pv 0)))), ?_⟩
    refine sl_of (σ2 := [some _, some _, none, none, none]) rfl ?_
    walk_at "st"
    walk_at "go"
    refine for_list (K := K) (a := l) (xs := plcs road) (fun i σ H' => ∃ (x : Addr) (u : Tm) (ms : List Mv) (y1 y2 y3 : Option V), σ = [some (.ref x), some (.ref l), y1, y2, y3] ∧ Ex H H' ∧ SqT K H' x u.enc ∧ u.enc.length ≤ 1000 ∧ u.wf 8 ∧ Run t (road.take i) ms u ∧ Road u (road.drop i)) ⟨a, t, [], none, none, none, rfl, Ex.refl H, hS, hlen, hw, .nil, hroad⟩ (fun i σ H' _ h => by
      obtain ⟨_, _, _, _, _, _, _, e, _⟩ := h
      exact SqL.of (e _ _ hl)) ?_ ?_
    · rintro i v σ H2 hi ⟨x, u, ms, y1, y2, y3, rfl, e2, hx, hul, hwu, hrun, hrd⟩
      obtain ⟨p, hp, rfl⟩ : ∃ p, road[i]? = some p ∧ v = .str (pl p) := by
        rw [List.getElem?_map] at hi
        cases e : road[i]? with
        | none => rw [e] at hi; cases hi
        | some p =>
          rw [e] at hi
          exact ⟨p, rfl, (Option.some.inj hi).symm⟩
      have dr := drop_at hp
      rw [dr] at hrd
      cases hrd with
      | cons hred hrest =>
      obtain ⟨k, b, c, hk⟩ := Tm.isRed_iff.mp hred
      have hl2 := e2 _ _ hl
      obtain ⟨_, hpi⟩ := Tm.sub_at u p [] hk
      simp only [List.nil_append] at hpi
      have mem : p ∈ u.pls [] := List.mem_of_getElem? hpi
      have hb := (red_sti hk).redB
      have hbl := redB_lt hb
      have memk : k ∈ redI u.enc (u.enc.length - 1) := redI_mem.mpr ⟨by omega, hb⟩
      walk_at "go"
      refine ⟨x, u, rfl, hx, by omega, fun H3 pa e3 hpa hpa3 => ?_⟩
      have hx3 := ex_t e3 hx
      walk_at "go"
      rw [decide_eq_true mem]
      walk_at "go"
      refine w_indexS hpa3 (Tm.pls_order u []) hpi ?_
      walk_at "go"
      refine ⟨x, u.enc, rfl, hx3, nodes_enc u, by omega, fun H4 pr e4 hpr hpr4 => ?_⟩
      have hx4 := ex_t e4 hx3
      walk_at "go"
      rw [decide_eq_true memk]
      walk_at "go"
      refine ⟨x, u, p, k, b, c, rfl, hx4, hk, by omega, fun H5 x5 xs e5 hx5 hv5 => ?_⟩
      have ee := ((e2.trans e3).trans e4).trans e5
      have w5 := Tm.wfA_step hk hwu
      have xl : xs.length ≤ 2000000 := by
        rcases hv5 with rfl | ⟨_, h, _⟩
        · have := Tm.step_le u p
          have h6 : u.enc.length * u.enc.length ≤ 1000 * 1000 := Nat.mul_le_mul (by omega) (by omega)
          omega
        · omega
      walk_at "go"
      refine w_br (fun h1 => ?_) (fun h1 => ?_)
      · walk_at "go"
        refine qn (fun ms2 v2 h2 => ?_) H5 ee
        rw [show road = road.take i ++ road.drop i from (List.take_append_drop ..).symm, dr] at h2
        obtain ⟨ns1, u2, ns2, _, g1, g2⟩ := run_split h2
        obtain ⟨rfl, _⟩ := run_end hrun g1
        cases g2 with
        | cons _ hf _ =>
          have := fits_len hf
          rcases hv5 with rfl | ⟨_, _, h, _⟩
          · omega
          · omega
      · have exs : xs = (u.step p).enc := by
          rcases hv5 with h | ⟨h, _⟩
          · exact h
          · omega
        subst exs
        have hf : fitsV (u.step p).enc = true := by
          rw [fitsA_w8 w5]
          exact decide_eq_true (by omega)
        have tk : road.take (i + 1) = road.take i ++ [p] := by rw [List.take_add_one, hp]; rfl
        walk_at "go"
        refine ⟨x5, u.step p, _, _, _, _, rfl, ee, hx5, by omega, w5, by rw [tk]; exact hrun.snoc hk hf, hrest⟩
    · rintro σ H2 ⟨x, u, ms, y1, y2, y3, rfl, e2, hx, hul, hwu, hrun, hrd⟩
      walk_at "go"
      have : road.take (plcs road).length = road := List.take_of_length_le (by simp)
      rw [this] at hrun
      exact q ms u hrun H2 x e2 hx
def spFirst97 (K : PySem.W.Frag) : Sp := fun vs H Q _ => ∃ (a : Addr) (t : Tm) (n : Nat), vs = [.ref a, .int (n : Int)] ∧ SqT K H a t.enc ∧ t.enc.length ≤ 1000 ∧ t.wf 8 ∧ n ≤ 1000 ∧
  ∀ r wk, Tm.nf n t = (r, wk) → (wk ≠ .large → ∀ H' p, Ex H H' → H p = none → H' p = some (.lst (plcs r)) → Q (.ref p) H') ∧ (wk = .large → ∀ H', Ex H H' → Q .non H')
theorem ok_lfirst97 {f : Addr} {fd : FuncData} (F : Fun K "_law_first" "_law_first" s_law_first f fd) (T : Txt w K mg tk cl)
    (D1 : Def P w K mg base CX0 1 "_law_places" ["term"] (spLPlaces K)) (D2 : Def P w K mg base CX0 1 "_law_redexes" ["term"] (spLRedx K)) (D3 : Def P w K mg base CX0 4 "_law_step" ["term", "at"] (spLStep97 K)) : FnOk P w K mg base CX0 5 f fd ["term", "count"] (spFirst97 K) := by
  obtain ⟨f1, fd1, g_law_places, kp_law_places, b_law_places, G_law_places⟩ := D1
  obtain ⟨f2, fd2, g_law_redexes, kp_law_redexes, b_law_redexes, G_law_redexes⟩ := D2
  obtain ⟨f3, fd3, g_law_step, kp_law_step, b_law_step, G_law_step⟩ := D3
  refine F.ok sc_law_first (fun vs H Q E h => ?_) (fun cdv A outer s H vs Q E hr h => ?_)
  · obtain ⟨a, t, n, rfl, _⟩ := h
    rfl
  · obtain ⟨a, t, n, rfl, hS, hlen, hw, hn, q⟩ := h
    obtain ⟨r, wk, e⟩ : ∃ r wk, Tm.nf n t = (r, wk) := ⟨_, _, rfl⟩
    obtain ⟨q1, q2⟩ := q r wk e
    refine ⟨_, (pss_cons (ps_set (i := 2) sc_law_first.nd rfl (.inl rfl) (pe_lst pa_nil)) (pss_cut (ps_for PassesOwn.never rfl (pi_range1 (by rfl) T.n_range (pa_cons (pv 1) pa_nil)) (pg_name (i := 3) sc_law_first.nd rfl (.inl rfl)) (pss_cons (ps_set (i := 4) sc_law_first.nd rfl (.inl rfl) (pe_call G_law_redexes (hr.mono (by first | decide | omega)) (by rfl) g_law_redexes kp_law_redexes b_law_redexes .nil pass0 (pa_cons (pv 0) pa_nil))) (pss_cons (ps_if (pt_cmpR (op_eqD hr.units) (pv 4) (pe_lst pa_nil) (nomark _)) (pss_one ps_break) pss_nil) (pss_cons (ps_expr (pe_bm PySem.F.plainAttrs_list PySem.F.slot_list_append PySem.F.type_list_append mt_append (pv 2) (pa_cons (pe_ix ix_list (pe_call G_law_places (hr.mono (by first | decide | omega)) (by rfl) g_law_places kp_law_places b_law_places .nil pass0 (pa_cons (pv 0) pa_nil)) (pe_ix ix_list (pv 4) pe_int (fun _ _ => rfl)) (fun _ _ => rfl)) pa_nil))) (pss_cons (ps_set (i := 0) sc_law_first.nd rfl (.inl rfl) (pe_call G_law_step (hr.mono (by first | decide | omega)) (by rfl) g_law_step kp_law_step b_law_step .nil pass0 (pa_cons (pv 0) (pa_cons (pe_ix ix_list (pv 4) pe_int (fun _ _ => rfl)) pa_nil)))) (pss_one (ps_if (pt_cmpR op_gt (pe_callB call_len_seq (by rfl) T.n_len (by decide +kernel) (pa_cons (pv 0) pa_nil)) pe_int (nomark _)) (pss_one (ps_ret pe_non)) pss_nil))))))) (pss_one (ps_ret (pv 2))))), ?_⟩
    refine sl_of (σ2 := [some _, some _, none, none, none]) rfl ?_
    walk_at "st"
    walk_at "go"
    intro rl hrl
    walk_at "go"
    refine w_cut (M := fun σ' H' => ∃ (x : Addr) (y1 y2 : Option V), σ' = [some (.ref x), some (.int (n : Int)), some (.ref rl), y1, y2] ∧ Ex H H' ∧ H' rl = some (.lst (plcs r)) ∧ wk ≠ .large) ?_ ?_
    rotate_left
    · rintro σ' H' ⟨x, y1, y2, rfl, e2, hr2, hwk⟩
      walk_at "go"
      exact q1 hwk H' rl e2 hrl hr2
    have e0 := Ex.new hrl (o := .lst [])
    have h00 : upd H rl (.lst []) rl = some (.lst (plcs [])) := upd_same
    have hS0 := ex_t e0 hS
    generalize upd H rl (.lst []) = H0 at *
    walk_at "go"
    refine for_range (lo := 0) (n := (n : Int).toNat) (fun i σ H' => ∃ (x : Addr) (u : Tm) (rd : List (List Nat)) (y1 y2 : Option V), σ = [some (.ref x), some (.int (n : Int)), some (.ref rl), y1, y2] ∧ Ex H H' ∧ SqT K H' x u.enc ∧ u.enc.length ≤ 1000 ∧ u.wf 8 ∧ H' rl = some (.lst (plcs rd)) ∧ rd.length = i ∧ Tm.nf n t = preW rd (Tm.nf (n - i) u)) ⟨a, t, [], none, none, rfl, e0, hS0, hlen, hw, h00, rfl, rfl⟩ ?_ ?_
    · rintro i σ H2 hi ⟨x, u, rd, y1, y2, rfl, e2, hx, hul, hwu, hr2, hrl2, hnf⟩
      obtain ⟨k, hk⟩ : ∃ k, n - i = k + 1 := ⟨n - i - 1, by omega⟩
      rw [hk] at hnf
      walk_at "go"
      refine ⟨x, u.enc, rfl, hx, nodes_enc u, by omega, fun H3 dl e3 hdl hd3 => ?_⟩
      have hx3 := ex_t e3 hx
      have hr3 := e3 _ _ hr2
      have ee3 := e2.trans e3
      walk_at "go"
      intro p0 hp0
      have e4 := Ex.new hp0 (o := .lst [])
      have h04 : upd H3 p0 (.lst []) p0 = some (.lst []) := upd_same
      have hx4 := ex_t e4 hx3
      have hd4 := e4 _ _ hd3
      have hr4 := e4 _ _ hr3
      have ee4 := ee3.trans e4
      generalize upd H3 p0 (.lst []) = H4 at *
      refine w_eqL (SqL.of hd4) (SqL.of h04) (nds_nums _) nds_nil ?_
      have rm := reds_map u
      cases er : redI u.enc (u.enc.length - 1) with
      | nil =>
        rw [er] at rm
        rw [decide_eq_true (show nums [] = [] from rfl)]
        rw [Tm.nf_none rm] at hnf
        rw [hnf] at e
        obtain ⟨e1, e2'⟩ := Prod.mk.inj (show (rd ++ [], Wk.done u) = (r, wk) from e)
        rw [List.append_nil] at e1
        subst e1 e2'
        walk_at "go"
        exact ⟨x, _, _, rfl, ee4, hr4, fun z => nomatch z⟩
      | cons j js =>
        rw [er] at rm hd4
        rw [decide_eq_false (show ¬ nums (j :: js) = [] from fun z => nomatch z)]
        have memj : j ∈ redI u.enc (u.enc.length - 1) := by rw [er]; exact List.mem_cons_self
        obtain ⟨hj1, hjb⟩ := redI_mem.mp memj
        obtain ⟨b, c, hred⟩ := red_of_redB hjb
        walk_at "go"
        have hpj : (u.pls [])[j]? = some (plc u j) := by
          have := (Tm.sub_at u _ [] hred).2
          simpa using this
        refine ⟨x, u, rfl, hx4, by omega, fun H5 pa e5 hpa hpa5 => ?_⟩
        have hx5 := ex_t e5 hx4
        have hd5 := e5 _ _ hd4
        have hr5 := e5 _ _ hr4
        walk_at "go"
        refine w_ixL (SqL.of hd5) (at_of (j := 0) (by omega) (show (nums (j :: js))[0]? = some (.int (j : Int)) from rfl)) ?_
        walk_at "go"
        refine w_ixL (SqL.of hpa5) (at_of (j := j) (by omega) (show (plcs (u.pls []))[j]? = some (.str (pl (plc u j))) by rw [List.getElem?_map, hpj]; rfl)) ?_
        walk_at "go"
        have er6 : plcs rd ++ [V.str (pl (plc u j))] = plcs (rd ++ [plc u j]) := by simp [plcs]
        rw [er6]
        have rd0 : rl ≠ dl := ne_of_none hr2 hdl
        have hx6 : SqT K (upd H5 rl (.lst (plcs (rd ++ [plc u j])))) x u.enc := sqT_lst hx5 hr5
        have hd6 : upd H5 rl (.lst (plcs (rd ++ [plc u j]))) dl = some (.lst (nums (j :: js))) := by rw [upd_ne rd0.symm]; exact hd5
        have hr6 : upd H5 rl (.lst (plcs (rd ++ [plc u j]))) rl = some (.lst (plcs (rd ++ [plc u j]))) := upd_same
        have ee6 : Ex H (upd H5 rl (.lst (plcs (rd ++ [plc u j])))) := (ee4.trans e5).mut hrl
        generalize upd H5 rl (.lst (plcs (rd ++ [plc u j]))) = H6 at *
        refine w_ixL (SqL.of hd6) (at_of (j := 0) (by omega) (show (nums (j :: js))[0]? = some (.int (j : Int)) from rfl)) ?_
        walk_at "go"
        refine ⟨x, u, plc u j, j, b, c, rfl, hx6, hred, by omega, fun H7 x7 xs e7 hx7 hv7 => ?_⟩
        have w7 := Tm.wfA_step hred hwu
        have xl : xs.length ≤ 2000000 := by
          rcases hv7 with rfl | ⟨_, h, _⟩
          · have := Tm.step_le u (plc u j)
            have h6 : u.enc.length * u.enc.length ≤ 1000 * 1000 := Nat.mul_le_mul (by omega) (by omega)
            omega
          · omega
        walk_at "go"
        refine w_br (fun h1 => ?_) (fun h1 => ?_)
        · have hf : fitsV (u.step (plc u j)).enc = false := by
            rw [fitsA_w8 w7]
            refine decide_eq_false ?_
            rcases hv7 with rfl | ⟨_, _, h, _⟩
            · omega
            · omega
          rw [Tm.nf_large rm hf] at hnf
          rw [hnf] at e
          have e2' := (Prod.mk.inj (show (rd ++ [plc u j], Wk.large) = (r, wk) from e)).2
          walk_at "go"
          exact q2 e2'.symm H7 (ee6.trans e7)
        · have exs : xs = (u.step (plc u j)).enc := by
            rcases hv7 with h | ⟨h, _⟩
            · exact h
            · omega
          subst exs
          have hf : fitsV (u.step (plc u j)).enc = true := by
            rw [fitsA_w8 w7]
            exact decide_eq_true (by omega)
          rw [Tm.nf_step rm hf, preW_app] at hnf
          walk_at "go"
          exact ⟨x7, u.step (plc u j), rd ++ [plc u j], _, _, rfl, ee6.trans e7, hx7, by omega, w7, e7 _ _ hr6, by simp [hrl2], by rw [show n - (i + 1) = k by omega]; exact hnf⟩
    · rintro σ H2 ⟨x, u, rd, y1, y2, rfl, e2, hx, hul, hwu, hr2, hrl2, hnf⟩
      rw [show n - (n : Int).toNat = 0 by omega] at hnf
      walk_at "go"
      have h0 : Tm.nf 0 u = ([], (Tm.nf 0 u).2) ∧ (Tm.nf 0 u).2 ≠ .large := by
        cases er : u.reds [] with
        | nil =>
          rw [Tm.nf_none er]
          exact ⟨rfl, fun z => nomatch z⟩
        | cons p ps =>
          rw [Tm.nf_zero er]
          exact ⟨rfl, fun z => nomatch z⟩
      rw [h0.1] at hnf
      rw [hnf] at e
      obtain ⟨e1, e2'⟩ := Prod.mk.inj (show (rd ++ [], (Tm.nf 0 u).2) = (r, wk) from e)
      rw [List.append_nil] at e1
      subst e1 e2'
      exact ⟨x, _, _, rfl, e2, hr2, h0.2⟩
end
end Ly
set_option Elab.async false
set_option linter.all false
set_option maxRecDepth 100000
set_option maxHeartbeats 8000000
namespace Ly
open PySem PySem.Spec PyProof.Rows L2 Evl
local macro_rules | `(tactic| walk_at "ne") => `(tactic| first
  | assumption
  | ((refine' Ne.symm ?hq); (case hq => assumption))
  | ((refine' ne_of_none ?nh1 ?nh2); (case nh2 => assumption); (case nh1 => walk_at "hp"))
  | ((refine' Ne.symm (ne_of_none ?nh1 ?nh2)); (case nh2 => assumption); (case nh1 => walk_at "hp")))
local macro_rules | `(tactic| walk_at "hp") => `(tactic| first
  | assumption
  | exact upd_same
  | ((refine' SqL.of ?hq); (case hq => walk_at "hp"))
  | ((refine' SqT.of ?hq); (case hq => walk_at "hp"))
  | ((refine' (upd_ne ?hne).trans ?hrest); (case hne => walk_at "ne"); (case hrest => walk_at "hp"))
  | ((refine' ly_at ?hex ?hh); (case hex => assumption); (case hh => walk_at "hp"))
  | ((refine' ly_atF ?hex ?hnn ?hh); (case hex => assumption); (case hh => walk_at "hp"); (case hnn => walk_at "ne"))
  | ((refine' ex_t ?hex ?hh); (case hh => assumption); (case hex => walk_at "ex"))
  | ((refine' ex_l ?hex ?hh); (case hh => assumption); (case hex => walk_at "ex")))
local macro_rules | `(tactic| walk_at "ex") => `(tactic| first
  | assumption
  | exact Ex.refl _
  | ((refine' ex_new ?xa ?xb); (case xb => assumption); (case xa => walk_at "ex"))
  | ((refine' ex_upd ?xa ?xb); (case xb => walk_at "free"); (case xa => walk_at "ex"))
  | ((refine' Ex.trans ?xa ?xb); (case xb => assumption); (case xa => walk_at "ex")))
local macro_rules | `(tactic| walk_at "free") => `(tactic| first
  | assumption
  | ((refine' fresh_back ?xa ?xb); (case xb => assumption); (case xa => walk_at "ex")))
local macro_rules | `(tactic| walk_at "fr") => `(tactic| first
  | assumption
  | exact Fr.refl _ _
  | ((refine' Fr.own ?hq); (case hq => walk_at "fr"))
  | ((refine' Fr.new ?xa ?xb); (case xb => assumption); (case xa => walk_at "fr"))
  | ((refine' Fr.mut ?xa ?xb); (case xb => assumption); (case xa => walk_at "fr"))
  | ((refine' Fr.trans ?xa ?xb); (case xb => assumption); (case xa => walk_at "fr"))
  | ((refine' Fr.trans ?xa (Fr.ex ?xb)); (case xb => assumption); (case xa => walk_at "fr")))
local macro_rules | `(tactic| walk_at "go1") => `(tactic| first
  | (with_reducible refine' w_seq ?_)
  | (with_reducible refine' w_asg ?_)
  | (with_reducible refine' w_ret ?_)
  | (with_reducible refine' w_drop ?_)
  | (with_reducible refine' w_if ?_)
  | (with_reducible refine' w_next ?_)
  | (with_reducible refine' w_name ?_)
  | (with_reducible refine' w_sub ?_)
  | ((with_reducible refine' w_var ?hv ?_); (case hv => exact rfl))
  | (with_reducible refine' w_c ?_)
  | (with_reducible refine' w_op ?_)
  | (with_reducible refine' w_un ?_)
  | (with_reducible refine' w_ch ?_)
  | (with_reducible refine' w_I0 ?_)
  | ((with_reducible refine' w_I ?hc ?_); (case hc => first | (exact ly_mulL (by decide) (by decide)) | (exact ly_mulR (by decide) (by decide)) | (exact ly_mulL (by omega) (by omega)) | (show (_ : Int) ≠ 0; decide) | (show (_ : Int) ≠ 0; omega) | (exact ⟨by decide, by decide⟩) | (exact ⟨by omega, by omega⟩)))
  | (with_reducible refine' w_U ?_)
  | ((with_reducible refine' w_eq ?hs ?_); (case hs => exact rfl))
  | ((with_reducible refine' w_ne ?hs ?_); (case hs => exact rfl))
  | (with_reducible refine' w_isB ?_)
  | (with_reducible refine' w_notB ?_)
  | (with_reducible refine' w_nil ?_)
  | (with_reducible refine' w_cons ?_)
  | (with_reducible refine' w_tup ?_)
  | (with_reducible refine' w_lst ?_)
  | (with_reducible refine' w_cb ?_)
  | (with_reducible refine' w_call ?_)
  | (with_reducible refine' w_bm ?_)
  | (with_reducible refine' w_bm0 ?_)
  | ((with_reducible refine' w_app ?hh ?hz ?_); (case hh => walk_at "hp"); (case hz => first | exact ly_lt (by omega) | exact ly_lt (by simp only [List.length_append, List.length_map, List.length_cons, List.length_nil]; omega)))
  | ((with_reducible refine' w_popA ?hh ?_); (case hh => walk_at "hp"))
  | ((with_reducible refine' w_ext ?hh ?hh2 ?hz ?_); (case hh => walk_at "hp"); (case hh2 => walk_at "hp"))
  | ((with_reducible refine' w_ixL ?hh ?ha ?_); (case hh => walk_at "hp"); (case ha => first | exact rfl | exact at_map (by omega) | exact atI_last _ _ | ((refine' at_of ?ae ?ah); (case ah => assumption); (case ae => omega))))
  | ((with_reducible refine' w_ixT ?hh ?ha ?_); (case hh => walk_at "hp"); (case ha => first | exact rfl | exact at_map (by omega) | exact atI_last _ _ | ((refine' at_of ?ae ?ah); (case ah => assumption); (case ae => omega))))
  | ((with_reducible refine' w_cat ?hh ?hh2 ?hz ?_); (case hh => walk_at "hp"); (case hh2 => walk_at "hp"))
  | ((with_reducible refine' w_setL ?hh ?ha ?_); (case hh => walk_at "hp"); (case ha => exact rfl))
  | (with_reducible refine' w_test ?_)
  | (with_reducible refine' w_tB ?_)
  | (with_reducible refine' w_bl ?_)
  | (with_reducible refine' w_and ?_)
  | (with_reducible refine' w_or ?_)
  | (with_reducible refine' w_not ?_)
  | (with_reducible refine' w_andV ?_)
  | (with_reducible refine' w_orV ?_)
  | (with_reducible refine' w_notV ?_)
  | (with_reducible refine' w_ifE ?_)
  | (with_reducible refine' w_for ?_)
  | ((with_reducible refine' w_nin ?hh ?_); (case hh => walk_at "hp"))
  | ((with_reducible refine' w_sorted ?hh ?_); (case hh => walk_at "hp"))
  | (with_reducible refine' w_tsadd ?_)
  | ((with_reducible refine' w_tsadd1 ?hh ?_); (case hh => walk_at "hp"))
  | ((with_reducible refine' w_sadd ?hh ?hr ?_); (case hh => walk_at "hp"); (case hr => omega))
  | (with_reducible refine' w_iZ ?_)
  | ((with_reducible refine' w_iZ1 ?hh ?hh2 ?_); (case hh => walk_at "hp"); (case hh2 => walk_at "hp"))
  | (with_reducible refine' w_iS ?_)
  | (with_reducible refine' w_iS1 ?_)
  | ((with_reducible refine' w_gtup ?hh ?hn ?_); (case hh => walk_at "hp"); (case hn => exact rfl))
  | (with_reducible refine' w_gcons ?_)
  | (with_reducible refine' w_gnil ?_)
  | (with_reducible refine' w_js ?_)
  | (with_reducible refine' w_jsn ?_)
  | ((with_reducible refine' w_js1 ?hl ?_); (case hl => decide +kernel))
  | (with_reducible refine' w_fmt ?_)
  | ((with_reducible refine' w_fmt1 ?hl ?_); (case hl => decide +kernel))
  | (with_reducible refine' w_callS ?_)
  | ((with_reducible refine' w_truL ?hh ?_); (case hh => walk_at "hp"))
  | (with_reducible refine' w_lc ?_)
  | (with_reducible refine' w_yes ?_)
  | ((with_reducible refine' w_wipe ?he ?_); (case he => exact rfl))
  | (with_reducible refine' w_iL ?_)
  | (with_reducible refine' w_iT ?_)
  | (with_reducible refine' w_iR ?_)
  | ((with_reducible refine' w_iL1 ?hh ?_); (case hh => walk_at "hp"))
  | ((with_reducible refine' w_iT1 ?hh ?_); (case hh => walk_at "hp"))
  | ((with_reducible refine' w_iR1 ?h1 ?h2 ?_); (case h1 => omega); (case h2 => omega))
  | ((with_reducible refine' w_aug ?hv ?_); (case hv => exact rfl))
  | (with_reducible refine' w_ipI ?_)
  | ((with_reducible refine' w_isi ?hy ?hk ?_); (case hy => walk_at "ty"); (case hk => walk_at "kit"))
  | ((with_reducible refine' w_int ?_))
  | ((with_reducible refine' w_intB ?_))
  | ((with_reducible refine' w_abs ?_))
  | ((with_reducible refine' w_lenL ?hh ?_); (case hh => walk_at "hp"))
  | ((with_reducible refine' w_lenT ?hh ?_); (case hh => walk_at "hp"))
  | ((with_reducible refine' w_tupL ?hh ?_); (case hh => walk_at "hp"))
  | ((with_reducible refine' w_tupT ?hh ?_); (case hh => walk_at "hp"))
  | ((with_reducible refine' w_catA ?hh ?hh2 ?hz ?_); (case hh => walk_at "hp"); (case hh2 => walk_at "hp"); (case hz => walk_at "len"))
  | ((with_reducible refine' w_repB ?hh ?hne ?h2 ?h3 ?hz ?_); (case hh => walk_at "hp"); (case hne => simp); (case h2 => omega); (case h3 => omega); (case hz => exact Nat.le_of_ble_eq_true rfl))
  | ((with_reducible refine' w_eqN ?hh ?hh2 ?n1 ?n2 ?_); (case hh => walk_at "hp"); (case hh2 => walk_at "hp"); (case n1 => walk_at "nd"); (case n2 => walk_at "nd"))
  | ((with_reducible refine' w_neN ?hh ?hh2 ?n1 ?n2 ?_); (case hh => walk_at "hp"); (case hh2 => walk_at "hp"); (case n1 => walk_at "nd"); (case n2 => walk_at "nd"))
  | ((with_reducible refine' w_eqL ?hh ?hh2 ?n1 ?n2 ?_); (case hh => walk_at "hp"); (case hh2 => walk_at "hp"); (case n1 => walk_at "nd"); (case n2 => walk_at "nd"))
  | ((with_reducible refine' w_neL ?hh ?hh2 ?n1 ?n2 ?_); (case hh => walk_at "hp"); (case hh2 => walk_at "hp"); (case n1 => walk_at "nd"); (case n2 => walk_at "nd"))
  | ((with_reducible refine' w_neNon ?hh2 ?n2 ?_); (case hh2 => walk_at "hp"); (case n2 => walk_at "nd"))
  | ((with_reducible refine' w_eqNon ?hh2 ?n2 ?_); (case hh2 => walk_at "hp"); (case n2 => walk_at "nd"))
  | ((with_reducible refine' w_slA ?hh ?_); (case hh => walk_at "hp"))
  | ((with_reducible refine' w_disp ?hz ?_); (case hz => exact sz_of (Nat.le_of_ble_eq_true rfl)))
  | ((with_reducible refine' w_tyL ?hh ?_); (case hh => walk_at "hp"))
  | (with_reducible refine' iteT ?_)
  | (with_reducible refine' iteF ?_)
  | (with_reducible refine' w_nT ?_)
  | (with_reducible refine' w_nn ?_)
  | (with_reducible refine' w_nnT ?_)
  | (with_reducible refine' w_nnR ?_)
  | (with_reducible refine' w_neG ?_)
  | (with_reducible refine' w_eqG ?_)
  | (with_reducible refine' w_neS ?_)
  | (with_reducible refine' w_eqS ?_)
  | (with_reducible refine' w_neSb ?_)
  | (with_reducible refine' w_eqSb ?_)
  | (with_reducible refine' w_deIS ?_)
  | (with_reducible refine' w_deSI ?_)
  | (with_reducible refine' w_deISn ?_)
  | ((with_reducible refine' w_deST ?he ?_); (case he => decide +kernel))
  | ((with_reducible refine' w_deSF ?he ?_); (case he => decide +kernel))
  | ((with_reducible refine' w_deSTn ?he ?_); (case he => decide +kernel))
  | ((with_reducible refine' w_deSFn ?he ?_); (case he => decide +kernel))
  | (with_reducible refine' w_nF ?_)
  | dsimp only [Bool.not_true, Bool.not_false])
local macro_rules | `(tactic| walk_at "ty") => `(tactic| first
  | exact .base (.int _) | exact .base (.str _) | exact .base (.bl _) | exact .base .non
  | ((refine' tyx_t ?hq); (case hq => walk_at "hp")) | ((refine' tyx_l ?hq); (case hq => walk_at "hp")) | ((refine' .base (.tup ?hq)); (case hq => walk_at "hp")) | assumption)
local macro_rules | `(tactic| walk_at "go") => `(tactic| repeat walk_at "go1")
local macro_rules | `(tactic| walk_at "st") => `(tactic| try dsimp only [cxOf, Cx.nox, Cx.wish])
local macro_rules | `(tactic| walk_at "kit") => `(tactic| with_reducible first | exact kit_int_int | exact kit_int_str | exact kit_int_bool | exact kit_int_tuple | exact kit_int_list | exact kit_str_int | exact kit_str_str | exact kit_str_bool | exact kit_str_tuple | exact kit_str_list | exact kit_bool_int | exact kit_bool_str | exact kit_bool_bool | exact kit_bool_tuple | exact kit_bool_list | exact kit_NoneType_int | exact kit_NoneType_str | exact kit_NoneType_bool | exact kit_NoneType_tuple | exact kit_NoneType_list | exact kit_list_int | exact kit_list_str | exact kit_list_bool | exact kit_list_tuple | exact kit_list_list | exact kit_tuple_int | exact kit_tuple_str | exact kit_tuple_bool | exact kit_tuple_tuple | exact kit_tuple_list)
local macro_rules | `(tactic| walk_at "nd") => `(tactic| first
  | assumption
  | exact Tm.nds _
  | exact Nds.nil
  | exact Nds.ofInts _
  | ((refine' Nds.cons ?na ?nb); (case na => first | exact Nds.I _ | exact Nds.L | exact Nds.A); (case nb => walk_at "nd"))
  | ((refine' Nds.app ?na ?nb); (case na => walk_at "nd"); (case nb => walk_at "nd"))
  | ((refine' Nds.rep ?na _); (case na => walk_at "nd")))
local macro_rules | `(tactic| walk_at "len") => `(tactic| first
  | exact ly_sz (by omega)
  | ((simp only [List.length_append, List.length_cons, List.length_nil, List.length_map, PyProof.Rows.lm_len_rep_flat]); exact ly_sz (by omega)))
local macro_rules | `(tactic| walk_at "go1") => `(tactic| first
  | (with_reducible refine' w_kget2 ?_)
  | (with_reducible refine' w_isRN ?_)
  | (with_reducible refine' w_isNN ?_)
  | (with_reducible refine' w_isIN ?_)
  | ((with_reducible refine' w_kg ?hd ?_); (case hd => assumption)))
local macro_rules | `(tactic| walk_at "go1") => `(tactic| first
  | ((with_reducible refine' w_extT ?hh ?hh2 ?hz ?_); (case hh => walk_at "hp"); (case hh2 => walk_at "hp"))
  | ((with_reducible refine' w_I ?hc ?_); (case hc => exact ⟨by decide, by decide, by decide⟩))
  | (with_reducible refine' w_sl ?_)
  | (with_reducible refine' w_noP ?_)
  | (with_reducible refine' w_part ?_)
  | (with_reducible refine' w_part1 ?_)
  | (with_reducible refine' w_it ?_)
  | (with_reducible refine' w_it1 ?_)
  | ((with_reducible refine' w_lenZ ?hz ?_); (case hz => omega))
  | ((with_reducible refine' w_addZb ?hz ?_); (case hz => omega))
  | ((with_reducible refine' w_addZf ?hz ?_); (case hz => omega))
  | ((with_reducible refine' w_addZa ?hz ?_); (case hz => omega))
  | ((with_reducible refine' w_inS ?hh ?_); (case hh => walk_at "hp"))
  | ((with_reducible refine' w_ixT ?hh ?ha ?_); (case hh => assumption); (case ha => exact atI_nat (by assumption))))
section
variable {P : Program} {w : World} {K : PySem.W.Frag} {mg : Str → Option Value} {base : Heap} {tk : Nat → Tok} {cl : Nat → Addr}
theorem Tm.wf_mono : ∀ {t : Tm} {d e : Nat}, d ≤ e → t.wf d → t.wf e
  | .var n, d, e, h, w => Nat.lt_of_lt_of_le w h
  | .lam b, d, e, h, w => Tm.wf_mono (t := b) (Nat.succ_le_succ h) w
  | .app f a, d, e, h, w => ⟨Tm.wf_mono (t := f) h w.1, Tm.wf_mono (t := a) h w.2⟩
def spInner97 (K : PySem.W.Frag) (n : Nat) : Sp := fun vs H Q _ => ∃ (s : Addr) (m : Stm) (size : Nat), vs = [.ref s, .int size] ∧ StAt H s m ∧ size < n ∧ size ≤ 100 ∧ ∀ H' p m' (t : Tm), Fr s H H' → StAt H' s m' → SqT K H' p t.enc → t.wf 1 → t.enc.length ≤ 2 * size + 1 → Q (.ref p) H'
theorem ok_inner97 {f : Addr} {fd : FuncData} (F : Fun K "_law_inner" "_law_inner" s_law_inner f fd) (T : Txt w K mg tk cl) (D1 : Def P w K mg base CX0 1 "_law_draw" ["stream", "many"] spDraw)
    (g_law_inner : mg "_law_inner" = some (.ref f)) (kp_law_inner : PySem.W.keepIn K (.ref f) = true) (b_law_inner : Binds K fd ["stream", "size"] []) : ∀ n, FnOk P w K mg base CX0 (n + 1) f fd ["stream", "size"] (spInner97 K n) := by
  obtain ⟨f1, fd1, g_law_draw, kp_law_draw, b_law_draw, G_law_draw⟩ := D1
  intro n
  induction n with
  | zero =>
    refine ⟨fun vs H Q E h => ?_, fun A outer s H args us vs Q E _ _ _ _ h => ?_⟩
    · obtain ⟨_, _, _, _, _, h, _⟩ := h
      exact absurd h (Nat.not_lt_zero _)
    · obtain ⟨_, _, _, _, _, h, _⟩ := h
      exact absurd h (Nat.not_lt_zero _)
  | succ n G_law_inner =>
    refine F.ok sc_law_inner (fun vs H Q E h => ?_) (fun cdv A outer s H vs Q E hr h => ?_)
    · obtain ⟨_, _, _, rfl, _⟩ := h
      rfl
    · obtain ⟨s1, m, size, rfl, st, hn, h2, q⟩ := h
      refine ⟨_, (pss_cons (ps_if (pt_cmpR op_lt (pv 1) pe_int (nomark _)) (pss_one (ps_ret (pe_tup (pa_cons pe_int pa_nil)))) pss_nil) (pss_cons (ps_if (pt_cmpR op_eq (pe_call G_law_draw (hr.mono (by first | decide | omega)) (by rfl) g_law_draw kp_law_draw b_law_draw .nil pass0 (pa_cons (pv 0) (pa_cons pe_int pa_nil))) pe_int (nomark _)) (pss_one (ps_ret (pe_op op_catA (pe_tup (pa_cons pe_str pa_nil)) (pe_call G_law_inner (hr.mono (by first | decide | omega)) (by rfl) g_law_inner kp_law_inner b_law_inner .nil pass0 (pa_cons (pv 0) (pa_cons (pe_op op_sub (pv 1) pe_int) pa_nil)))))) pss_nil) (pss_cons (ps_set (i := 2) sc_law_inner.nd rfl (.inl rfl) (pe_call G_law_draw (hr.mono (by first | decide | omega)) (by rfl) g_law_draw kp_law_draw b_law_draw .nil pass0 (pa_cons (pv 0) (pa_cons (pv 1) pa_nil)))) (pss_one (ps_ret (pe_op op_catA (pe_op op_catA (pe_tup (pa_cons pe_str pa_nil)) (pe_call G_law_inner (hr.mono (by first | decide | omega)) (by rfl) g_law_inner kp_law_inner b_law_inner .nil pass0 (pa_cons (pv 0) (pa_cons (pv 2) pa_nil)))) (pe_call G_law_inner (hr.mono (by first | decide | omega)) (by rfl) g_law_inner kp_law_inner b_law_inner .nil pass0 (pa_cons (pv 0) (pa_cons (pe_op op_sub (pe_op op_sub (pv 1) pe_int) (pv 2)) pa_nil))))))))), ?_⟩
      refine sl_of (σ2 := [some _, some _, none]) rfl ?_
      walk_at "st"
      walk_at "go"
      refine w_br (fun c1 => ?_) (fun c1 => ?_)
      · walk_at "go"
        intro p hp
        exact q _ p _ (.var 0) (Fr.ex (Ex.new hp)) (st.new hp) (SqT.of upd_same) (show 0 < 1 by omega) (by simp only [Tm.enc, List.length_singleton]; omega)
      · walk_at "go"
        refine ⟨s1, m, 3, rfl, st, by decide, by decide, fun H1 fr1 st1 => ?_⟩
        have v1 := m.val_lt (n := 3) (by decide)
        generalize m.val 3 = pick at *
        generalize m.next 3 = m1 at *
        walk_at "go"
        refine w_brI (fun c2 => ?_) (fun c2 => ?_)
        · walk_at "go"
          intro p1 hp1
          walk_at "go"
          refine ⟨s1, m1, size - 1, by rw [show ((size - 1 : Nat) : Int) = (size : Int) - 1 by omega]; rfl, st1.new hp1, by omega, by omega, fun H2 p2 m2 t fr2 st2 hp2 hw hl => ?_⟩
          have hp1b : SqT K H2 p1 [V.str "lam"] := fr_t fr2 (st1.new hp1).2.1 (SqT.of upd_same)
          walk_at "go"
          intro p3 H3 e3 hp3
          walk_at "go"
          exact q _ p3 m2 (.lam t) (fr1.trans ((Fr.ex (Ex.new hp1)).trans (fr2.trans (Fr.ex e3)))) (st2.ex e3) hp3 (Tm.wf_mono (t := t) (by decide) hw) (by simp only [Tm.enc, List.length_cons]; omega)
        · walk_at "go"
          refine ⟨s1, m1, (size : Int), rfl, st1, by omega, by omega, fun H2 fr2 st2 => ?_⟩
          have v2 := m1.val_lt (n := (size : Int)) (by omega)
          generalize m1.val (size : Int) = hf at *
          generalize m1.next (size : Int) = m2 at *
          have fr12 := fr1.trans fr2
          walk_at "go"
          intro p1 hp1
          walk_at "go"
          refine ⟨s1, m2, hf.toNat, by rw [Int.toNat_of_nonneg (by omega)]; rfl, st2.new hp1, by omega, by omega, fun H3 p2 m3 t fr3 st3 hp2 hw hl => ?_⟩
          have hp1b : SqT K H3 p1 [V.str "app"] := fr_t fr3 (st2.new hp1).2.1 (SqT.of upd_same)
          walk_at "go"
          intro p3 H4 e4 hp3
          have st4 := st3.ex e4
          walk_at "go"
          refine ⟨s1, m3, size - 1 - hf.toNat, by rw [show ((size - 1 - hf.toNat : Nat) : Int) = (size : Int) - 1 - hf by omega]; rfl, st4, by omega, by omega, fun H5 p5 m5 u fr5 st5 hp5 hwu hlu => ?_⟩
          have hp3b := fr_t fr5 st4.2.1 hp3
          walk_at "go"
          intro p6 H6 e6 hp6
          walk_at "go"
          refine q _ p6 m5 (.app t u) (fr12.trans ((Fr.ex (Ex.new hp1)).trans (fr3.trans ((Fr.ex e4).trans (fr5.trans (Fr.ex e6)))))) (st5.ex e6) ?_ ⟨hw, hwu⟩ (by simp only [Tm.enc, List.length_cons, List.length_append]; omega)
          simpa [Tm.enc] using hp6
def spBody97 (K : PySem.W.Frag) (n : Nat) : Sp := fun vs H Q _ => ∃ (s : Addr) (m : Stm) (widest size : Nat), vs = [.ref s, .int widest, .int size] ∧ StAt H s m ∧ size < n ∧ size ≤ 16 ∧ widest + size ≤ 200 ∧ ∀ H' p m' (t : Tm), Fr s H H' → StAt H' s m' → SqT K H' p t.enc → t.wf widest → t.enc.length ≤ 4 * size + 2 → Q (.ref p) H'
/-- so many abstractions over a term -/
def lams97 : Nat → Tm → Tm
  | 0, t => t
  | n + 1, t => .lam (lams97 n t)
theorem lams_enc : ∀ (n : Nat) (t : Tm), (lams97 n t).enc = List.replicate n (V.str "lam") ++ t.enc
  | 0, t => rfl
  | n + 1, t => by
    show V.str "lam" :: (lams97 n t).enc = _
    rw [lams_enc n t, List.replicate_succ]
    rfl
theorem lams_wf : ∀ (n : Nat) {t : Tm} {d : Nat}, t.wf (d + n) → (lams97 n t).wf d
  | 0, t, d, h => h
  | n + 1, t, d, h => lams_wf n (d := d + 1) (by rw [show d + 1 + n = d + (n + 1) by omega]; exact h)
theorem ok_body97 {f : Addr} {fd : FuncData} (F : Fun K "_law_body" "_law_body" s_law_body f fd) (T : Txt w K mg tk cl) (D1 : Def P w K mg base CX0 1 "_law_draw" ["stream", "many"] spDraw) (D2 : Def P w K mg base CX0 18 "_law_inner" ["stream", "size"] (spInner97 K 17))
    (g_law_body : mg "_law_body" = some (.ref f)) (kp_law_body : PySem.W.keepIn K (.ref f) = true) (b_law_body : Binds K fd ["stream", "widest", "size"] []) : ∀ n, FnOk P w K mg base CX0 (n + 18) f fd ["stream", "widest", "size"] (spBody97 K n) := by
  obtain ⟨f1, fd1, g_law_draw, kp_law_draw, b_law_draw, G_law_draw⟩ := D1
  obtain ⟨f2, fd2, g_law_inner, kp_law_inner, b_law_inner, G_law_inner⟩ := D2
  intro n
  induction n with
  | zero =>
    refine ⟨fun vs H Q E h => ?_, fun A outer s H args us vs Q E _ _ _ _ h => ?_⟩
    · obtain ⟨_, _, _, _, _, _, h, _⟩ := h
      exact absurd h (Nat.not_lt_zero _)
    · obtain ⟨_, _, _, _, _, _, h, _⟩ := h
      exact absurd h (Nat.not_lt_zero _)
  | succ n G_law_body =>
    have FO : FnOk P w K mg base CX0 (n + 18 + 1) f fd ["stream", "widest", "size"] (spBody97 K (n + 1)) := by
      refine F.ok sc_law_body (fun vs H Q E h => ?_) (fun cdv A outer s H vs Q E hr h => ?_)
      · obtain ⟨_, _, _, _, rfl, _⟩ := h
        rfl
      · obtain ⟨s1, m, widest, size, rfl, st, hn, h2, h3, q⟩ := h
        refine ⟨_, (pss_cons (ps_if (pt_cmpR op_lt (pv 2) pe_int (nomark _)) (pss_cons (ps_if (pt_cmpR op_eq (pv 1) pe_int (nomark _)) (pss_one (ps_ret (pe_tup (pa_cons pe_str (pa_cons pe_int pa_nil))))) pss_nil) (pss_one (ps_ret (pe_tup (pa_cons (pe_call G_law_draw (hr.mono (by first | decide | omega)) (by rfl) g_law_draw kp_law_draw b_law_draw .nil pass0 (pa_cons (pv 0) (pa_cons (pv 1) pa_nil))) pa_nil))))) pss_nil) (pss_cons (ps_set (i := 3) sc_law_body.nd rfl (.inl rfl) (pe_call G_law_draw (hr.mono (by first | decide | omega)) (by rfl) g_law_draw kp_law_draw b_law_draw .nil pass0 (pa_cons (pv 0) (pa_cons pe_int pa_nil)))) (pss_cons (ps_if (pt_cmpR op_lt (pv 3) pe_int (nomark _)) (pss_one (ps_ret (pe_op op_catA (pe_tup (pa_cons pe_str pa_nil)) (pe_call G_law_body (hr.mono (by first | decide | omega)) (by rfl) g_law_body kp_law_body b_law_body .nil pass0 (pa_cons (pv 0) (pa_cons (pe_op op_add (pv 1) pe_int) (pa_cons (pe_op op_sub (pv 2) pe_int) pa_nil))))))) pss_nil) (pss_cons (ps_set (i := 4) sc_law_body.nd rfl (.inl rfl) (pe_call G_law_draw (hr.mono (by first | decide | omega)) (by rfl) g_law_draw kp_law_draw b_law_draw .nil pass0 (pa_cons (pv 0) (pa_cons (pv 2) pa_nil)))) (pss_cons (ps_if (pt_cmpR op_lt (pv 3) pe_int (nomark _)) (pss_one (ps_ret (pe_op op_catA (pe_op op_catA (pe_tup (pa_cons pe_str pa_nil)) (pe_call G_law_body (hr.mono (by first | decide | omega)) (by rfl) g_law_body kp_law_body b_law_body .nil pass0 (pa_cons (pv 0) (pa_cons (pv 1) (pa_cons (pv 4) pa_nil))))) (pe_call G_law_body (hr.mono (by first | decide | omega)) (by rfl) g_law_body kp_law_body b_law_body .nil pass0 (pa_cons (pv 0) (pa_cons (pv 1) (pa_cons (pe_op op_sub (pe_op op_sub (pv 2) pe_int) (pv 4)) pa_nil))))))) pss_nil) (pss_cons (ps_if (pt_cmpR op_eq (pv 3) pe_int (nomark _)) (pss_one (ps_ret (pe_op op_catA (pe_op op_catA (pe_tup (pa_cons pe_str (pa_cons pe_str pa_nil))) (pe_call G_law_body (hr.mono (by first | decide | omega)) (by rfl) g_law_body kp_law_body b_law_body .nil pass0 (pa_cons (pv 0) (pa_cons (pe_op op_add (pv 1) pe_int) (pa_cons (pv 4) pa_nil))))) (pe_call G_law_body (hr.mono (by first | decide | omega)) (by rfl) g_law_body kp_law_body b_law_body .nil pass0 (pa_cons (pv 0) (pa_cons (pv 1) (pa_cons (pe_op op_sub (pe_op op_sub (pv 2) pe_int) (pv 4)) pa_nil))))))) pss_nil) (pss_one (ps_ret (pe_op op_catA (pe_op op_repB (pe_tup (pa_cons pe_str pa_nil)) (pe_op op_add pe_int (pe_call G_law_draw (hr.mono (by first | decide | omega)) (by rfl) g_law_draw kp_law_draw b_law_draw .nil pass0 (pa_cons (pv 0) (pa_cons pe_int pa_nil))))) (pe_call G_law_inner (hr.mono (by first | decide | omega)) (by rfl) g_law_inner kp_law_inner b_law_inner .nil pass0 (pa_cons (pv 0) (pa_cons (pv 2) pa_nil)))))))))))), ?_⟩
        refine sl_of (σ2 := [some _, some _, some _, none, none]) rfl ?_
        walk_at "st"
        walk_at "go"
        refine w_br (fun c1 => ?_) (fun c1 => ?_)
        · walk_at "go"
          refine w_brI (fun c2 => ?_) (fun c2 => ?_)
          · walk_at "go"
            intro p hp
            exact q _ p _ (.lam (.var 0)) (Fr.ex (Ex.new hp)) (st.new hp) (SqT.of upd_same) (show 0 < _ + 1 by omega) (by simp only [Tm.enc, List.length_cons, List.length_nil]; omega)
          · walk_at "go"
            refine ⟨s1, m, (widest : Int), rfl, st, by omega, by omega, fun H1 fr1 st1 => ?_⟩
            have v1 := m.val_lt (n := (widest : Int)) (by omega)
            walk_at "go"
            intro p hp
            walk_at "go"
            refine q _ p _ (.var (m.val (widest : Int)).toNat) (fr1.trans (Fr.ex (Ex.new hp))) (st1.new hp) (SqT.of ?_) (show _ < _ by omega) (by simp only [Tm.enc, List.length_singleton]; omega)
            rw [upd_same]
            simp only [Tm.enc]
            rw [Int.toNat_of_nonneg v1.1]
        · walk_at "go"
          refine ⟨s1, m, 6, rfl, st, by decide, by decide, fun H1 fr1 st1 => ?_⟩
          have v1 := m.val_lt (n := 6) (by decide)
          generalize m.val 6 = pick at *
          generalize m.next 6 = m1 at *
          walk_at "go"
          refine w_br (fun c2 => ?_) (fun c2 => ?_)
          · walk_at "go"
            intro p1 hp1
            walk_at "go"
            refine ⟨s1, m1, widest + 1, size - 1, by rw [show ((size - 1 : Nat) : Int) = (size : Int) - 1 by omega]; rfl, st1.new hp1, by omega, by omega, by omega, fun H2 p2 m2 t fr2 st2 hp2 hw hl => ?_⟩
            have hp1b : SqT K H2 p1 [V.str "lam"] := fr_t fr2 (st1.new hp1).2.1 (SqT.of upd_same)
            walk_at "go"
            intro p3 H3 e3 hp3
            walk_at "go"
            exact q _ p3 m2 (.lam t) (fr1.trans ((Fr.ex (Ex.new hp1)).trans (fr2.trans (Fr.ex e3)))) (st2.ex e3) hp3 hw (by simp only [Tm.enc, List.length_cons]; omega)
          · walk_at "go"
            refine ⟨s1, m1, (size : Int), rfl, st1, by omega, by omega, fun H2 fr2 st2 => ?_⟩
            have v2 := m1.val_lt (n := (size : Int)) (by omega)
            generalize m1.val (size : Int) = hf at *
            generalize m1.next (size : Int) = m2 at *
            have fr12 := fr1.trans fr2
            walk_at "go"
            refine w_br (fun c3 => ?_) (fun c3 => ?_)
            · walk_at "go"
              intro p1 hp1
              walk_at "go"
              refine ⟨s1, m2, widest, hf.toNat, by rw [Int.toNat_of_nonneg (by omega)]; rfl, st2.new hp1, by omega, by omega, by omega, fun H3 p2 m3 t fr3 st3 hp2 hw hl => ?_⟩
              have hp1b : SqT K H3 p1 [V.str "app"] := fr_t fr3 (st2.new hp1).2.1 (SqT.of upd_same)
              walk_at "go"
              intro p3 H4 e4 hp3
              have st4 := st3.ex e4
              walk_at "go"
              refine ⟨s1, m3, widest, size - 1 - hf.toNat, by rw [show ((size - 1 - hf.toNat : Nat) : Int) = (size : Int) - 1 - hf by omega]; rfl, st4, by omega, by omega, by omega, fun H5 p5 m5 u fr5 st5 hp5 hwu hlu => ?_⟩
              have hp3b := fr_t fr5 st4.2.1 hp3
              walk_at "go"
              intro p6 H6 e6 hp6
              walk_at "go"
              refine q _ p6 m5 (.app t u) (fr12.trans ((Fr.ex (Ex.new hp1)).trans (fr3.trans ((Fr.ex e4).trans (fr5.trans (Fr.ex e6)))))) (st5.ex e6) ?_ ⟨hw, hwu⟩ (by simp only [Tm.enc, List.length_cons, List.length_append]; omega)
              simpa [Tm.enc] using hp6
            · walk_at "go"
              refine w_brI (fun c4 => ?_) (fun c4 => ?_)
              · walk_at "go"
                intro p1 hp1
                have hp1a : SqT K (upd H2 p1 (.tup [V.str (Str.ofString "app"), V.str (Str.ofString "lam")])) p1 [V.str "app", V.str "lam"] := SqT.of upd_same
                walk_at "go"
                refine ⟨s1, m2, widest + 1, hf.toNat, by rw [Int.toNat_of_nonneg (by omega)]; rfl, st2.new hp1, by omega, by omega, by omega, fun H3 p2 m3 t fr3 st3 hp2 hw hl => ?_⟩
                have hp1b : SqT K H3 p1 [V.str "app", V.str "lam"] := fr_t fr3 (st2.new hp1).2.1 hp1a
                walk_at "go"
                intro p3 H4 e4 hp3
                have st4 := st3.ex e4
                walk_at "go"
                refine ⟨s1, m3, widest, size - 1 - hf.toNat, by rw [show ((size - 1 - hf.toNat : Nat) : Int) = (size : Int) - 1 - hf by omega]; rfl, st4, by omega, by omega, by omega, fun H5 p5 m5 u fr5 st5 hp5 hwu hlu => ?_⟩
                have hp3b := fr_t fr5 st4.2.1 hp3
                walk_at "go"
                intro p6 H6 e6 hp6
                walk_at "go"
                refine q _ p6 m5 (.app (.lam t) u) (fr12.trans ((Fr.ex (Ex.new hp1)).trans (fr3.trans ((Fr.ex e4).trans (fr5.trans (Fr.ex e6)))))) (st5.ex e6) ?_ ⟨hw, hwu⟩ (by simp only [Tm.enc, List.length_cons, List.length_append]; omega)
                simpa [Tm.enc] using hp6
              · walk_at "go"
                intro p1 hp1
                walk_at "go"
                refine ⟨s1, m2, 3, rfl, st2.new hp1, by decide, by decide, fun H3 fr3 st3 => ?_⟩
                have v3 := m2.val_lt (n := 3) (by decide)
                have hp1b : SqT K H3 p1 [V.str "lam"] := fr_t fr3 (st2.new hp1).2.1 (SqT.of upd_same)
                generalize m2.val 3 = n3 at *
                generalize m2.next 3 = m3 at *
                walk_at "go"
                intro p4 H4 e4 hp4
                have el : (List.replicate (1 + n3).toNat [V.str (Str.ofString "lam")]).flatten = List.replicate (1 + n3).toNat (V.str "lam") := by simp
                rw [el] at hp4
                have st4 := st3.ex e4
                walk_at "go"
                refine ⟨s1, m3, size, rfl, st4, by omega, by omega, fun H5 p5 m5 t fr5 st5 hp5 hw hl => ?_⟩
                have hp4b := fr_t fr5 st4.2.1 hp4
                refine w_catA hp4b hp5 (ly_sz (by rw [List.length_replicate]; omega)) fun p6 H6 e6 hp6 => ?_
                rw [← lams_enc] at hp6
                refine q _ p6 m5 (lams97 (1 + n3).toNat t) (fr12.trans ((Fr.ex (Ex.new hp1)).trans (fr3.trans ((Fr.ex e4).trans (fr5.trans (Fr.ex e6)))))) (st5.ex e6) hp6 (lams_wf _ (Tm.wf_mono (by omega) hw)) ?_
                rw [lams_enc, List.length_append, List.length_replicate]
                omega
    have e : n + 1 + 18 = n + 18 + 1 := by omega
    rw [e]
    exact FO
end
end Ly
set_option Elab.async false
set_option linter.all false
set_option maxRecDepth 100000
set_option maxHeartbeats 8000000
namespace Ly
open PySem PySem.Spec PyProof.Rows L2 Evl
local macro_rules | `(tactic| walk_at "ne") => `(tactic| first
  | assumption
  | ((refine' Ne.symm ?hq); (case hq => assumption))
  | ((refine' ne_of_none ?nh1 ?nh2); (case nh2 => assumption); (case nh1 => walk_at "hp"))
  | ((refine' Ne.symm (ne_of_none ?nh1 ?nh2)); (case nh2 => assumption); (case nh1 => walk_at "hp")))
local macro_rules | `(tactic| walk_at "hp") => `(tactic| first
  | assumption
  | exact upd_same
  | ((refine' SqL.of ?hq); (case hq => walk_at "hp"))
  | ((refine' SqT.of ?hq); (case hq => walk_at "hp"))
  | ((refine' (upd_ne ?hne).trans ?hrest); (case hne => walk_at "ne"); (case hrest => walk_at "hp"))
  | ((refine' ly_at ?hex ?hh); (case hex => assumption); (case hh => walk_at "hp"))
  | ((refine' ly_atF ?hex ?hnn ?hh); (case hex => assumption); (case hh => walk_at "hp"); (case hnn => walk_at "ne"))
  | ((refine' ex_t ?hex ?hh); (case hh => assumption); (case hex => walk_at "ex"))
  | ((refine' ex_l ?hex ?hh); (case hh => assumption); (case hex => walk_at "ex")))
local macro_rules | `(tactic| walk_at "ex") => `(tactic| first
  | assumption
  | exact Ex.refl _
  | ((refine' ex_new ?xa ?xb); (case xb => assumption); (case xa => walk_at "ex"))
  | ((refine' ex_upd ?xa ?xb); (case xb => walk_at "free"); (case xa => walk_at "ex"))
  | ((refine' Ex.trans ?xa ?xb); (case xb => assumption); (case xa => walk_at "ex")))
local macro_rules | `(tactic| walk_at "free") => `(tactic| first
  | assumption
  | ((refine' fresh_back ?xa ?xb); (case xb => assumption); (case xa => walk_at "ex")))
local macro_rules | `(tactic| walk_at "fr") => `(tactic| first
  | assumption
  | exact Fr.refl _ _
  | ((refine' Fr.own ?hq); (case hq => walk_at "fr"))
  | ((refine' Fr.new ?xa ?xb); (case xb => assumption); (case xa => walk_at "fr"))
  | ((refine' Fr.mut ?xa ?xb); (case xb => assumption); (case xa => walk_at "fr"))
  | ((refine' Fr.trans ?xa ?xb); (case xb => assumption); (case xa => walk_at "fr"))
  | ((refine' Fr.trans ?xa (Fr.ex ?xb)); (case xb => assumption); (case xa => walk_at "fr")))
local macro_rules | `(tactic| walk_at "go1") => `(tactic| first
  | (with_reducible refine' w_seq ?_)
  | (with_reducible refine' w_asg ?_)
  | (with_reducible refine' w_ret ?_)
  | (with_reducible refine' w_drop ?_)
  | (with_reducible refine' w_if ?_)
  | (with_reducible refine' w_next ?_)
  | (with_reducible refine' w_name ?_)
  | (with_reducible refine' w_sub ?_)
  | ((with_reducible refine' w_var ?hv ?_); (case hv => exact rfl))
  | (with_reducible refine' w_c ?_)
  | (with_reducible refine' w_op ?_)
  | (with_reducible refine' w_un ?_)
  | (with_reducible refine' w_ch ?_)
  | (with_reducible refine' w_I0 ?_)
  | ((with_reducible refine' w_I ?hc ?_); (case hc => first | (exact ly_mulL (by decide) (by decide)) | (exact ly_mulR (by decide) (by decide)) | (exact ly_mulL (by omega) (by omega)) | (show (_ : Int) ≠ 0; decide) | (show (_ : Int) ≠ 0; omega) | (exact ⟨by decide, by decide⟩) | (exact ⟨by omega, by omega⟩)))
  | (with_reducible refine' w_U ?_)
  | ((with_reducible refine' w_eq ?hs ?_); (case hs => exact rfl))
  | ((with_reducible refine' w_ne ?hs ?_); (case hs => exact rfl))
  | (with_reducible refine' w_isB ?_)
  | (with_reducible refine' w_notB ?_)
  | (with_reducible refine' w_nil ?_)
  | (with_reducible refine' w_cons ?_)
  | (with_reducible refine' w_tup ?_)
  | (with_reducible refine' w_lst ?_)
  | (with_reducible refine' w_cb ?_)
  | (with_reducible refine' w_call ?_)
  | (with_reducible refine' w_bm ?_)
  | (with_reducible refine' w_bm0 ?_)
  | ((with_reducible refine' w_app ?hh ?hz ?_); (case hh => walk_at "hp"); (case hz => first | exact ly_lt (by omega) | exact ly_lt (by simp only [List.length_append, List.length_map, List.length_cons, List.length_nil]; omega)))
  | ((with_reducible refine' w_popA ?hh ?_); (case hh => walk_at "hp"))
  | ((with_reducible refine' w_ext ?hh ?hh2 ?hz ?_); (case hh => walk_at "hp"); (case hh2 => walk_at "hp"))
  | ((with_reducible refine' w_ixL ?hh ?ha ?_); (case hh => walk_at "hp"); (case ha => first | exact rfl | exact at_map (by omega) | exact atI_last _ _ | ((refine' at_of ?ae ?ah); (case ah => assumption); (case ae => omega))))
  | ((with_reducible refine' w_ixT ?hh ?ha ?_); (case hh => walk_at "hp"); (case ha => first | exact rfl | exact at_map (by omega) | exact atI_last _ _ | ((refine' at_of ?ae ?ah); (case ah => assumption); (case ae => omega))))
  | ((with_reducible refine' w_cat ?hh ?hh2 ?hz ?_); (case hh => walk_at "hp"); (case hh2 => walk_at "hp"))
  | ((with_reducible refine' w_setL ?hh ?ha ?_); (case hh => walk_at "hp"); (case ha => exact rfl))
  | (with_reducible refine' w_test ?_)
  | (with_reducible refine' w_tB ?_)
  | (with_reducible refine' w_bl ?_)
  | (with_reducible refine' w_and ?_)
  | (with_reducible refine' w_or ?_)
  | (with_reducible refine' w_not ?_)
  | (with_reducible refine' w_andV ?_)
  | (with_reducible refine' w_orV ?_)
  | (with_reducible refine' w_notV ?_)
  | (with_reducible refine' w_ifE ?_)
  | (with_reducible refine' w_for ?_)
  | ((with_reducible refine' w_nin ?hh ?_); (case hh => walk_at "hp"))
  | ((with_reducible refine' w_sorted ?hh ?_); (case hh => walk_at "hp"))
  | (with_reducible refine' w_tsadd ?_)
  | ((with_reducible refine' w_tsadd1 ?hh ?_); (case hh => walk_at "hp"))
  | ((with_reducible refine' w_sadd ?hh ?hr ?_); (case hh => walk_at "hp"); (case hr => omega))
  | (with_reducible refine' w_iZ ?_)
  | ((with_reducible refine' w_iZ1 ?hh ?hh2 ?_); (case hh => walk_at "hp"); (case hh2 => walk_at "hp"))
  | (with_reducible refine' w_iS ?_)
  | (with_reducible refine' w_iS1 ?_)
  | ((with_reducible refine' w_gtup ?hh ?hn ?_); (case hh => walk_at "hp"); (case hn => exact rfl))
  | (with_reducible refine' w_gcons ?_)
  | (with_reducible refine' w_gnil ?_)
  | (with_reducible refine' w_js ?_)
  | (with_reducible refine' w_jsn ?_)
  | ((with_reducible refine' w_js1 ?hl ?_); (case hl => decide +kernel))
  | (with_reducible refine' w_fmt ?_)
  | ((with_reducible refine' w_fmt1 ?hl ?_); (case hl => decide +kernel))
  | (with_reducible refine' w_callS ?_)
  | ((with_reducible refine' w_truL ?hh ?_); (case hh => walk_at "hp"))
  | (with_reducible refine' w_lc ?_)
  | (with_reducible refine' w_yes ?_)
  | ((with_reducible refine' w_wipe ?he ?_); (case he => exact rfl))
  | (with_reducible refine' w_iL ?_)
  | (with_reducible refine' w_iT ?_)
  | (with_reducible refine' w_iR ?_)
  | ((with_reducible refine' w_iL1 ?hh ?_); (case hh => walk_at "hp"))
  | ((with_reducible refine' w_iT1 ?hh ?_); (case hh => walk_at "hp"))
  | ((with_reducible refine' w_iR1 ?h1 ?h2 ?_); (case h1 => omega); (case h2 => omega))
  | ((with_reducible refine' w_aug ?hv ?_); (case hv => exact rfl))
  | (with_reducible refine' w_ipI ?_)
  | ((with_reducible refine' w_isi ?hy ?hk ?_); (case hy => walk_at "ty"); (case hk => walk_at "kit"))
  | ((with_reducible refine' w_int ?_))
  | ((with_reducible refine' w_intB ?_))
  | ((with_reducible refine' w_abs ?_))
  | ((with_reducible refine' w_lenL ?hh ?_); (case hh => walk_at "hp"))
  | ((with_reducible refine' w_lenT ?hh ?_); (case hh => walk_at "hp"))
  | ((with_reducible refine' w_tupL ?hh ?_); (case hh => walk_at "hp"))
  | ((with_reducible refine' w_tupT ?hh ?_); (case hh => walk_at "hp"))
  | ((with_reducible refine' w_catA ?hh ?hh2 ?hz ?_); (case hh => walk_at "hp"); (case hh2 => walk_at "hp"); (case hz => walk_at "len"))
  | ((with_reducible refine' w_repB ?hh ?hne ?h2 ?h3 ?hz ?_); (case hh => walk_at "hp"); (case hne => simp); (case h2 => omega); (case h3 => omega); (case hz => exact Nat.le_of_ble_eq_true rfl))
  | ((with_reducible refine' w_eqN ?hh ?hh2 ?n1 ?n2 ?_); (case hh => walk_at "hp"); (case hh2 => walk_at "hp"); (case n1 => walk_at "nd"); (case n2 => walk_at "nd"))
  | ((with_reducible refine' w_neN ?hh ?hh2 ?n1 ?n2 ?_); (case hh => walk_at "hp"); (case hh2 => walk_at "hp"); (case n1 => walk_at "nd"); (case n2 => walk_at "nd"))
  | ((with_reducible refine' w_eqL ?hh ?hh2 ?n1 ?n2 ?_); (case hh => walk_at "hp"); (case hh2 => walk_at "hp"); (case n1 => walk_at "nd"); (case n2 => walk_at "nd"))
  | ((with_reducible refine' w_neL ?hh ?hh2 ?n1 ?n2 ?_); (case hh => walk_at "hp"); (case hh2 => walk_at "hp"); (case n1 => walk_at "nd"); (case n2 => walk_at "nd"))
  | ((with_reducible refine' w_neNon ?hh2 ?n2 ?_); (case hh2 => walk_at "hp"); (case n2 => walk_at "nd"))
  | ((with_reducible refine' w_eqNon ?hh2 ?n2 ?_); (case hh2 => walk_at "hp"); (case n2 => walk_at "nd"))
  | ((with_reducible refine' w_slA ?hh ?_); (case hh => walk_at "hp"))
  | ((with_reducible refine' w_disp ?hz ?_); (case hz => exact sz_of (Nat.le_of_ble_eq_true rfl)))
  | ((with_reducible refine' w_tyL ?hh ?_); (case hh => walk_at "hp"))
  | (with_reducible refine' iteT ?_)
  | (with_reducible refine' iteF ?_)
  | (with_reducible refine' w_nT ?_)
  | (with_reducible refine' w_nn ?_)
  | (with_reducible refine' w_nnT ?_)
  | (with_reducible refine' w_nnR ?_)
  | (with_reducible refine' w_neG ?_)
  | (with_reducible refine' w_eqG ?_)
  | (with_reducible refine' w_neS ?_)
  | (with_reducible refine' w_eqS ?_)
  | (with_reducible refine' w_neSb ?_)
  | (with_reducible refine' w_eqSb ?_)
  | (with_reducible refine' w_deIS ?_)
  | (with_reducible refine' w_deSI ?_)
  | (with_reducible refine' w_deISn ?_)
  | ((with_reducible refine' w_deST ?he ?_); (case he => decide +kernel))
  | ((with_reducible refine' w_deSF ?he ?_); (case he => decide +kernel))
  | ((with_reducible refine' w_deSTn ?he ?_); (case he => decide +kernel))
  | ((with_reducible refine' w_deSFn ?he ?_); (case he => decide +kernel))
  | (with_reducible refine' w_nF ?_)
  | dsimp only [Bool.not_true, Bool.not_false])
local macro_rules | `(tactic| walk_at "ty") => `(tactic| first
  | exact .base (.int _) | exact .base (.str _) | exact .base (.bl _) | exact .base .non
  | ((refine' tyx_t ?hq); (case hq => walk_at "hp")) | ((refine' tyx_l ?hq); (case hq => walk_at "hp")) | ((refine' .base (.tup ?hq)); (case hq => walk_at "hp")) | assumption)
local macro_rules | `(tactic| walk_at "go") => `(tactic| repeat walk_at "go1")
local macro_rules | `(tactic| walk_at "st") => `(tactic| try dsimp only [cxOf, Cx.nox, Cx.wish])
local macro_rules | `(tactic| walk_at "kit") => `(tactic| with_reducible first | exact kit_int_int | exact kit_int_str | exact kit_int_bool | exact kit_int_tuple | exact kit_int_list | exact kit_str_int | exact kit_str_str | exact kit_str_bool | exact kit_str_tuple | exact kit_str_list | exact kit_bool_int | exact kit_bool_str | exact kit_bool_bool | exact kit_bool_tuple | exact kit_bool_list | exact kit_NoneType_int | exact kit_NoneType_str | exact kit_NoneType_bool | exact kit_NoneType_tuple | exact kit_NoneType_list | exact kit_list_int | exact kit_list_str | exact kit_list_bool | exact kit_list_tuple | exact kit_list_list | exact kit_tuple_int | exact kit_tuple_str | exact kit_tuple_bool | exact kit_tuple_tuple | exact kit_tuple_list)
local macro_rules | `(tactic| walk_at "nd") => `(tactic| first
  | assumption
  | exact Tm.nds _
  | exact Nds.nil
  | exact Nds.ofInts _
  | ((refine' Nds.cons ?na ?nb); (case na => first | exact Nds.I _ | exact Nds.L | exact Nds.A); (case nb => walk_at "nd"))
  | ((refine' Nds.app ?na ?nb); (case na => walk_at "nd"); (case nb => walk_at "nd"))
  | ((refine' Nds.rep ?na _); (case na => walk_at "nd")))
local macro_rules | `(tactic| walk_at "len") => `(tactic| first
  | exact ly_sz (by omega)
  | ((simp only [List.length_append, List.length_cons, List.length_nil, List.length_map, PyProof.Rows.lm_len_rep_flat]); exact ly_sz (by omega)))
local macro_rules | `(tactic| walk_at "go1") => `(tactic| first
  | (with_reducible refine' w_kget2 ?_)
  | (with_reducible refine' w_isRN ?_)
  | (with_reducible refine' w_isNN ?_)
  | (with_reducible refine' w_isIN ?_)
  | ((with_reducible refine' w_kg ?hd ?_); (case hd => assumption)))
local macro_rules | `(tactic| walk_at "go1") => `(tactic| first
  | ((with_reducible refine' w_extT ?hh ?hh2 ?hz ?_); (case hh => walk_at "hp"); (case hh2 => walk_at "hp"))
  | ((with_reducible refine' w_I ?hc ?_); (case hc => exact ⟨by decide, by decide, by decide⟩))
  | (with_reducible refine' w_sl ?_)
  | (with_reducible refine' w_noP ?_)
  | (with_reducible refine' w_part ?_)
  | (with_reducible refine' w_part1 ?_)
  | (with_reducible refine' w_it ?_)
  | (with_reducible refine' w_it1 ?_)
  | ((with_reducible refine' w_lenZ ?hz ?_); (case hz => omega))
  | ((with_reducible refine' w_addZb ?hz ?_); (case hz => omega))
  | ((with_reducible refine' w_addZf ?hz ?_); (case hz => omega))
  | ((with_reducible refine' w_addZa ?hz ?_); (case hz => omega))
  | ((with_reducible refine' w_inS ?hh ?_); (case hh => walk_at "hp"))
  | ((with_reducible refine' w_ixT ?hh ?ha ?_); (case hh => assumption); (case ha => exact atI_nat (by assumption))))
local macro_rules | `(tactic| walk_at "go1") => `(tactic| first
  | (with_reducible refine' w_iR2 ?_)
  | ((with_reducible refine' w_iR21 ?h1 ?h2 ?h3 ?h4 ?_); (case h1 => omega); (case h2 => omega); (case h3 => omega); (case h4 => omega))
  | (with_reducible refine' w_nnI ?_)
  | (with_reducible refine' w_max ?_)
  | (with_reducible refine' w_break ?_)
  | (with_reducible refine' w_cont ?_))
section
variable {P : Program} {w : World} {K : PySem.W.Frag} {mg : Str → Option Value} {base : Heap} {tk : Nat → Tok} {cl : Nat → Addr}
def spRoad97 (K : PySem.W.Frag) : Sp := fun vs H Q _ => ∃ (s a : Addr) (m : Stm) (t : Tm) (many : Nat), vs = [.ref s, .ref a, .int (many : Int)] ∧ StAt H s m ∧ SqT K H a t.enc ∧ t.enc.length ≤ 150 ∧ many ≤ 100 ∧
  ∀ H' p m' (road : List (List Nat)), Fr s H H' → StAt H' s m' → H p = none → H' p = some (.lst (plcs road)) → Road t road → road.length ≤ many → (∀ r ∈ road, r.length ≤ 150) → Small road → Q (.ref p) H'
theorem ok_lroad97 {f : Addr} {fd : FuncData} (F : Fun K "_law_road" "_law_road" s_law_road f fd) (T : Txt w K mg tk cl) (D1 : Def P w K mg base CX0 1 "_law_draw" ["stream", "many"] spDraw) (D2 : Def P w K mg base CX0 1 "_law_redexes" ["term"] (spLRedx K))
    (D3 : Def P w K mg base CX0 1 "_law_places" ["term"] (spLPlaces K)) (D4 : Def P w K mg base CX0 4 "_law_step" ["term", "at"] (spLStep97 K)) : FnOk P w K mg base CX0 5 f fd ["stream", "term", "count"] (spRoad97 K) := by
  obtain ⟨f1, fd1, g_law_draw, kp_law_draw, b_law_draw, G_law_draw⟩ := D1
  obtain ⟨f2, fd2, g_law_redexes, kp_law_redexes, b_law_redexes, G_law_redexes⟩ := D2
  obtain ⟨f3, fd3, g_law_places, kp_law_places, b_law_places, G_law_places⟩ := D3
  obtain ⟨f4, fd4, g_law_step, kp_law_step, b_law_step, G_law_step⟩ := D4
  refine F.ok sc_law_road (fun vs H Q E h => ?_) (fun cdv A outer s H vs Q E hr h => ?_)
  · obtain ⟨_, _, _, _, _, rfl, _⟩ := h
    rfl
  · obtain ⟨s1, a, m, t, many, rfl, st, hS, hlen, hmany, q⟩ := h
    refine ⟨_, (pss_cons (ps_set (i := 3) sc_law_road.nd rfl (.inl rfl) (pe_lst pa_nil)) (pss_cut (ps_for PassesOwn.never rfl (pi_range1 (by rfl) T.n_range (pa_cons (pv 2) pa_nil)) (pg_name (i := 4) sc_law_road.nd rfl (.inl rfl)) (pss_cons (ps_set (i := 5) sc_law_road.nd rfl (.inl rfl) (pe_call G_law_redexes (hr.mono (by first | decide | omega)) (by rfl) g_law_redexes kp_law_redexes b_law_redexes .nil pass0 (pa_cons (pv 1) pa_nil))) (pss_cons (ps_if (PW.pt (pw_or (pt_cmpR (op_eqD hr.units) (pv 5) (pe_lst pa_nil) (nomark _)) (pw_or1 (pt_cmpR op_gt (pe_callB call_len_seq (by rfl) T.n_len (by decide +kernel) (pa_cons (pv 1) pa_nil)) pe_int (nomark _))))) (pss_one ps_break) pss_nil) (pss_cons (ps_set (i := 6) sc_law_road.nd rfl (.inl rfl) (pe_ix ix_list (pv 5) (pe_call G_law_draw (hr.mono (by first | decide | omega)) (by rfl) g_law_draw kp_law_draw b_law_draw .nil pass0 (pa_cons (pv 0) (pa_cons (pe_callB call_len_seq (by rfl) T.n_len (by decide +kernel) (pa_cons (pv 5) pa_nil)) pa_nil))) (fun _ _ => rfl))) (pss_cons (ps_expr (pe_bm PySem.F.plainAttrs_list PySem.F.slot_list_append PySem.F.type_list_append mt_append (pv 3) (pa_cons (pe_ix ix_list (pe_call G_law_places (hr.mono (by first | decide | omega)) (by rfl) g_law_places kp_law_places b_law_places .nil pass0 (pa_cons (pv 1) pa_nil)) (pv 6) (fun _ _ => rfl)) pa_nil))) (pss_one (ps_set (i := 1) sc_law_road.nd rfl (.inl rfl) (pe_call G_law_step (hr.mono (by first | decide | omega)) (by rfl) g_law_step kp_law_step b_law_step .nil pass0 (pa_cons (pv 1) (pa_cons (pv 6) pa_nil)))))))))) (pss_one (ps_ret (pv 3))))), ?_⟩
    refine sl_of (σ2 := [some _, some _, some _, none, none, none, none]) rfl ?_
    walk_at "st"
    walk_at "go"
    intro rl hrl
    have st1 := st.new hrl (o := .lst [])
    have hS1 := ex_t (Ex.new hrl (o := .lst [])) hS
    have nr : rl ≠ s1 := (st.ne hrl).1
    walk_at "go"
    refine w_cut (M := fun σ' H' => ∃ (x : Addr) (road : List (List Nat)) (m' : Stm) (y1 y2 y3 : Option V), σ' = [some (.ref s1), some (.ref x), some (.int (many : Int)), some (.ref rl), y1, y2, y3] ∧ Fr s1 H H' ∧ StAt H' s1 m' ∧ H' rl = some (.lst (plcs road)) ∧ Road t road ∧ road.length ≤ many ∧ (∀ r ∈ road, r.length ≤ 150) ∧ Small road) ?_ ?_
    rotate_left
    · rintro σ' H' ⟨x, road, m', y1, y2, y3, rfl, fr2, st2, hr2, hroad, hrlen, hrs, hsm⟩
      walk_at "go"
      exact q H' rl m' road fr2 st2 hrl hr2 hroad hrlen hrs hsm
    walk_at "go"
    refine for_range (lo := 0) (n := (many : Int).toNat) (fun i σ H' => ∃ (x : Addr) (xs : List V) (road : List (List Nat)) (m' : Stm) (y1 y2 y3 : Option V), σ = [some (.ref s1), some (.ref x), some (.int (many : Int)), some (.ref rl), y1, y2, y3] ∧ Fr s1 H H' ∧ (StAt H' s1 m' ∧ Fol m m') ∧ SqT K H' x xs ∧ NodesV xs ∧ xs.length ≤ 1000000 ∧ H' rl = some (.lst (plcs road)) ∧
        Road t road ∧ (xs = (t.along road).enc ∨ 150 < xs.length) ∧ road.length = i ∧ (∀ r ∈ road, r.length ≤ 150) ∧ Small road)
      ⟨a, t.enc, [], m, none, none, none, rfl, Fr.ex (Ex.new hrl), ⟨st1, Fol.refl m⟩, hS1, nodes_enc t, by omega, upd_same, .nil, .inl rfl, rfl, by simp, fun q hq => absurd hq (by simp)⟩ ?_ ?_
    · rintro i σ H2 hi ⟨x, xs, road, m2, y1, y2, y3, rfl, fr2, ⟨st2, fol2⟩, hx, hnv, hxl, hr2, hroad, hu, hrlen, hrs, hsm⟩
      walk_at "go"
      refine ⟨x, xs, rfl, hx, hnv, by omega, fun H3 dl e3 hdl hd3 => ?_⟩
      have hx3 := ex_t e3 hx
      have st3 := st2.ex e3
      have hr3 := e3 _ _ hr2
      have fr3 := fr2.trans (Fr.ex e3)
      walk_at "go"
      intro p0 hp0
      have e4 := Ex.new hp0 (o := .lst [])
      have h00 : upd H3 p0 (.lst []) p0 = some (.lst []) := upd_same
      have hx4 := ex_t e4 hx3
      have hd4 := e4 _ _ hd3
      have st4 := st3.ex e4
      have hr4 := e4 _ _ hr3
      have fr4 := fr3.trans (Fr.ex e4)
      generalize upd H3 p0 (.lst []) = H4 at *
      refine w_eqL (SqL.of hd4) (SqL.of h00) (nds_nums _) nds_nil ?_
      walk_at "go"
      have stop : ∀ (y1 y2 y3 : Option V), ∃ (x' : Addr) (road' : List (List Nat)) (m' : Stm) (y1' y2' y3' : Option V), [some (V.ref s1), some (.ref x), some (.int (many : Int)), some (.ref rl), y1, y2, y3] = [some (.ref s1), some (.ref x'), some (.int (many : Int)), some (.ref rl), y1', y2', y3'] ∧ Fr s1 H H4 ∧ StAt H4 s1 m' ∧ H4 rl = some (.lst (plcs road')) ∧ Road t road' ∧ road'.length ≤ many ∧ (∀ r ∈ road', r.length ≤ 150) ∧ Small road' :=
        fun y1 y2 y3 => ⟨x, road, m2, y1, y2, y3, rfl, fr4, st4, hr4, hroad, by omega, hrs, hsm⟩
      by_cases hnil : redI xs (xs.length - 1) = []
      · rw [decide_eq_true (by rw [hnil]; rfl)]
        walk_at "go"
        exact stop _ _ _
      rw [decide_eq_false (fun z => hnil (List.map_eq_nil_iff.mp z))]
      walk_at "go"
      refine w_br (fun c2 => ?_) (fun c2 => ?_)
      · walk_at "go"
        exact stop _ _ _
      obtain ⟨u, hu0⟩ : ∃ u, u = t.along road := ⟨_, rfl⟩
      rw [← hu0] at hu
      have hxs : xs = u.enc := by
        rcases hu with h | h
        · exact h
        · omega
      subst hxs
      have rpos : 0 < (redI u.enc (u.enc.length - 1)).length := List.length_pos_iff.mpr hnil
      have rlen := redI_len u.enc (u.enc.length - 1)
      have rln : (nums (redI u.enc (u.enc.length - 1))).length = (redI u.enc (u.enc.length - 1)).length := List.length_map _
      walk_at "go"
      refine ⟨s1, m2, (nums (redI u.enc (u.enc.length - 1))).length, rfl, st4, by omega, by omega, fun H5 fr5 st5 => ?_⟩
      have v5 := m2.val_lt (n := ((nums (redI u.enc (u.enc.length - 1))).length : Int)) (by omega)
      have dn : dl ≠ s1 := (st2.ne hdl).1
      have hx5 := fr_t fr5 st4.2.1 hx4
      have hd5 := fr5 _ _ dn hd4
      have hr5 := fr5 _ _ nr hr4
      have fr5 := fr4.trans fr5
      have fol5 : Fol m (m2.next ((nums (redI u.enc (u.enc.length - 1))).length : Int)) := fol2.trans (Fol.next m2 _)
      generalize m2.val ((nums (redI u.enc (u.enc.length - 1))).length : Int) = n4 at *
      generalize m2.next ((nums (redI u.enc (u.enc.length - 1))).length : Int) = m4 at *
      obtain ⟨j, hj⟩ : ∃ j, (redI u.enc (u.enc.length - 1))[n4.toNat]? = some j := ⟨_, List.getElem?_eq_getElem (by omega)⟩
      obtain ⟨hj1, hjb⟩ := redI_mem.mp (List.mem_of_getElem? hj)
      obtain ⟨b, c, hred⟩ := red_of_redB hjb
      have hpj : (u.pls [])[j]? = some (plc u j) := by
        have := (Tm.sub_at u _ [] hred).2
        simpa using this
      walk_at "go"
      refine w_ixL (SqL.of hd5) (at_of (j := n4.toNat) (by omega) (show (nums (redI u.enc (u.enc.length - 1)))[n4.toNat]? = some (.int (j : Int)) by rw [List.getElem?_map, hj]; rfl)) ?_
      walk_at "go"
      refine ⟨x, u, rfl, hx5, by omega, fun H6 pa e6 hpa hpa6 => ?_⟩
      have hx6 := ex_t e6 hx5
      have st6 := st5.ex e6
      have hr6 := e6 _ _ hr5
      walk_at "go"
      refine w_ixL (SqL.of hpa6) (at_of (j := j) (by omega) (show (plcs (u.pls []))[j]? = some (.str (pl (plc u j))) by rw [List.getElem?_map, hpj]; rfl)) ?_
      have rl4 : (plcs road).length = road.length := List.length_map _
      walk_at "go"
      have er7 : plcs road ++ [V.str (pl (plc u j))] = plcs (road ++ [plc u j]) := by simp [plcs]
      rw [er7]
      have hx7 : SqT K (upd H6 rl (.lst (plcs (road ++ [plc u j])))) x u.enc := by
        rcases hx6 with (h | ⟨ob, h⟩) | h
        · exact .inl (.inl (by rw [upd_ne (fun z => by rw [z, hr6] at h; cases h)]; exact h))
        · exact .inl (.inr ⟨ob, by rw [upd_ne (fun z => by rw [z, hr6] at h; cases h)]; exact h⟩)
        · exact .inr h
      have st7 : StAt (upd H6 rl (.lst (plcs (road ++ [plc u j])))) s1 m4 := by
        refine st6.put nr fun z => (st.ne hrl).2 ?_
        rw [z]
        exact fol5.1
      have fr7 : Fr s1 H (upd H6 rl (.lst (plcs (road ++ [plc u j])))) := Fr.mut (fr5.trans (Fr.ex e6)) hrl
      have hr7 : upd H6 rl (.lst (plcs (road ++ [plc u j]))) rl = some (.lst (plcs (road ++ [plc u j]))) := upd_same
      generalize upd H6 rl (.lst (plcs (road ++ [plc u j]))) = H7 at *
      have mem : plc u j ∈ u.reds [] := Tm.red_mem.mpr ⟨j, b, c, hred⟩
      have hrl5 : (plc u j).length ≤ 150 := by have := Tm.pls_lens u (u.reds_pls mem); omega
      walk_at "go"
      refine ⟨x, u, plc u j, j, b, c, rfl, hx7, hred, by omega, fun H8 x8 xs8 e8 hx8 hv8 => ?_⟩
      walk_at "go"
      refine ⟨x8, xs8, road ++ [plc u j], m4, _, _, _, rfl, fr7.trans (Fr.ex e8), ⟨st7.ex e8, fol5⟩, hx8, ?_, ?_, e8 _ _ hr7, hroad.snoc (by rw [← hu0]; exact Tm.isRed_iff.mpr ⟨j, b, c, hred⟩), ?_, by simp [hrlen], ?_, ?_⟩
      · rcases hv8 with rfl | ⟨_, _, _, h⟩
        · exact nodes_enc _
        · exact h
      · rcases hv8 with rfl | ⟨_, h, _⟩
        · have := Tm.step_le u (plc u j)
          have h6 : u.enc.length * u.enc.length ≤ 150 * 150 := Nat.mul_le_mul (by omega) (by omega)
          omega
        · omega
      · rcases hv8 with rfl | ⟨h, _⟩
        · left
          rw [Tm.along_app, ← hu0]
          rfl
        · right
          omega
      · intro z hz
        rcases List.mem_append.mp hz with h | h
        · exact hrs z h
        · rw [List.mem_singleton.mp h]
          exact hrl5
      · intro z hz
        rcases List.mem_append.mp hz with h | h
        · exact hsm z h
        · rw [List.mem_singleton.mp h]
          exact u.reds_small _ mem
    · rintro σ H2 ⟨x, u, road, m2, y1, y2, y3, rfl, fr2, ⟨st2, fol2⟩, hx, hnv, hxl, hr2, hroad, hu, hrlen, hrs, hsm⟩
      walk_at "go"
      exact ⟨x, road, m2, _, _, _, rfl, fr2, st2, hr2, hroad, by omega, hrs, hsm⟩
end
end Ly
set_option Elab.async false
set_option linter.all false
set_option maxRecDepth 100000
set_option maxHeartbeats 8000000
namespace Ly
open PySem PySem.Spec PyProof.Rows L2 Evl
local macro_rules | `(tactic| walk_at "ne") => `(tactic| first
  | assumption
  | ((refine' Ne.symm ?hq); (case hq => assumption))
  | ((refine' ne_of_none ?nh1 ?nh2); (case nh2 => assumption); (case nh1 => walk_at "hp"))
  | ((refine' Ne.symm (ne_of_none ?nh1 ?nh2)); (case nh2 => assumption); (case nh1 => walk_at "hp")))
local macro_rules | `(tactic| walk_at "hp") => `(tactic| first
  | assumption
  | exact upd_same
  | ((refine' SqL.of ?hq); (case hq => walk_at "hp"))
  | ((refine' SqT.of ?hq); (case hq => walk_at "hp"))
  | ((refine' (upd_ne ?hne).trans ?hrest); (case hne => walk_at "ne"); (case hrest => walk_at "hp"))
  | ((refine' ly_at ?hex ?hh); (case hex => assumption); (case hh => walk_at "hp"))
  | ((refine' ly_atF ?hex ?hnn ?hh); (case hex => assumption); (case hh => walk_at "hp"); (case hnn => walk_at "ne"))
  | ((refine' ex_t ?hex ?hh); (case hh => assumption); (case hex => walk_at "ex"))
  | ((refine' ex_l ?hex ?hh); (case hh => assumption); (case hex => walk_at "ex")))
local macro_rules | `(tactic| walk_at "ex") => `(tactic| first
  | assumption
  | exact Ex.refl _
  | ((refine' ex_new ?xa ?xb); (case xb => assumption); (case xa => walk_at "ex"))
  | ((refine' ex_upd ?xa ?xb); (case xb => walk_at "free"); (case xa => walk_at "ex"))
  | ((refine' Ex.trans ?xa ?xb); (case xb => assumption); (case xa => walk_at "ex")))
local macro_rules | `(tactic| walk_at "free") => `(tactic| first
  | assumption
  | ((refine' fresh_back ?xa ?xb); (case xb => assumption); (case xa => walk_at "ex")))
local macro_rules | `(tactic| walk_at "fr") => `(tactic| first
  | assumption
  | exact Fr.refl _ _
  | ((refine' Fr.own ?hq); (case hq => walk_at "fr"))
  | ((refine' Fr.new ?xa ?xb); (case xb => assumption); (case xa => walk_at "fr"))
  | ((refine' Fr.mut ?xa ?xb); (case xb => assumption); (case xa => walk_at "fr"))
  | ((refine' Fr.trans ?xa ?xb); (case xb => assumption); (case xa => walk_at "fr"))
  | ((refine' Fr.trans ?xa (Fr.ex ?xb)); (case xb => assumption); (case xa => walk_at "fr")))
local macro_rules | `(tactic| walk_at "go1") => `(tactic| first
  | (with_reducible refine' w_seq ?_)
  | (with_reducible refine' w_asg ?_)
  | (with_reducible refine' w_ret ?_)
  | (with_reducible refine' w_drop ?_)
  | (with_reducible refine' w_if ?_)
  | (with_reducible refine' w_next ?_)
  | (with_reducible refine' w_name ?_)
  | (with_reducible refine' w_sub ?_)
  | ((with_reducible refine' w_var ?hv ?_); (case hv => exact rfl))
  | (with_reducible refine' w_c ?_)
  | (with_reducible refine' w_op ?_)
  | (with_reducible refine' w_un ?_)
  | (with_reducible refine' w_ch ?_)
  | (with_reducible refine' w_I0 ?_)
  | ((with_reducible refine' w_I ?hc ?_); (case hc => first | (exact ly_mulL (by decide) (by decide)) | (exact ly_mulR (by decide) (by decide)) | (exact ly_mulL (by omega) (by omega)) | (show (_ : Int) ≠ 0; decide) | (show (_ : Int) ≠ 0; omega) | (exact ⟨by decide, by decide⟩) | (exact ⟨by omega, by omega⟩)))
  | (with_reducible refine' w_U ?_)
  | ((with_reducible refine' w_eq ?hs ?_); (case hs => exact rfl))
  | ((with_reducible refine' w_ne ?hs ?_); (case hs => exact rfl))
  | (with_reducible refine' w_isB ?_)
  | (with_reducible refine' w_notB ?_)
  | (with_reducible refine' w_nil ?_)
  | (with_reducible refine' w_cons ?_)
  | (with_reducible refine' w_tup ?_)
  | (with_reducible refine' w_lst ?_)
  | (with_reducible refine' w_cb ?_)
  | (with_reducible refine' w_call ?_)
  | (with_reducible refine' w_bm ?_)
  | (with_reducible refine' w_bm0 ?_)
  | ((with_reducible refine' w_app ?hh ?hz ?_); (case hh => walk_at "hp"); (case hz => first | exact ly_lt (by omega) | exact ly_lt (by simp only [List.length_append, List.length_map, List.length_cons, List.length_nil]; omega)))
  | ((with_reducible refine' w_popA ?hh ?_); (case hh => walk_at "hp"))
  | ((with_reducible refine' w_ext ?hh ?hh2 ?hz ?_); (case hh => walk_at "hp"); (case hh2 => walk_at "hp"))
  | ((with_reducible refine' w_ixL ?hh ?ha ?_); (case hh => walk_at "hp"); (case ha => first | exact rfl | exact at_map (by omega) | exact atI_last _ _ | ((refine' at_of ?ae ?ah); (case ah => assumption); (case ae => omega))))
  | ((with_reducible refine' w_ixT ?hh ?ha ?_); (case hh => walk_at "hp"); (case ha => first | exact rfl | exact at_map (by omega) | exact atI_last _ _ | ((refine' at_of ?ae ?ah); (case ah => assumption); (case ae => omega))))
  | ((with_reducible refine' w_cat ?hh ?hh2 ?hz ?_); (case hh => walk_at "hp"); (case hh2 => walk_at "hp"))
  | ((with_reducible refine' w_setL ?hh ?ha ?_); (case hh => walk_at "hp"); (case ha => exact rfl))
  | (with_reducible refine' w_test ?_)
  | (with_reducible refine' w_tB ?_)
  | (with_reducible refine' w_bl ?_)
  | (with_reducible refine' w_and ?_)
  | (with_reducible refine' w_or ?_)
  | (with_reducible refine' w_not ?_)
  | (with_reducible refine' w_andV ?_)
  | (with_reducible refine' w_orV ?_)
  | (with_reducible refine' w_notV ?_)
  | (with_reducible refine' w_ifE ?_)
  | (with_reducible refine' w_for ?_)
  | ((with_reducible refine' w_nin ?hh ?_); (case hh => walk_at "hp"))
  | ((with_reducible refine' w_sorted ?hh ?_); (case hh => walk_at "hp"))
  | (with_reducible refine' w_tsadd ?_)
  | ((with_reducible refine' w_tsadd1 ?hh ?_); (case hh => walk_at "hp"))
  | ((with_reducible refine' w_sadd ?hh ?hr ?_); (case hh => walk_at "hp"); (case hr => omega))
  | (with_reducible refine' w_iZ ?_)
  | ((with_reducible refine' w_iZ1 ?hh ?hh2 ?_); (case hh => walk_at "hp"); (case hh2 => walk_at "hp"))
  | (with_reducible refine' w_iS ?_)
  | (with_reducible refine' w_iS1 ?_)
  | ((with_reducible refine' w_gtup ?hh ?hn ?_); (case hh => walk_at "hp"); (case hn => exact rfl))
  | (with_reducible refine' w_gcons ?_)
  | (with_reducible refine' w_gnil ?_)
  | (with_reducible refine' w_js ?_)
  | (with_reducible refine' w_jsn ?_)
  | ((with_reducible refine' w_js1 ?hl ?_); (case hl => decide +kernel))
  | (with_reducible refine' w_fmt ?_)
  | ((with_reducible refine' w_fmt1 ?hl ?_); (case hl => decide +kernel))
  | (with_reducible refine' w_callS ?_)
  | ((with_reducible refine' w_truL ?hh ?_); (case hh => walk_at "hp"))
  | (with_reducible refine' w_lc ?_)
  | (with_reducible refine' w_yes ?_)
  | ((with_reducible refine' w_wipe ?he ?_); (case he => exact rfl))
  | (with_reducible refine' w_iL ?_)
  | (with_reducible refine' w_iT ?_)
  | (with_reducible refine' w_iR ?_)
  | ((with_reducible refine' w_iL1 ?hh ?_); (case hh => walk_at "hp"))
  | ((with_reducible refine' w_iT1 ?hh ?_); (case hh => walk_at "hp"))
  | ((with_reducible refine' w_iR1 ?h1 ?h2 ?_); (case h1 => omega); (case h2 => omega))
  | ((with_reducible refine' w_aug ?hv ?_); (case hv => exact rfl))
  | (with_reducible refine' w_ipI ?_)
  | ((with_reducible refine' w_isi ?hy ?hk ?_); (case hy => walk_at "ty"); (case hk => walk_at "kit"))
  | ((with_reducible refine' w_int ?_))
  | ((with_reducible refine' w_intB ?_))
  | ((with_reducible refine' w_abs ?_))
  | ((with_reducible refine' w_lenL ?hh ?_); (case hh => walk_at "hp"))
  | ((with_reducible refine' w_lenT ?hh ?_); (case hh => walk_at "hp"))
  | ((with_reducible refine' w_tupL ?hh ?_); (case hh => walk_at "hp"))
  | ((with_reducible refine' w_tupT ?hh ?_); (case hh => walk_at "hp"))
  | ((with_reducible refine' w_catA ?hh ?hh2 ?hz ?_); (case hh => walk_at "hp"); (case hh2 => walk_at "hp"); (case hz => walk_at "len"))
  | ((with_reducible refine' w_repB ?hh ?hne ?h2 ?h3 ?hz ?_); (case hh => walk_at "hp"); (case hne => simp); (case h2 => omega); (case h3 => omega); (case hz => exact Nat.le_of_ble_eq_true rfl))
  | ((with_reducible refine' w_eqN ?hh ?hh2 ?n1 ?n2 ?_); (case hh => walk_at "hp"); (case hh2 => walk_at "hp"); (case n1 => walk_at "nd"); (case n2 => walk_at "nd"))
  | ((with_reducible refine' w_neN ?hh ?hh2 ?n1 ?n2 ?_); (case hh => walk_at "hp"); (case hh2 => walk_at "hp"); (case n1 => walk_at "nd"); (case n2 => walk_at "nd"))
  | ((with_reducible refine' w_eqL ?hh ?hh2 ?n1 ?n2 ?_); (case hh => walk_at "hp"); (case hh2 => walk_at "hp"); (case n1 => walk_at "nd"); (case n2 => walk_at "nd"))
  | ((with_reducible refine' w_neL ?hh ?hh2 ?n1 ?n2 ?_); (case hh => walk_at "hp"); (case hh2 => walk_at "hp"); (case n1 => walk_at "nd"); (case n2 => walk_at "nd"))
  | ((with_reducible refine' w_neNon ?hh2 ?n2 ?_); (case hh2 => walk_at "hp"); (case n2 => walk_at "nd"))
  | ((with_reducible refine' w_eqNon ?hh2 ?n2 ?_); (case hh2 => walk_at "hp"); (case n2 => walk_at "nd"))
  | ((with_reducible refine' w_slA ?hh ?_); (case hh => walk_at "hp"))
  | ((with_reducible refine' w_disp ?hz ?_); (case hz => exact sz_of (Nat.le_of_ble_eq_true rfl)))
  | ((with_reducible refine' w_tyL ?hh ?_); (case hh => walk_at "hp"))
  | (with_reducible refine' iteT ?_)
  | (with_reducible refine' iteF ?_)
  | (with_reducible refine' w_nT ?_)
  | (with_reducible refine' w_nn ?_)
  | (with_reducible refine' w_nnT ?_)
  | (with_reducible refine' w_nnR ?_)
  | (with_reducible refine' w_neG ?_)
  | (with_reducible refine' w_eqG ?_)
  | (with_reducible refine' w_neS ?_)
  | (with_reducible refine' w_eqS ?_)
  | (with_reducible refine' w_neSb ?_)
  | (with_reducible refine' w_eqSb ?_)
  | (with_reducible refine' w_deIS ?_)
  | (with_reducible refine' w_deSI ?_)
  | (with_reducible refine' w_deISn ?_)
  | ((with_reducible refine' w_deST ?he ?_); (case he => decide +kernel))
  | ((with_reducible refine' w_deSF ?he ?_); (case he => decide +kernel))
  | ((with_reducible refine' w_deSTn ?he ?_); (case he => decide +kernel))
  | ((with_reducible refine' w_deSFn ?he ?_); (case he => decide +kernel))
  | (with_reducible refine' w_nF ?_)
  | dsimp only [Bool.not_true, Bool.not_false])
local macro_rules | `(tactic| walk_at "ty") => `(tactic| first
  | exact .base (.int _) | exact .base (.str _) | exact .base (.bl _) | exact .base .non
  | ((refine' tyx_t ?hq); (case hq => walk_at "hp")) | ((refine' tyx_l ?hq); (case hq => walk_at "hp")) | ((refine' .base (.tup ?hq)); (case hq => walk_at "hp")) | assumption)
local macro_rules | `(tactic| walk_at "go") => `(tactic| repeat walk_at "go1")
local macro_rules | `(tactic| walk_at "st") => `(tactic| try dsimp only [cxOf, Cx.nox, Cx.wish])
local macro_rules | `(tactic| walk_at "kit") => `(tactic| with_reducible first | exact kit_int_int | exact kit_int_str | exact kit_int_bool | exact kit_int_tuple | exact kit_int_list | exact kit_str_int | exact kit_str_str | exact kit_str_bool | exact kit_str_tuple | exact kit_str_list | exact kit_bool_int | exact kit_bool_str | exact kit_bool_bool | exact kit_bool_tuple | exact kit_bool_list | exact kit_NoneType_int | exact kit_NoneType_str | exact kit_NoneType_bool | exact kit_NoneType_tuple | exact kit_NoneType_list | exact kit_list_int | exact kit_list_str | exact kit_list_bool | exact kit_list_tuple | exact kit_list_list | exact kit_tuple_int | exact kit_tuple_str | exact kit_tuple_bool | exact kit_tuple_tuple | exact kit_tuple_list)
local macro_rules | `(tactic| walk_at "nd") => `(tactic| first
  | assumption
  | exact Tm.nds _
  | exact Nds.nil
  | exact Nds.ofInts _
  | ((refine' Nds.cons ?na ?nb); (case na => first | exact Nds.I _ | exact Nds.L | exact Nds.A); (case nb => walk_at "nd"))
  | ((refine' Nds.app ?na ?nb); (case na => walk_at "nd"); (case nb => walk_at "nd"))
  | ((refine' Nds.rep ?na _); (case na => walk_at "nd")))
local macro_rules | `(tactic| walk_at "len") => `(tactic| first
  | exact ly_sz (by omega)
  | ((simp only [List.length_append, List.length_cons, List.length_nil, List.length_map, PyProof.Rows.lm_len_rep_flat]); exact ly_sz (by omega)))
local macro_rules | `(tactic| walk_at "go1") => `(tactic| first
  | (with_reducible refine' w_kget2 ?_)
  | (with_reducible refine' w_isRN ?_)
  | (with_reducible refine' w_isNN ?_)
  | (with_reducible refine' w_isIN ?_)
  | ((with_reducible refine' w_kg ?hd ?_); (case hd => assumption)))
local macro_rules | `(tactic| walk_at "go1") => `(tactic| first
  | ((with_reducible refine' w_extT ?hh ?hh2 ?hz ?_); (case hh => walk_at "hp"); (case hh2 => walk_at "hp"))
  | ((with_reducible refine' w_I ?hc ?_); (case hc => exact ⟨by decide, by decide, by decide⟩))
  | (with_reducible refine' w_sl ?_)
  | (with_reducible refine' w_noP ?_)
  | (with_reducible refine' w_part ?_)
  | (with_reducible refine' w_part1 ?_)
  | (with_reducible refine' w_it ?_)
  | (with_reducible refine' w_it1 ?_)
  | ((with_reducible refine' w_lenZ ?hz ?_); (case hz => omega))
  | ((with_reducible refine' w_addZb ?hz ?_); (case hz => omega))
  | ((with_reducible refine' w_addZf ?hz ?_); (case hz => omega))
  | ((with_reducible refine' w_addZa ?hz ?_); (case hz => omega))
  | ((with_reducible refine' w_inS ?hh ?_); (case hh => walk_at "hp"))
  | ((with_reducible refine' w_ixT ?hh ?ha ?_); (case hh => assumption); (case ha => exact atI_nat (by assumption))))
local macro_rules | `(tactic| walk_at "go1") => `(tactic| first
  | (with_reducible refine' w_tdget ?_)
  | (with_reducible refine' w_tdin ?_)
  | (with_reducible refine' w_tdnotin ?_)
  | (with_reducible refine' w_sdput ?_)
  | (with_reducible refine' w_tdsetd ?_)
  | (with_reducible refine' w_dnew ?_))
section
variable {P : Program} {w : World} {K : PySem.W.Frag} {mg : Str → Option Value} {base : Heap} {tk : Nat → Tok} {cl : Nat → Addr}
local macro_rules | `(tactic| walk_at "go1") => `(tactic| first
  | (with_reducible refine' w_tdget2 ?_)
  | (with_reducible refine' w_iKy ?_))
def spUses97 (K : PySem.W.Frag) : Sp := fun vs H Q _ => ∃ (a : Addr) (t : Tm), vs = [.ref a] ∧ SqT K H a t.enc ∧ t.enc.length ≤ 1000 ∧ ∀ H' (n : Int), (n ≤ 1 → t.aff) → Q (.int n) H'
theorem ok_luses97 {f : Addr} {fd : FuncData} (F : Fun K "_law_uses" "_law_uses" s_law_uses f fd) (T : Txt w K mg tk cl) (D1 : Def P w K mg base CX0 1 "_law_depths" ["term"] (spDepths K)) : FnOk P w K mg base CX0 2 f fd ["term"] (spUses97 K) := by
  obtain ⟨f1, fd1, g_law_depths, kp_law_depths, b_law_depths, G_law_depths⟩ := D1
  refine F.ok sc_law_uses (fun vs H Q E h => ?_) (fun cdv A outer s H vs Q E hr h => ?_)
  · obtain ⟨a, t, rfl, _⟩ := h
    rfl
  · obtain ⟨a, t, rfl, hS, hlen, q⟩ := h
    refine ⟨_, (pss_cons (ps_set (i := 1) sc_law_uses.nd rfl (.inl rfl) (pe_call G_law_depths (hr.mono (by first | decide | omega)) (by rfl) g_law_depths kp_law_depths b_law_depths .nil pass0 (pa_cons (pv 0) pa_nil))) (pss_cons (ps_set (i := 2) sc_law_uses.nd rfl (.inl rfl) (pe_lst pa_nil)) (pss_cons (ps_set (i := 3) sc_law_uses.nd rfl (.inr rfl) pe_dnewK) (pss_cons (ps_set (i := 4) sc_law_uses.nd rfl (.inl rfl) (pe_lst (pa_cons (pe_lst pa_nil) pa_nil))) (pss_cons (ps_for PassesOwn.never rfl (pi_range1 (by rfl) T.n_range (pa_cons (pe_callB call_len_seq (by rfl) T.n_len (by decide +kernel) (pa_cons (pv 0) pa_nil)) pa_nil)) (pg_name (i := 5) sc_law_uses.nd rfl (.inl rfl)) (pss_cons (ps_set (i := 6) sc_law_uses.nd rfl (.inl rfl) (pe_bm0 PySem.F.plainAttrs_list PySem.F.slot_list_pop PySem.F.type_list_pop mt_pop (pv 4))) (pss_one (ps_if (pt_cmpR op_eq (pe_ix ix_tup (pv 0) (pv 5) (fun _ _ => rfl)) pe_str (nomark _)) (pss_cons (ps_expr (pe_bm PySem.F.plainAttrs_list PySem.F.slot_list_append PySem.F.type_list_append mt_append (pv 4) (pa_cons (pv 6) pa_nil))) (pss_one (ps_expr (pe_bm PySem.F.plainAttrs_list PySem.F.slot_list_append PySem.F.type_list_append mt_append (pv 4) (pa_cons (pv 6) pa_nil))))) (pss_one (ps_if (pt_cmpR op_eq (pe_ix ix_tup (pv 0) (pv 5) (fun _ _ => rfl)) pe_str (nomark _)) (pss_one (ps_expr (pe_bm PySem.F.plainAttrs_list PySem.F.slot_list_append PySem.F.type_list_append mt_append (pv 4) (pa_cons (pe_op op_cat (pe_lst (pa_cons (pv 5) pa_nil)) (pv 6)) pa_nil)))) (pss_one (ps_if (pt_cmpR op_lt (pe_ix ix_tup (pv 0) (pv 5) (fun _ _ => rfl)) (pe_ix ix_list (pv 1) (pv 5) (fun _ _ => rfl)) (nomark _)) (pss_one (ps_expr (pe_bm PySem.F.plainAttrs_list PySem.F.slot_list_append PySem.F.type_list_append mt_append (pv 2) (pa_cons (pe_ix ix_list (pv 6) (pe_ix ix_tup (pv 0) (pv 5) (fun _ _ => rfl)) (fun _ _ => rfl)) pa_nil)))) pss_nil)))))))) (pss_cons (ps_for PassesOwn.never rfl (pi_list (pv 2)) (pg_name (i := 7) sc_law_uses.nd rfl (.inl rfl)) (pss_one (ps_dput (by exact Nat.lt_of_le_of_lt (Nat.add_le_add_left (by decide) _) hr.units) (pv 3) (pv 7) (pe_op op_add (pe_dget2 (by exact Nat.lt_of_le_of_lt (Nat.add_le_add_left (by decide) _) hr.units) (pv 3) (pv 7) pe_int ⟨by rfl, by rfl, by rfl, by rfl⟩) pe_int) (by rfl)))) (pss_one (ps_ret (pe_callB (cr_max rfl) (by rfl) T.n_max (by decide +kernel) (pa_cons (pe_op op_cat (pe_lst (pa_cons pe_int pa_nil)) (pe_lock (pe_lc (own := [("at", 7)]) (g := gName 7) (tt := tYes) rfl sc_law_uses.nd (pi_keys (pv 3)) (blkOk_by (N := N_law_uses) (sc := defScope s_law_uses) (by decide +kernel)) (fun _ _ _ _ _ => pg_name (i := 7) sc_law_uses.nd rfl (Or.inl rfl)) (fun _ _ _ _ _ => pts_nil) (fun _ _ _ _ _ => (pe_dget (by exact Nat.lt_of_le_of_lt (Nat.add_le_add_left (by decide) _) hr.units) (pv 3) (pv 7) (fun _ _ => rfl)))))) pa_nil)))))))))), ?_⟩
    refine sl_of (σ2 := [some _, none, none, none, none, none, none, none]) rfl ?_
    walk_at "st"
    walk_at "go"
    refine ⟨a, t, rfl, hS, by omega, fun H1 dl e1 hdl hd1 => ?_⟩
    have hS1 := ex_t e1 hS
    walk_at "go"
    intro al hal
    have e2 := Ex.new hal (o := .lst [])
    have hal2 : upd H1 al (.lst []) al = some (.lst (nums [])) := upd_same
    have hS2 := ex_t e2 hS1
    have hd2 := e2 _ _ hd1
    have ee2 := e1.trans e2
    have hal0 : H al = none := fresh_back e1 hal
    generalize upd H1 al (.lst []) = H2 at *
    walk_at "go"
    intro cl0 hcl
    have e3 := Ex.new hcl (o := .dK [])
    have hcl3 : upd H2 cl0 (.dK []) cl0 = some (.dK []) := upd_same
    have hS3 := ex_t e3 hS2
    have hd3 := e3 _ _ hd2
    have hal3 := e3 _ _ hal2
    have ee3 := ee2.trans e3
    have hcl0 : H cl0 = none := fresh_back ee2 hcl
    have nac : al ≠ cl0 := ne_of_none hal2 hcl
    generalize upd H2 cl0 (.dK []) = H3 at *
    walk_at "go"
    intro r0 hr0
    have e4 := Ex.new hr0 (o := .lst [])
    have hr4 : upd H3 r0 (.lst []) r0 = some (.lst (nums [])) := upd_same
    have hS4 := ex_t e4 hS3
    have hd4 := e4 _ _ hd3
    have hal4 := e4 _ _ hal3
    have hcl4 := e4 _ _ hcl3
    have ee4 := ee3.trans e4
    have nar : al ≠ r0 := ne_of_none hal3 hr0
    generalize upd H3 r0 (.lst []) = H4 at *
    walk_at "go"
    intro wl hwl
    have e5 := Ex.new hwl (o := .lst [V.ref r0])
    have hw5 : upd H4 wl (.lst [V.ref r0]) wl = some (.lst (refs [r0])) := upd_same
    have hS5 := ex_t e5 hS4
    have hd5 := e5 _ _ hd4
    have hal5 := e5 _ _ hal4
    have hcl5 := e5 _ _ hcl4
    have hr5 := e5 _ _ hr4
    have ee5 := ee4.trans e5
    have hwl0 : H wl = none := fresh_back ee4 hwl
    have ndw : dl ≠ wl := ne_of_none hd4 hwl
    have nda : dl ≠ al := ne_of_none hd1 hal
    have nrw : r0 ≠ wl := ne_of_none hr4 hwl
    have naw : al ≠ wl := ne_of_none hal4 hwl
    have ncw : cl0 ≠ wl := ne_of_none hcl4 hwl
    generalize upd H4 wl (.lst [V.ref r0]) = H5 at *
    walk_at "go"
    refine for_range (lo := 0) (n := (t.enc.length : Int).toNat) (fun i σ H' => ∃ (as : List Addr) (rows : List (List Nat)) (found : List Nat) (y5 y6 : Option V), σ = [some (.ref a), some (.ref dl), some (.ref al), some (.ref cl0), some (.ref wl), y5, y6, none] ∧ Ex H H' ∧ H' dl = some (.lst (nums (t.deps 0))) ∧ H' al = some (.lst (nums found)) ∧ H' cl0 = some (.dK []) ∧ H' wl = some (.lst (refs as)) ∧
      RowsAt H' (fun x => x ≠ wl ∧ x ≠ al) as rows ∧ UInv t i found rows ∧ found.length ≤ i ∧ rows.length ≤ i + 1 ∧ ∀ r ∈ rows, r.length ≤ i)
      ⟨[r0], [[]], [], none, none, rfl, ee5, hd5, hal5, hcl5, hw5, ⟨⟨⟨nrw, nar.symm⟩, hr5⟩, trivial⟩, UInv.start t, Nat.le_refl _, Nat.le_refl _, by simp⟩ ?_ ?_
    · rintro i σ H6 hi ⟨as, rows, found, y5, y6, rfl, e6, hd6, hal6, hcl6, hw6, hro, hinv, hfl, hrl, hrs⟩
      have hil : i < t.enc.length := by omega
      obtain ⟨x, hx⟩ : ∃ x, t.enc[i]? = some x := ⟨_, List.getElem?_eq_getElem hil⟩
      obtain ⟨rs, row, rfl, hdep, hcase⟩ := hinv.step hx
      obtain ⟨as', ra, rfl, hro', ⟨nw, na⟩, hra⟩ := hro.last
      have hdn : (nums (t.deps 0))[i]? = some (.int (row.length : Int)) := by rw [List.getElem?_map, hdep]; rfl
      have hS6 := ex_t e6 hS
      have rl1 : row.length ≤ i := hrs row (by simp)
      have hrs2 : ∀ r ∈ rs, r.length ≤ i + 1 := fun r hr => Nat.le_succ_of_le (hrs r (by simp [hr]))
      have rsl : rs.length ≤ i := by simpa using hrl
      have asl : (refs as').length = rs.length := by
        rw [show refs as' = as'.map V.ref from rfl, List.length_map]
        exact hro'.len
      have fnl : (nums found).length = found.length := List.length_map _
      have hw6b : H6 wl = some (.lst (refs as' ++ [V.ref ra])) := by rw [hw6]; simp [refs]
      have hS7 : SqT K (upd H6 wl (.lst (refs as'))) a t.enc := sqT_lst hS6 hw6
      have hd7 : upd H6 wl (.lst (refs as')) dl = some (.lst (nums (t.deps 0))) := by rw [upd_ne ndw]; exact hd6
      have hal7 : upd H6 wl (.lst (refs as')) al = some (.lst (nums found)) := by rw [upd_ne naw]; exact hal6
      have hcl7 : upd H6 wl (.lst (refs as')) cl0 = some (.dK []) := by rw [upd_ne ncw]; exact hcl6
      have hra7 : upd H6 wl (.lst (refs as')) ra = some (.lst (nums row)) := by rw [upd_ne nw]; exact hra
      have hw7 : upd H6 wl (.lst (refs as')) wl = some (.lst (refs as')) := upd_same
      have hro7 : RowsAt (upd H6 wl (.lst (refs as'))) (fun x => x ≠ wl ∧ x ≠ al) as' rs := hro'.mono fun b o pb h => by rw [upd_ne pb.1]; exact h
      have e7 : Ex H (upd H6 wl (.lst (refs as'))) := e6.mut hwl0
      walk_at "go"
      generalize upd H6 wl (.lst (refs as')) = H7 at *
      clear hS6 hd6 hal6 hcl6 hra hw6 hw6b hro hro' e6
      rcases hcase with ⟨n, rfl, hn1, hn2⟩ | ⟨rfl, hn⟩ | ⟨rfl, hn⟩
      · walk_at "go"
        refine w_br (fun c1 => ?_) (fun c1 => ?_)
        · obtain ⟨z, hz⟩ : ∃ z, row[n]? = some z := ⟨_, List.getElem?_eq_getElem (by omega)⟩
          have hz2 : (nums row)[n]? = some (.int (z : Int)) := by rw [List.getElem?_map, hz]; rfl
          walk_at "go"
          have ef : nums found ++ [V.int (z : Int)] = nums (found ++ [z]) := by simp [nums]
          rw [ef]
          exact ⟨as', rs, found ++ [z], _, _, rfl, e7.mut hal0, by rw [upd_ne nda]; exact hd7, upd_same, by rw [upd_ne nac.symm]; exact hcl7, by rw [upd_ne naw.symm]; exact hw7, hro7.mono (fun b o pb h => by rw [upd_ne pb.2]; exact h), (hn1 z hz).2, by simp; omega, by omega, hrs2⟩
        · walk_at "go"
          exact ⟨as', rs, found, _, _, rfl, e7, hd7, hal7, hcl7, hw7, hro7, hn2 (by omega), by omega, by omega, hrs2⟩
      · walk_at "go"
        intro p1 hp1
        have nwp : wl ≠ p1 := ne_of_none hw7 hp1
        have nap : al ≠ p1 := ne_of_none hal7 hp1
        have e8 := Ex.new hp1 (o := .lst [V.int (0 + (i : Int))])
        have hp8 : upd H7 p1 (.lst [V.int (0 + (i : Int))]) p1 = some (.lst [V.int (0 + (i : Int))]) := upd_same
        have hra8 := e8 _ _ hra7
        have hw8 := e8 _ _ hw7
        have hd8 := e8 _ _ hd7
        have hal8 := e8 _ _ hal7
        have hcl8 := e8 _ _ hcl7
        have hro8 := hro7.mono fun b o _ h => e8 b o h
        have ee8 := e7.trans e8
        have rnl : (nums row).length = row.length := List.length_map _
        clear hra7 hw7 hd7 hal7 hcl7 hro7 e7
        generalize upd H7 p1 (.lst [V.int (0 + (i : Int))]) = H8 at *
        walk_at "go"
        · exact Nat.le_of_lt (ly_lt (by rw [rnl, List.length_singleton]; omega))
        intro p2 hp2
        have nwp2 : p2 ≠ wl := (ne_of_none hw8 hp2).symm
        have nap2 : p2 ≠ al := (ne_of_none hal8 hp2).symm
        have e9 := Ex.new hp2 (o := .lst ([V.int (0 + (i : Int))] ++ nums row))
        have hp9 : upd H8 p2 (.lst ([V.int (0 + (i : Int))] ++ nums row)) p2 = some (.lst (nums (i :: row))) := by
          rw [upd_same]
          simp [nums]
        have hw9 := e9 _ _ hw8
        have hd9 := e9 _ _ hd8
        have hal9 := e9 _ _ hal8
        have hcl9 := e9 _ _ hcl8
        have hro9 := hro8.mono fun b o _ h => e9 b o h
        have ee9 := ee8.trans e9
        generalize upd H8 p2 (.lst ([V.int (0 + (i : Int))] ++ nums row)) = H9 at *
        walk_at "go"
        have er2 : refs as' ++ [V.ref p2] = refs (as' ++ [p2]) := by simp [refs]
        rw [er2]
        refine ⟨as' ++ [p2], rs ++ [i :: row], found, _, _, rfl, ee9.mut hwl0, by rw [upd_ne ndw]; exact hd9, by rw [upd_ne naw]; exact hal9, by rw [upd_ne ncw]; exact hcl9, upd_same, RowsAt.snoc ⟨nwp2, nap2⟩ (by rw [upd_ne nwp2]; exact hp9) (hro9.mono fun b o pb h => by rw [upd_ne pb.1]; exact h), hn, by omega, by simp; omega, ?_⟩
        intro r hr
        rcases List.mem_append.mp hr with hr | hr
        · exact hrs2 r hr
        · rw [List.mem_singleton.mp hr, List.length_cons]
          omega
      · walk_at "go"
        have er : refs as' ++ [V.ref ra] = refs (as' ++ [ra]) := by simp [refs]
        rw [er]
        have hw8 : upd H7 wl (.lst (refs (as' ++ [ra]))) wl = some (.lst (refs (as' ++ [ra]))) := upd_same
        have l8 : (refs (as' ++ [ra])).length = rs.length + 1 := by rw [← er, List.length_append, asl]; rfl
        walk_at "go"
        have er2 : refs (as' ++ [ra]) ++ [V.ref ra] = refs (as' ++ [ra] ++ [ra]) := by simp [refs]
        rw [er2]
        refine ⟨as' ++ [ra] ++ [ra], rs ++ [row] ++ [row], found, _, _, rfl, (e7.mut hwl0).mut hwl0, by rw [upd_ne ndw, upd_ne ndw]; exact hd7, by rw [upd_ne naw, upd_ne naw]; exact hal7, by rw [upd_ne ncw, upd_ne ncw]; exact hcl7, upd_same, ?_, by rw [List.append_assoc]; exact hn, by omega, by simp; omega, ?_⟩
        · exact RowsAt.snoc ⟨nw, na⟩ (by rw [upd_ne nw, upd_ne nw]; exact hra7) (RowsAt.snoc ⟨nw, na⟩ (by rw [upd_ne nw, upd_ne nw]; exact hra7) (hro7.mono fun b o pb h => by rw [upd_ne pb.1, upd_ne pb.1]; exact h))
        · intro r hr
          rcases List.mem_append.mp hr with hr | hr
          · rcases List.mem_append.mp hr with hr | hr
            · exact hrs2 r hr
            · rw [List.mem_singleton.mp hr]
              omega
          · rw [List.mem_singleton.mp hr]
            omega
    · rintro σ H6 ⟨as, rows, found, y5, y6, rfl, e6, hd6, hal6, hcl6, hw6, hro, hinv, hfl, hrl, hrs⟩
      rw [show (t.enc.length : Int).toNat = t.enc.length by omega] at hinv
      have hfd := hinv.done
      walk_at "go"
      have fl := arnd_len t 0 []
      rw [← hfd] at fl
      refine for_list (K := K) (a := al) (xs := nums found) (fun i σ H' => ∃ (kvs : List (L2.Key × V)) (y7 : Option V), σ = [some (.ref a), some (.ref dl), some (.ref al), some (.ref cl0), some (.ref wl), y5, y6, y7] ∧ Ex H H' ∧ H' al = some (.lst (nums found)) ∧ H' cl0 = some (.dK kvs) ∧ CntD kvs (found.take i)) ⟨[], none, rfl, e6, hal6, hcl6, CntD.nil⟩ (fun i σ H' _ h => by
        obtain ⟨_, _, _, _, e, _⟩ := h
        exact SqL.of e) ?_ ?_
      · rintro i v σ H7 hi ⟨kvs, y7, rfl, e7, hal7, hcl7, hc⟩
        obtain ⟨z, hz, rfl⟩ : ∃ z, found[i]? = some z ∧ v = .int (z : Int) := nums_at hi
        walk_at "go"
        refine ⟨cl0, rfl, isD hcl7, ?_⟩
        walk_at "go"
        refine ⟨valV kvs (.inl (z : Int)), DGet.k (k := .inl (z : Int)) hcl7, ?_⟩
        rw [hc.had z]
        have kl := hc.1
        rw [List.length_take] at kl
        have fl2 := (List.getElem?_eq_some_iff.mp hz).1
        walk_at "go"
        refine w_dput hcl7 (ly_lt (by omega)) ?_
        walk_at "go"
        refine ⟨_, _, rfl, e7.mut hcl0, by rw [upd_ne nac]; exact hal7, upd_same, ?_⟩
        rw [List.take_add_one, hz]
        exact hc.put z
      · rintro σ H7 ⟨kvs, y7, rfl, e7, hal7, hcl7, hc⟩
        have tk : found.take (nums found).length = found := List.take_of_length_le (by rw [List.length_map]; exact Nat.le_refl _)
        rw [tk] at hc
        walk_at "go"
        intro p1 hp1
        have e8 := Ex.new hp1 (o := .lst [V.int 0])
        have hp8 : upd H7 p1 (.lst [V.int 0]) p1 = some (.lst [V.int 0]) := upd_same
        have hcl8 := e8 _ _ hcl7
        have np : cl0 ≠ p1 := ne_of_none hcl7 hp1
        generalize upd H7 p1 (.lst [V.int 0]) = H8 at *
        walk_at "go"
        refine w_lockE hcl8 trivial fun od => ?_
        have hp9 : upd H8 cl0 (.frz od (.dK kvs)) p1 = some (.lst [V.int 0]) := by rw [upd_ne np.symm]; exact hp8
        have hcl9 : upd H8 cl0 (.frz od (.dK kvs)) cl0 = some (.frz od (.dK kvs)) := upd_same
        generalize upd H8 cl0 (.frz od (.dK kvs)) = H9 at *
        walk_at "go"
        refine ⟨cl0, od, rfl, .inl ⟨kvs, hcl9, fun vl hvl => ?_⟩⟩
        have npv : p1 ≠ vl := ne_of_none hp9 hvl
        have ncv : cl0 ≠ vl := ne_of_none hcl9 hvl
        refine lc_keys (fun i H' => H' p1 = some (.lst [V.int 0]) ∧ H' cl0 = some (.frz od (.dK kvs)) ∧ ∃ ns : List Int, H' vl = some (.lst (ns.map V.int)) ∧ ns.length = i ∧ ∀ (j : Nat) (x : Nat) (v : V), j < i → kvs[j]? = some (.inl (x : Int), v) → ∃ c ∈ ns, valV kvs (.inl (x : Int)) = some (.int c))
          ⟨by rw [upd_ne npv]; exact hp9, by rw [upd_ne ncv]; exact hcl9, [], upd_same, rfl, fun j x v h => absurd h (Nat.not_lt_zero _)⟩ (fun i H h => h.2.1) ?_ ?_
        · rintro i k v H10 hk ⟨hp10, hcl10, ns, hvl10, hnl, hns⟩
          obtain ⟨x, hx, hm⟩ := hc.2.2 _ (List.mem_of_getElem? hk)
          have hx : k = .inl (x : Int) := hx
          subst hx
          have hv := hc.2.1 x
          rw [if_pos hm] at hv
          have ki := (List.getElem?_eq_some_iff.mp hk).1
          have kl := hc.1
          have nml : (ns.map V.int).length = ns.length := List.length_map _
          walk_at "go"
          refine w_dgetF hcl10 hv ?_
          refine ⟨_, hvl10, ly_lt (by omega), by rw [upd_ne npv]; exact hp10, by rw [upd_ne ncv]; exact hcl10, ns ++ [((found.count x : Nat) : Int)], ?_, by simp [hnl], fun j y w hj hy => ?_⟩
          · rw [upd_same]
            simp
          · by_cases ej : j < i
            · obtain ⟨c, h1, h2⟩ := hns j y w ej hy
              exact ⟨c, List.mem_append_left _ h1, h2⟩
            · have ej : j = i := by omega
              subst ej
              rw [hk] at hy
              have e1 := (Prod.mk.inj (Option.some.inj hy)).1
              have e2 : (x : Int) = y := Sum.inl.inj e1
              have e3 : x = y := by omega
              subst e3
              exact ⟨_, List.mem_append_right _ (List.mem_singleton.mpr rfl), hv⟩
        · rintro H10 ⟨hp10, hcl10, ns, hvl10, hnl, hns⟩
          refine ⟨hcl10, ?_⟩
          have hp11 : upd H10 cl0 (.dK kvs) p1 = some (.lst [V.int 0]) := by rw [upd_ne np.symm]; exact hp10
          have hv11 : upd H10 cl0 (.dK kvs) vl = some (.lst (ns.map V.int)) := by rw [upd_ne ncv.symm]; exact hvl10
          have kl := hc.1
          have nml : (ns.map V.int).length = ns.length := List.length_map _
          generalize upd H10 cl0 (.dK kvs) = H11 at *
          walk_at "go"
          · exact Nat.le_of_lt (ly_lt (by rw [nml, List.length_singleton]; omega))
          intro p2 hp2
          have hp12 : upd H11 p2 (.lst ([V.int 0] ++ ns.map V.int)) p2 = some (.lst ((0 :: ns).map V.int)) := upd_same
          generalize upd H11 p2 (.lst ([V.int 0] ++ ns.map V.int)) = H12 at *
          walk_at "go"
          refine ⟨p2, 0 :: ns, rfl, SqL.of hp12, by simp, fun m hm hmax => ?_⟩
          refine q H12 m fun hle => arnd_aff t 0 [] fun x => ?_
          rw [← hfd]
          by_cases hx : x ∈ found
          · obtain ⟨j, v, hj⟩ := hc.key hx
            obtain ⟨c, hcm, hcv⟩ := hns j x v (List.getElem?_eq_some_iff.mp hj).1 hj
            rw [hc.2.1 x, if_pos hx] at hcv
            have ec := V.int.inj (Option.some.inj hcv)
            have := hmax c (List.mem_cons_of_mem _ hcm)
            omega
          · rw [List.count_eq_zero.mpr hx]
            exact Nat.zero_le _
end
end Ly
set_option Elab.async false
set_option linter.all false
set_option maxRecDepth 100000
set_option maxHeartbeats 8000000
namespace Ly
open PySem PySem.Spec PyProof.Rows L2 Evl
local macro_rules | `(tactic| walk_at "ne") => `(tactic| first
  | assumption
  | ((refine' Ne.symm ?hq); (case hq => assumption))
  | ((refine' ne_of_none ?nh1 ?nh2); (case nh2 => assumption); (case nh1 => walk_at "hp"))
  | ((refine' Ne.symm (ne_of_none ?nh1 ?nh2)); (case nh2 => assumption); (case nh1 => walk_at "hp")))
local macro_rules | `(tactic| walk_at "hp") => `(tactic| first
  | assumption
  | exact upd_same
  | ((refine' SqL.of ?hq); (case hq => walk_at "hp"))
  | ((refine' SqT.of ?hq); (case hq => walk_at "hp"))
  | ((refine' (upd_ne ?hne).trans ?hrest); (case hne => walk_at "ne"); (case hrest => walk_at "hp"))
  | ((refine' ly_at ?hex ?hh); (case hex => assumption); (case hh => walk_at "hp"))
  | ((refine' ly_atF ?hex ?hnn ?hh); (case hex => assumption); (case hh => walk_at "hp"); (case hnn => walk_at "ne"))
  | ((refine' ex_t ?hex ?hh); (case hh => assumption); (case hex => walk_at "ex"))
  | ((refine' ex_l ?hex ?hh); (case hh => assumption); (case hex => walk_at "ex")))
local macro_rules | `(tactic| walk_at "ex") => `(tactic| first
  | assumption
  | exact Ex.refl _
  | ((refine' ex_new ?xa ?xb); (case xb => assumption); (case xa => walk_at "ex"))
  | ((refine' ex_upd ?xa ?xb); (case xb => walk_at "free"); (case xa => walk_at "ex"))
  | ((refine' Ex.trans ?xa ?xb); (case xb => assumption); (case xa => walk_at "ex")))
local macro_rules | `(tactic| walk_at "free") => `(tactic| first
  | assumption
  | ((refine' fresh_back ?xa ?xb); (case xb => assumption); (case xa => walk_at "ex")))
local macro_rules | `(tactic| walk_at "fr") => `(tactic| first
  | assumption
  | exact Fr.refl _ _
  | ((refine' Fr.own ?hq); (case hq => walk_at "fr"))
  | ((refine' Fr.new ?xa ?xb); (case xb => assumption); (case xa => walk_at "fr"))
  | ((refine' Fr.mut ?xa ?xb); (case xb => assumption); (case xa => walk_at "fr"))
  | ((refine' Fr.trans ?xa ?xb); (case xb => assumption); (case xa => walk_at "fr"))
  | ((refine' Fr.trans ?xa (Fr.ex ?xb)); (case xb => assumption); (case xa => walk_at "fr")))
local macro_rules | `(tactic| walk_at "go1") => `(tactic| first
  | (with_reducible refine' w_seq ?_)
  | (with_reducible refine' w_asg ?_)
  | (with_reducible refine' w_ret ?_)
  | (with_reducible refine' w_drop ?_)
  | (with_reducible refine' w_if ?_)
  | (with_reducible refine' w_next ?_)
  | (with_reducible refine' w_name ?_)
  | (with_reducible refine' w_sub ?_)
  | ((with_reducible refine' w_var ?hv ?_); (case hv => exact rfl))
  | (with_reducible refine' w_c ?_)
  | (with_reducible refine' w_op ?_)
  | (with_reducible refine' w_un ?_)
  | (with_reducible refine' w_ch ?_)
  | (with_reducible refine' w_I0 ?_)
  | ((with_reducible refine' w_I ?hc ?_); (case hc => first | (exact ly_mulL (by decide) (by decide)) | (exact ly_mulR (by decide) (by decide)) | (exact ly_mulL (by omega) (by omega)) | (show (_ : Int) ≠ 0; decide) | (show (_ : Int) ≠ 0; omega) | (exact ⟨by decide, by decide⟩) | (exact ⟨by omega, by omega⟩)))
  | (with_reducible refine' w_U ?_)
  | ((with_reducible refine' w_eq ?hs ?_); (case hs => exact rfl))
  | ((with_reducible refine' w_ne ?hs ?_); (case hs => exact rfl))
  | (with_reducible refine' w_isB ?_)
  | (with_reducible refine' w_notB ?_)
  | (with_reducible refine' w_nil ?_)
  | (with_reducible refine' w_cons ?_)
  | (with_reducible refine' w_tup ?_)
  | (with_reducible refine' w_lst ?_)
  | (with_reducible refine' w_cb ?_)
  | (with_reducible refine' w_call ?_)
  | (with_reducible refine' w_bm ?_)
  | (with_reducible refine' w_bm0 ?_)
  | ((with_reducible refine' w_app ?hh ?hz ?_); (case hh => walk_at "hp"); (case hz => first | exact ly_lt (by omega) | exact ly_lt (by simp only [List.length_append, List.length_map, List.length_cons, List.length_nil]; omega)))
  | ((with_reducible refine' w_popA ?hh ?_); (case hh => walk_at "hp"))
  | ((with_reducible refine' w_ext ?hh ?hh2 ?hz ?_); (case hh => walk_at "hp"); (case hh2 => walk_at "hp"))
  | ((with_reducible refine' w_ixL ?hh ?ha ?_); (case hh => walk_at "hp"); (case ha => first | exact rfl | exact at_map (by omega) | exact atI_last _ _ | ((refine' at_of ?ae ?ah); (case ah => assumption); (case ae => omega))))
  | ((with_reducible refine' w_ixT ?hh ?ha ?_); (case hh => walk_at "hp"); (case ha => first | exact rfl | exact at_map (by omega) | exact atI_last _ _ | ((refine' at_of ?ae ?ah); (case ah => assumption); (case ae => omega))))
  | ((with_reducible refine' w_cat ?hh ?hh2 ?hz ?_); (case hh => walk_at "hp"); (case hh2 => walk_at "hp"))
  | ((with_reducible refine' w_setL ?hh ?ha ?_); (case hh => walk_at "hp"); (case ha => exact rfl))
  | (with_reducible refine' w_test ?_)
  | (with_reducible refine' w_tB ?_)
  | (with_reducible refine' w_bl ?_)
  | (with_reducible refine' w_and ?_)
  | (with_reducible refine' w_or ?_)
  | (with_reducible refine' w_not ?_)
  | (with_reducible refine' w_andV ?_)
  | (with_reducible refine' w_orV ?_)
  | (with_reducible refine' w_notV ?_)
  | (with_reducible refine' w_ifE ?_)
  | (with_reducible refine' w_for ?_)
  | ((with_reducible refine' w_nin ?hh ?_); (case hh => walk_at "hp"))
  | ((with_reducible refine' w_sorted ?hh ?_); (case hh => walk_at "hp"))
  | (with_reducible refine' w_tsadd ?_)
  | ((with_reducible refine' w_tsadd1 ?hh ?_); (case hh => walk_at "hp"))
  | ((with_reducible refine' w_sadd ?hh ?hr ?_); (case hh => walk_at "hp"); (case hr => omega))
  | (with_reducible refine' w_iZ ?_)
  | ((with_reducible refine' w_iZ1 ?hh ?hh2 ?_); (case hh => walk_at "hp"); (case hh2 => walk_at "hp"))
  | (with_reducible refine' w_iS ?_)
  | (with_reducible refine' w_iS1 ?_)
  | ((with_reducible refine' w_gtup ?hh ?hn ?_); (case hh => walk_at "hp"); (case hn => exact rfl))
  | (with_reducible refine' w_gcons ?_)
  | (with_reducible refine' w_gnil ?_)
  | (with_reducible refine' w_js ?_)
  | (with_reducible refine' w_jsn ?_)
  | ((with_reducible refine' w_js1 ?hl ?_); (case hl => decide +kernel))
  | (with_reducible refine' w_fmt ?_)
  | ((with_reducible refine' w_fmt1 ?hl ?_); (case hl => decide +kernel))
  | (with_reducible refine' w_callS ?_)
  | ((with_reducible refine' w_truL ?hh ?_); (case hh => walk_at "hp"))
  | (with_reducible refine' w_lc ?_)
  | (with_reducible refine' w_yes ?_)
  | ((with_reducible refine' w_wipe ?he ?_); (case he => exact rfl))
  | (with_reducible refine' w_iL ?_)
  | (with_reducible refine' w_iT ?_)
  | (with_reducible refine' w_iR ?_)
  | ((with_reducible refine' w_iL1 ?hh ?_); (case hh => walk_at "hp"))
  | ((with_reducible refine' w_iT1 ?hh ?_); (case hh => walk_at "hp"))
  | ((with_reducible refine' w_iR1 ?h1 ?h2 ?_); (case h1 => omega); (case h2 => omega))
  | ((with_reducible refine' w_aug ?hv ?_); (case hv => exact rfl))
  | (with_reducible refine' w_ipI ?_)
  | ((with_reducible refine' w_isi ?hy ?hk ?_); (case hy => walk_at "ty"); (case hk => walk_at "kit"))
  | ((with_reducible refine' w_int ?_))
  | ((with_reducible refine' w_intB ?_))
  | ((with_reducible refine' w_abs ?_))
  | ((with_reducible refine' w_lenL ?hh ?_); (case hh => walk_at "hp"))
  | ((with_reducible refine' w_lenT ?hh ?_); (case hh => walk_at "hp"))
  | ((with_reducible refine' w_tupL ?hh ?_); (case hh => walk_at "hp"))
  | ((with_reducible refine' w_tupT ?hh ?_); (case hh => walk_at "hp"))
  | ((with_reducible refine' w_catA ?hh ?hh2 ?hz ?_); (case hh => walk_at "hp"); (case hh2 => walk_at "hp"); (case hz => walk_at "len"))
  | ((with_reducible refine' w_repB ?hh ?hne ?h2 ?h3 ?hz ?_); (case hh => walk_at "hp"); (case hne => simp); (case h2 => omega); (case h3 => omega); (case hz => exact Nat.le_of_ble_eq_true rfl))
  | ((with_reducible refine' w_eqN ?hh ?hh2 ?n1 ?n2 ?_); (case hh => walk_at "hp"); (case hh2 => walk_at "hp"); (case n1 => walk_at "nd"); (case n2 => walk_at "nd"))
  | ((with_reducible refine' w_neN ?hh ?hh2 ?n1 ?n2 ?_); (case hh => walk_at "hp"); (case hh2 => walk_at "hp"); (case n1 => walk_at "nd"); (case n2 => walk_at "nd"))
  | ((with_reducible refine' w_eqL ?hh ?hh2 ?n1 ?n2 ?_); (case hh => walk_at "hp"); (case hh2 => walk_at "hp"); (case n1 => walk_at "nd"); (case n2 => walk_at "nd"))
  | ((with_reducible refine' w_neL ?hh ?hh2 ?n1 ?n2 ?_); (case hh => walk_at "hp"); (case hh2 => walk_at "hp"); (case n1 => walk_at "nd"); (case n2 => walk_at "nd"))
  | ((with_reducible refine' w_neNon ?hh2 ?n2 ?_); (case hh2 => walk_at "hp"); (case n2 => walk_at "nd"))
  | ((with_reducible refine' w_eqNon ?hh2 ?n2 ?_); (case hh2 => walk_at "hp"); (case n2 => walk_at "nd"))
  | ((with_reducible refine' w_slA ?hh ?_); (case hh => walk_at "hp"))
  | ((with_reducible refine' w_disp ?hz ?_); (case hz => exact sz_of (Nat.le_of_ble_eq_true rfl)))
  | ((with_reducible refine' w_tyL ?hh ?_); (case hh => walk_at "hp"))
  | (with_reducible refine' iteT ?_)
  | (with_reducible refine' iteF ?_)
  | (with_reducible refine' w_nT ?_)
  | (with_reducible refine' w_nn ?_)
  | (with_reducible refine' w_nnT ?_)
  | (with_reducible refine' w_nnR ?_)
  | (with_reducible refine' w_neG ?_)
  | (with_reducible refine' w_eqG ?_)
  | (with_reducible refine' w_neS ?_)
  | (with_reducible refine' w_eqS ?_)
  | (with_reducible refine' w_neSb ?_)
  | (with_reducible refine' w_eqSb ?_)
  | (with_reducible refine' w_deIS ?_)
  | (with_reducible refine' w_deSI ?_)
  | (with_reducible refine' w_deISn ?_)
  | ((with_reducible refine' w_deST ?he ?_); (case he => decide +kernel))
  | ((with_reducible refine' w_deSF ?he ?_); (case he => decide +kernel))
  | ((with_reducible refine' w_deSTn ?he ?_); (case he => decide +kernel))
  | ((with_reducible refine' w_deSFn ?he ?_); (case he => decide +kernel))
  | (with_reducible refine' w_nF ?_)
  | dsimp only [Bool.not_true, Bool.not_false])
local macro_rules | `(tactic| walk_at "ty") => `(tactic| first
  | exact .base (.int _) | exact .base (.str _) | exact .base (.bl _) | exact .base .non
  | ((refine' tyx_t ?hq); (case hq => walk_at "hp")) | ((refine' tyx_l ?hq); (case hq => walk_at "hp")) | ((refine' .base (.tup ?hq)); (case hq => walk_at "hp")) | assumption)
local macro_rules | `(tactic| walk_at "go") => `(tactic| repeat walk_at "go1")
local macro_rules | `(tactic| walk_at "st") => `(tactic| try dsimp only [cxOf, Cx.nox, Cx.wish])
local macro_rules | `(tactic| walk_at "kit") => `(tactic| with_reducible first | exact kit_int_int | exact kit_int_str | exact kit_int_bool | exact kit_int_tuple | exact kit_int_list | exact kit_str_int | exact kit_str_str | exact kit_str_bool | exact kit_str_tuple | exact kit_str_list | exact kit_bool_int | exact kit_bool_str | exact kit_bool_bool | exact kit_bool_tuple | exact kit_bool_list | exact kit_NoneType_int | exact kit_NoneType_str | exact kit_NoneType_bool | exact kit_NoneType_tuple | exact kit_NoneType_list | exact kit_list_int | exact kit_list_str | exact kit_list_bool | exact kit_list_tuple | exact kit_list_list | exact kit_tuple_int | exact kit_tuple_str | exact kit_tuple_bool | exact kit_tuple_tuple | exact kit_tuple_list)
local macro_rules | `(tactic| walk_at "nd") => `(tactic| first
  | assumption
  | exact Tm.nds _
  | exact Nds.nil
  | exact Nds.ofInts _
  | ((refine' Nds.cons ?na ?nb); (case na => first | exact Nds.I _ | exact Nds.L | exact Nds.A); (case nb => walk_at "nd"))
  | ((refine' Nds.app ?na ?nb); (case na => walk_at "nd"); (case nb => walk_at "nd"))
  | ((refine' Nds.rep ?na _); (case na => walk_at "nd")))
local macro_rules | `(tactic| walk_at "len") => `(tactic| first
  | exact ly_sz (by omega)
  | ((simp only [List.length_append, List.length_cons, List.length_nil, List.length_map, PyProof.Rows.lm_len_rep_flat]); exact ly_sz (by omega)))
local macro_rules | `(tactic| walk_at "go1") => `(tactic| first
  | (with_reducible refine' w_kget2 ?_)
  | (with_reducible refine' w_isRN ?_)
  | (with_reducible refine' w_isNN ?_)
  | (with_reducible refine' w_isIN ?_)
  | ((with_reducible refine' w_kg ?hd ?_); (case hd => assumption)))
local macro_rules | `(tactic| walk_at "go1") => `(tactic| first
  | ((with_reducible refine' w_extT ?hh ?hh2 ?hz ?_); (case hh => walk_at "hp"); (case hh2 => walk_at "hp"))
  | ((with_reducible refine' w_I ?hc ?_); (case hc => exact ⟨by decide, by decide, by decide⟩))
  | (with_reducible refine' w_sl ?_)
  | (with_reducible refine' w_noP ?_)
  | (with_reducible refine' w_part ?_)
  | (with_reducible refine' w_part1 ?_)
  | (with_reducible refine' w_it ?_)
  | (with_reducible refine' w_it1 ?_)
  | ((with_reducible refine' w_lenZ ?hz ?_); (case hz => omega))
  | ((with_reducible refine' w_addZb ?hz ?_); (case hz => omega))
  | ((with_reducible refine' w_addZf ?hz ?_); (case hz => omega))
  | ((with_reducible refine' w_addZa ?hz ?_); (case hz => omega))
  | ((with_reducible refine' w_inS ?hh ?_); (case hh => walk_at "hp"))
  | ((with_reducible refine' w_ixT ?hh ?ha ?_); (case hh => assumption); (case ha => exact atI_nat (by assumption))))
local macro_rules | `(tactic| walk_at "go1") => `(tactic| first
  | (with_reducible refine' w_iR2 ?_)
  | ((with_reducible refine' w_iR21 ?h1 ?h2 ?h3 ?h4 ?_); (case h1 => omega); (case h2 => omega); (case h3 => omega); (case h4 => omega))
  | (with_reducible refine' w_nnI ?_)
  | (with_reducible refine' w_max ?_)
  | (with_reducible refine' w_break ?_)
  | (with_reducible refine' w_cont ?_))
section
variable {P : Program} {w : World} {K : PySem.W.Frag} {mg : Str → Option Value} {base : Heap} {tk : Nat → Tok} {cl : Nat → Addr}
def spTold97 (K : PySem.W.Frag) : Sp := fun vs H Q _ => ∃ (a l : Addr) (t : Tm) (road : List (List Nat)), vs = [.ref a, .ref l] ∧ SqT K H a t.enc ∧ H l = some (.lst (plcs road)) ∧ t.enc.length ≤ 3000 ∧ road.length ≤ 1000 ∧ (∀ r ∈ road, r.length ≤ 3000) ∧ Tm.pass t road ≠ .none ∧
  (∀ ms v, Run t road ms v → (∀ out, stdS 200 t road = some out → ∀ H' q, Ex H H' → H q = none → H' q = some (.lst (plcs out)) → Q (.ref q) H') ∧ (stdS 200 t road = none → ∀ H', Ex H H' → Q .non H')) ∧
  (Tm.pass t road = .large → ∀ H', Ex H H' → Q .non H')
theorem ok_lstandard97 {f : Addr} {fd : FuncData} (F : Fun K "_law_standard" "_law_standard" s_law_standard f fd) (T : Txt w K mg tk cl)
    (D1 : Def P w K mg base (L2.CX P w) 10 "standard" ["term", "road"] (spStandard K (cl 1) (cl 2))) : FnOk P w K mg base CX0 12 f fd ["term", "road"] (spTold97 K) := by
  obtain ⟨f1, fd1, g_standard, kp_standard, b_standard, G_standard⟩ := D1
  refine F.ok sc_law_standard (fun vs H Q E h => ?_) (fun cdv A outer s H vs Q E hr h => ?_)
  · obtain ⟨_, _, _, _, rfl, _⟩ := h
    rfl
  · obtain ⟨a, l, t, road, rfl, hS, hl, hlen, hrn, hrs, nn, q, ql⟩ := h
    refine ⟨_, (pss_cons (ps_try_only rfl rfl ⟨rfl, by decide, .inl T.g_TooLarge⟩ takes0 (fun W pn xe tk po => (pss_one (ps_ret (pe_callS G_standard (hr.mono (by first | decide | omega)) (by rfl) g_standard kp_standard b_standard (fun σ => passAt tk σ) (pa_cons (pv 0) (pa_cons (pv 1) pa_nil)))))) (fun a oe cls d pn hz hf => (pss_one (ps_ret pe_non)))) (pss_one (ps_ret (pe_tup pa_nil)))), ?_⟩
    refine sl_of (σ2 := [some _, some _]) rfl ?_
    walk_at "st"
    walk_at "go"
    refine ⟨a, l, t, road, rfl, hS, hl, hlen, hrn, hrs, fun ms v run => ⟨fun out ho H2 p e2 hp hp2 => ?_, fun ho H2 e2 => ?_⟩, fun h H2 e2 => ?_, fun h => absurd h nn⟩
    · walk_at "go"
      exact (q ms v run).1 out ho H2 p e2 hp hp2
    · refine ⟨true, T.e_TooLarge_TooLarge, fun _ a1 ha1 => ?_, fun z => nomatch z⟩
      walk_at "go"
      exact (q ms v run).2 ho _ e2
    · refine ⟨true, T.e_TooLarge_TooLarge, fun _ a1 ha1 => ?_, fun z => nomatch z⟩
      walk_at "go"
      exact ql h _ e2
end
end Ly
set_option Elab.async false
set_option linter.all false
set_option maxRecDepth 100000
set_option maxHeartbeats 8000000
namespace Ly
open PySem PySem.Spec PyProof.Rows L2 Evl
local macro_rules | `(tactic| walk_at "ne") => `(tactic| first
  | assumption
  | ((refine' Ne.symm ?hq); (case hq => assumption))
  | ((refine' ne_of_none ?nh1 ?nh2); (case nh2 => assumption); (case nh1 => walk_at "hp"))
  | ((refine' Ne.symm (ne_of_none ?nh1 ?nh2)); (case nh2 => assumption); (case nh1 => walk_at "hp")))
local macro_rules | `(tactic| walk_at "hp") => `(tactic| first
  | assumption
  | exact upd_same
  | ((refine' SqL.of ?hq); (case hq => walk_at "hp"))
  | ((refine' SqT.of ?hq); (case hq => walk_at "hp"))
  | ((refine' (upd_ne ?hne).trans ?hrest); (case hne => walk_at "ne"); (case hrest => walk_at "hp"))
  | ((refine' ly_at ?hex ?hh); (case hex => assumption); (case hh => walk_at "hp"))
  | ((refine' ly_atF ?hex ?hnn ?hh); (case hex => assumption); (case hh => walk_at "hp"); (case hnn => walk_at "ne"))
  | ((refine' ex_t ?hex ?hh); (case hh => assumption); (case hex => walk_at "ex"))
  | ((refine' ex_l ?hex ?hh); (case hh => assumption); (case hex => walk_at "ex")))
local macro_rules | `(tactic| walk_at "ex") => `(tactic| first
  | assumption
  | exact Ex.refl _
  | ((refine' ex_new ?xa ?xb); (case xb => assumption); (case xa => walk_at "ex"))
  | ((refine' ex_upd ?xa ?xb); (case xb => walk_at "free"); (case xa => walk_at "ex"))
  | ((refine' Ex.trans ?xa ?xb); (case xb => assumption); (case xa => walk_at "ex")))
local macro_rules | `(tactic| walk_at "free") => `(tactic| first
  | assumption
  | ((refine' fresh_back ?xa ?xb); (case xb => assumption); (case xa => walk_at "ex")))
local macro_rules | `(tactic| walk_at "fr") => `(tactic| first
  | assumption
  | exact Fr.refl _ _
  | ((refine' Fr.own ?hq); (case hq => walk_at "fr"))
  | ((refine' Fr.new ?xa ?xb); (case xb => assumption); (case xa => walk_at "fr"))
  | ((refine' Fr.mut ?xa ?xb); (case xb => assumption); (case xa => walk_at "fr"))
  | ((refine' Fr.trans ?xa ?xb); (case xb => assumption); (case xa => walk_at "fr"))
  | ((refine' Fr.trans ?xa (Fr.ex ?xb)); (case xb => assumption); (case xa => walk_at "fr")))
local macro_rules | `(tactic| walk_at "go1") => `(tactic| first
  | (with_reducible refine' w_seq ?_)
  | (with_reducible refine' w_asg ?_)
  | (with_reducible refine' w_ret ?_)
  | (with_reducible refine' w_drop ?_)
  | (with_reducible refine' w_if ?_)
  | (with_reducible refine' w_next ?_)
  | (with_reducible refine' w_name ?_)
  | (with_reducible refine' w_sub ?_)
  | ((with_reducible refine' w_var ?hv ?_); (case hv => exact rfl))
  | (with_reducible refine' w_c ?_)
  | (with_reducible refine' w_op ?_)
  | (with_reducible refine' w_un ?_)
  | (with_reducible refine' w_ch ?_)
  | (with_reducible refine' w_I0 ?_)
  | ((with_reducible refine' w_I ?hc ?_); (case hc => first | (exact ly_mulL (by decide) (by decide)) | (exact ly_mulR (by decide) (by decide)) | (exact ly_mulL (by omega) (by omega)) | (show (_ : Int) ≠ 0; decide) | (show (_ : Int) ≠ 0; omega) | (exact ⟨by decide, by decide⟩) | (exact ⟨by omega, by omega⟩)))
  | (with_reducible refine' w_U ?_)
  | ((with_reducible refine' w_eq ?hs ?_); (case hs => exact rfl))
  | ((with_reducible refine' w_ne ?hs ?_); (case hs => exact rfl))
  | (with_reducible refine' w_isB ?_)
  | (with_reducible refine' w_notB ?_)
  | (with_reducible refine' w_nil ?_)
  | (with_reducible refine' w_cons ?_)
  | (with_reducible refine' w_tup ?_)
  | (with_reducible refine' w_lst ?_)
  | (with_reducible refine' w_cb ?_)
  | (with_reducible refine' w_call ?_)
  | (with_reducible refine' w_bm ?_)
  | (with_reducible refine' w_bm0 ?_)
  | ((with_reducible refine' w_app ?hh ?hz ?_); (case hh => walk_at "hp"); (case hz => first | exact ly_lt (by omega) | exact ly_lt (by simp only [List.length_append, List.length_map, List.length_cons, List.length_nil]; omega)))
  | ((with_reducible refine' w_popA ?hh ?_); (case hh => walk_at "hp"))
  | ((with_reducible refine' w_ext ?hh ?hh2 ?hz ?_); (case hh => walk_at "hp"); (case hh2 => walk_at "hp"))
  | ((with_reducible refine' w_ixL ?hh ?ha ?_); (case hh => walk_at "hp"); (case ha => first | exact rfl | exact at_map (by omega) | exact atI_last _ _ | ((refine' at_of ?ae ?ah); (case ah => assumption); (case ae => omega))))
  | ((with_reducible refine' w_ixT ?hh ?ha ?_); (case hh => walk_at "hp"); (case ha => first | exact rfl | exact at_map (by omega) | exact atI_last _ _ | ((refine' at_of ?ae ?ah); (case ah => assumption); (case ae => omega))))
  | ((with_reducible refine' w_cat ?hh ?hh2 ?hz ?_); (case hh => walk_at "hp"); (case hh2 => walk_at "hp"))
  | ((with_reducible refine' w_setL ?hh ?ha ?_); (case hh => walk_at "hp"); (case ha => exact rfl))
  | (with_reducible refine' w_test ?_)
  | (with_reducible refine' w_tB ?_)
  | (with_reducible refine' w_bl ?_)
  | (with_reducible refine' w_and ?_)
  | (with_reducible refine' w_or ?_)
  | (with_reducible refine' w_not ?_)
  | (with_reducible refine' w_andV ?_)
  | (with_reducible refine' w_orV ?_)
  | (with_reducible refine' w_notV ?_)
  | (with_reducible refine' w_ifE ?_)
  | (with_reducible refine' w_for ?_)
  | ((with_reducible refine' w_nin ?hh ?_); (case hh => walk_at "hp"))
  | ((with_reducible refine' w_sorted ?hh ?_); (case hh => walk_at "hp"))
  | (with_reducible refine' w_tsadd ?_)
  | ((with_reducible refine' w_tsadd1 ?hh ?_); (case hh => walk_at "hp"))
  | ((with_reducible refine' w_sadd ?hh ?hr ?_); (case hh => walk_at "hp"); (case hr => omega))
  | (with_reducible refine' w_iZ ?_)
  | ((with_reducible refine' w_iZ1 ?hh ?hh2 ?_); (case hh => walk_at "hp"); (case hh2 => walk_at "hp"))
  | (with_reducible refine' w_iS ?_)
  | (with_reducible refine' w_iS1 ?_)
  | ((with_reducible refine' w_gtup ?hh ?hn ?_); (case hh => walk_at "hp"); (case hn => exact rfl))
  | (with_reducible refine' w_gcons ?_)
  | (with_reducible refine' w_gnil ?_)
  | (with_reducible refine' w_js ?_)
  | (with_reducible refine' w_jsn ?_)
  | ((with_reducible refine' w_js1 ?hl ?_); (case hl => decide +kernel))
  | (with_reducible refine' w_fmt ?_)
  | ((with_reducible refine' w_fmt1 ?hl ?_); (case hl => decide +kernel))
  | (with_reducible refine' w_callS ?_)
  | ((with_reducible refine' w_truL ?hh ?_); (case hh => walk_at "hp"))
  | (with_reducible refine' w_lc ?_)
  | (with_reducible refine' w_yes ?_)
  | ((with_reducible refine' w_wipe ?he ?_); (case he => exact rfl))
  | (with_reducible refine' w_iL ?_)
  | (with_reducible refine' w_iT ?_)
  | (with_reducible refine' w_iR ?_)
  | ((with_reducible refine' w_iL1 ?hh ?_); (case hh => walk_at "hp"))
  | ((with_reducible refine' w_iT1 ?hh ?_); (case hh => walk_at "hp"))
  | ((with_reducible refine' w_iR1 ?h1 ?h2 ?_); (case h1 => omega); (case h2 => omega))
  | ((with_reducible refine' w_aug ?hv ?_); (case hv => exact rfl))
  | (with_reducible refine' w_ipI ?_)
  | ((with_reducible refine' w_isi ?hy ?hk ?_); (case hy => walk_at "ty"); (case hk => walk_at "kit"))
  | ((with_reducible refine' w_int ?_))
  | ((with_reducible refine' w_intB ?_))
  | ((with_reducible refine' w_abs ?_))
  | ((with_reducible refine' w_lenL ?hh ?_); (case hh => walk_at "hp"))
  | ((with_reducible refine' w_lenT ?hh ?_); (case hh => walk_at "hp"))
  | ((with_reducible refine' w_tupL ?hh ?_); (case hh => walk_at "hp"))
  | ((with_reducible refine' w_tupT ?hh ?_); (case hh => walk_at "hp"))
  | ((with_reducible refine' w_catA ?hh ?hh2 ?hz ?_); (case hh => walk_at "hp"); (case hh2 => walk_at "hp"); (case hz => walk_at "len"))
  | ((with_reducible refine' w_repB ?hh ?hne ?h2 ?h3 ?hz ?_); (case hh => walk_at "hp"); (case hne => simp); (case h2 => omega); (case h3 => omega); (case hz => exact Nat.le_of_ble_eq_true rfl))
  | ((with_reducible refine' w_eqN ?hh ?hh2 ?n1 ?n2 ?_); (case hh => walk_at "hp"); (case hh2 => walk_at "hp"); (case n1 => walk_at "nd"); (case n2 => walk_at "nd"))
  | ((with_reducible refine' w_neN ?hh ?hh2 ?n1 ?n2 ?_); (case hh => walk_at "hp"); (case hh2 => walk_at "hp"); (case n1 => walk_at "nd"); (case n2 => walk_at "nd"))
  | ((with_reducible refine' w_eqL ?hh ?hh2 ?n1 ?n2 ?_); (case hh => walk_at "hp"); (case hh2 => walk_at "hp"); (case n1 => walk_at "nd"); (case n2 => walk_at "nd"))
  | ((with_reducible refine' w_neL ?hh ?hh2 ?n1 ?n2 ?_); (case hh => walk_at "hp"); (case hh2 => walk_at "hp"); (case n1 => walk_at "nd"); (case n2 => walk_at "nd"))
  | ((with_reducible refine' w_neNon ?hh2 ?n2 ?_); (case hh2 => walk_at "hp"); (case n2 => walk_at "nd"))
  | ((with_reducible refine' w_eqNon ?hh2 ?n2 ?_); (case hh2 => walk_at "hp"); (case n2 => walk_at "nd"))
  | ((with_reducible refine' w_slA ?hh ?_); (case hh => walk_at "hp"))
  | ((with_reducible refine' w_disp ?hz ?_); (case hz => exact sz_of (Nat.le_of_ble_eq_true rfl)))
  | ((with_reducible refine' w_tyL ?hh ?_); (case hh => walk_at "hp"))
  | (with_reducible refine' iteT ?_)
  | (with_reducible refine' iteF ?_)
  | (with_reducible refine' w_nT ?_)
  | (with_reducible refine' w_nn ?_)
  | (with_reducible refine' w_nnT ?_)
  | (with_reducible refine' w_nnR ?_)
  | (with_reducible refine' w_neG ?_)
  | (with_reducible refine' w_eqG ?_)
  | (with_reducible refine' w_neS ?_)
  | (with_reducible refine' w_eqS ?_)
  | (with_reducible refine' w_neSb ?_)
  | (with_reducible refine' w_eqSb ?_)
  | (with_reducible refine' w_deIS ?_)
  | (with_reducible refine' w_deSI ?_)
  | (with_reducible refine' w_deISn ?_)
  | ((with_reducible refine' w_deST ?he ?_); (case he => decide +kernel))
  | ((with_reducible refine' w_deSF ?he ?_); (case he => decide +kernel))
  | ((with_reducible refine' w_deSTn ?he ?_); (case he => decide +kernel))
  | ((with_reducible refine' w_deSFn ?he ?_); (case he => decide +kernel))
  | (with_reducible refine' w_nF ?_)
  | dsimp only [Bool.not_true, Bool.not_false])
local macro_rules | `(tactic| walk_at "ty") => `(tactic| first
  | exact .base (.int _) | exact .base (.str _) | exact .base (.bl _) | exact .base .non
  | ((refine' tyx_t ?hq); (case hq => walk_at "hp")) | ((refine' tyx_l ?hq); (case hq => walk_at "hp")) | ((refine' .base (.tup ?hq)); (case hq => walk_at "hp")) | assumption)
local macro_rules | `(tactic| walk_at "go") => `(tactic| repeat walk_at "go1")
local macro_rules | `(tactic| walk_at "st") => `(tactic| try dsimp only [cxOf, Cx.nox, Cx.wish])
local macro_rules | `(tactic| walk_at "kit") => `(tactic| with_reducible first | exact kit_int_int | exact kit_int_str | exact kit_int_bool | exact kit_int_tuple | exact kit_int_list | exact kit_str_int | exact kit_str_str | exact kit_str_bool | exact kit_str_tuple | exact kit_str_list | exact kit_bool_int | exact kit_bool_str | exact kit_bool_bool | exact kit_bool_tuple | exact kit_bool_list | exact kit_NoneType_int | exact kit_NoneType_str | exact kit_NoneType_bool | exact kit_NoneType_tuple | exact kit_NoneType_list | exact kit_list_int | exact kit_list_str | exact kit_list_bool | exact kit_list_tuple | exact kit_list_list | exact kit_tuple_int | exact kit_tuple_str | exact kit_tuple_bool | exact kit_tuple_tuple | exact kit_tuple_list)
local macro_rules | `(tactic| walk_at "nd") => `(tactic| first
  | assumption
  | exact Tm.nds _
  | exact Nds.nil
  | exact Nds.ofInts _
  | ((refine' Nds.cons ?na ?nb); (case na => first | exact Nds.I _ | exact Nds.L | exact Nds.A); (case nb => walk_at "nd"))
  | ((refine' Nds.app ?na ?nb); (case na => walk_at "nd"); (case nb => walk_at "nd"))
  | ((refine' Nds.rep ?na _); (case na => walk_at "nd")))
local macro_rules | `(tactic| walk_at "len") => `(tactic| first
  | exact ly_sz (by omega)
  | ((simp only [List.length_append, List.length_cons, List.length_nil, List.length_map, PyProof.Rows.lm_len_rep_flat]); exact ly_sz (by omega)))
local macro_rules | `(tactic| walk_at "go1") => `(tactic| first
  | (with_reducible refine' w_kget2 ?_)
  | (with_reducible refine' w_isRN ?_)
  | (with_reducible refine' w_isNN ?_)
  | (with_reducible refine' w_isIN ?_)
  | ((with_reducible refine' w_kg ?hd ?_); (case hd => assumption)))
local macro_rules | `(tactic| walk_at "go1") => `(tactic| first
  | ((with_reducible refine' w_extT ?hh ?hh2 ?hz ?_); (case hh => walk_at "hp"); (case hh2 => walk_at "hp"))
  | ((with_reducible refine' w_I ?hc ?_); (case hc => exact ⟨by decide, by decide, by decide⟩))
  | (with_reducible refine' w_sl ?_)
  | (with_reducible refine' w_noP ?_)
  | (with_reducible refine' w_part ?_)
  | (with_reducible refine' w_part1 ?_)
  | (with_reducible refine' w_it ?_)
  | (with_reducible refine' w_it1 ?_)
  | ((with_reducible refine' w_lenZ ?hz ?_); (case hz => omega))
  | ((with_reducible refine' w_addZb ?hz ?_); (case hz => omega))
  | ((with_reducible refine' w_addZf ?hz ?_); (case hz => omega))
  | ((with_reducible refine' w_addZa ?hz ?_); (case hz => omega))
  | ((with_reducible refine' w_inS ?hh ?_); (case hh => walk_at "hp"))
  | ((with_reducible refine' w_ixT ?hh ?ha ?_); (case hh => assumption); (case ha => exact atI_nat (by assumption))))
local macro_rules | `(tactic| walk_at "go1") => `(tactic| first
  | (with_reducible refine' w_iR2 ?_)
  | ((with_reducible refine' w_iR21 ?h1 ?h2 ?h3 ?h4 ?_); (case h1 => omega); (case h2 => omega); (case h3 => omega); (case h4 => omega))
  | (with_reducible refine' w_nnI ?_)
  | (with_reducible refine' w_max ?_)
  | (with_reducible refine' w_break ?_)
  | (with_reducible refine' w_cont ?_))
section
variable {P : Program} {w : World} {K : PySem.W.Frag} {mg : Str → Option Value} {base : Heap} {tk : Nat → Tok} {cl : Nat → Addr}
theorem nf_small97 : ∀ (k : Nat) (t : Tm), Small (Tm.nf k t).1
  | 0, t => by
    unfold Tm.nf
    intro q hq
    simp at hq
  | k + 1, t => by
    cases e : t.reds [] with
    | nil =>
      rw [Tm.nf_none e]
      intro q hq
      simp at hq
    | cons p r =>
      have hp : ∀ q, q = p → ∀ c ∈ q, c < 200 := fun q hq => by
        rw [hq]
        exact t.reds_small p (by rw [e]; exact List.mem_cons_self)
      cases hf : fitsV (t.step p).enc with
      | false =>
        rw [Tm.nf_large e hf]
        intro q hq
        exact hp q (List.mem_singleton.mp hq)
      | true =>
        rw [Tm.nf_step e hf]
        intro q hq
        rcases List.mem_cons.mp hq with h | h
        · exact hp q h
        · exact nf_small97 k _ q h
theorem eqv_pls97 : ∀ qs rs : List (List Nat), PyData.eqvAll ((plcs qs).map dv) ((plcs rs).map dv) = decide (qs = rs)
  | [], [] => by simp [PyData.eqvAll]
  | [], _ :: _ => by simp [PyData.eqvAll]
  | _ :: _, [] => by simp [PyData.eqvAll]
  | q :: qs, r :: rs => by
    have ih := eqv_pls97 qs rs
    show PyData.eqvAll (dv (V.str (pl q)) :: (plcs qs).map dv) (dv (V.str (pl r)) :: (plcs rs).map dv) = _
    rw [PyData.eqvAll, ih]
    have h1 : PyData.eqv (dv (V.str (pl q))) (dv (V.str (pl r))) = decide (q = r) := by
      by_cases e : q = r
      · subst e
        rw [decide_eq_true rfl]
        simp [dv, PyData.eqv]
      · have : pl q ≠ pl r := fun z => e (pl_inj z)
        rw [decide_eq_false e]
        simp [dv, PyData.eqv, this]
    rw [h1]
    by_cases e1 : q = r <;> by_cases e2 : qs = rs <;> simp [e1, e2]
theorem w_eqPP97 {K : PySem.W.Frag} {H : Hp} {Q : VK} {a b : Addr} {qs rs : List (List Nat)} (h : H a = some (.lst (plcs qs))) (k : H b = some (.lst (plcs rs))) (o : Small qs) (o2 : Small rs) (q : Q (.bl (decide (qs = rs))) H) : rEqD K (.ref a) (.ref b) H Q :=
  ⟨_, _, .lst (SqL.of h) (dp_pl qs), .lst (SqL.of k) (dp_pl rs), shaped_pl o, shaped_pl o2, by rw [PyData.eqv, eqv_pls97]; exact q⟩
theorem w_eqPN97 {K : PySem.W.Frag} {H : Hp} {Q : VK} {a : Addr} {qs : List (List Nat)} (h : H a = some (.lst (plcs qs))) (o : Small qs) (q : Q (.bl false) H) : rEqD K (.ref a) .non H Q :=
  ⟨_, _, .lst (SqL.of h) (dp_pl qs), .non, shaped_pl o, by decide, by simpa [PyData.eqv] using q⟩
theorem w_eqPair97 {K : PySem.W.Frag} {p q x y : Addr} {t : Tm} {n : Int} {H : Hp} {Q : VK} (h : SqT K H p [.ref x, .int n]) (k : SqT K H q [.ref y, .int n]) (hx : SqT K H x t.enc) (hy : SqT K H y t.enc) (qq : Q (.bl true) H) : rEqD K (.ref p) (.ref q) H Q :=
  ⟨_, _, .tup h (pair_dp hx), .tup k (pair_dp hy), pair_shaped t n, pair_shaped t n, by
    have := pair_eqv t n
    unfold pairD at this
    rw [this]
    exact qq⟩
theorem w_eqFirst97 {K : PySem.W.Frag} {H : Hp} {Q : VK} {rl : Addr} {y7 : V} {road r : List (List Nat)} (hrl : H rl = some (.lst (plcs road))) (h7 : y7 = .non ∨ ∃ pr, y7 = .ref pr ∧ H pr = some (.lst (plcs r))) (o : Small road) (o2 : Small r) (q : ∀ b : Bool, (b = true → road = r) → Q (.bl b) H) : rEqD K (.ref rl) y7 H Q := by
  rcases h7 with rfl | ⟨pr, rfl, hpr⟩
  · exact w_eqPN97 hrl o (q false (fun z => nomatch z))
  · exact w_eqPP97 hrl hpr o o2 (q _ (fun z => of_decide_eq_true z))
theorem run_len97 {t v : Tm} {r : List (List Nat)} {ms : List Mv} (h : Run t r ms v) : t.enc.length ≤ 1000 → v.enc.length ≤ 1000 := by
  induction h with
  | nil => exact fun h => h
  | cons h hf _ ih => exact fun _ => ih (fits_len hf)
def spLaw (K : PySem.W.Frag) : Sp := fun vs H Q _ => ∃ (a : Addr) (ns : List Int), vs = [.ref a] ∧ SqL K H a (ns.map V.int) ∧ ns.length ≤ 63 ∧ ∀ H', Q (.bl true) H'
theorem ok_law {f : Addr} {fd : FuncData} (F : Fun K "law" "law" s_law f fd) (T : Txt w K mg tk cl)
    (D1 : Def P w K mg base CX0 1 "_law_stream" ["script"] (spStream K)) (D2 : Def P w K mg base CX0 1 "_law_draw" ["stream", "many"] spDraw) (D3 : Def P w K mg base CX0 35 "_law_body" ["stream", "widest", "size"] (spBody97 K 17))
    (D4 : Def P w K mg base CX0 5 "_law_road" ["stream", "term", "count"] (spRoad97 K)) (D5 : Def P w K mg base CX0 5 "_law_follow" ["term", "road"] (spFollow97 K)) (D6 : Def P w K mg base CX0 12 "_law_standard" ["term", "road"] (spTold97 K))
    (D7 : Def P w K mg base CX0 2 "_law_uses" ["term"] (spUses97 K)) (D8 : Def P w K mg base CX0 5 "_law_first" ["term", "count"] (spFirst97 K)) (D9 : Def P w K mg base CX0 1 "_law_redexes" ["term"] (spLRedx K))
    (D10 : Def P w K mg base (L2.CX P w) 7 "normal" ["term", "steps"] (spNormal K (cl 1) (cl 4))) : FnOk P w K mg base (L2.CX P w) 40 f fd ["script"] (spLaw K) := by
  obtain ⟨f1, fd1, g_law_stream, kp_law_stream, b_law_stream, G_law_stream⟩ := D1
  obtain ⟨f2, fd2, g_law_draw, kp_law_draw, b_law_draw, G_law_draw⟩ := D2
  obtain ⟨f3, fd3, g_law_body, kp_law_body, b_law_body, G_law_body⟩ := D3
  obtain ⟨f4, fd4, g_law_road, kp_law_road, b_law_road, G_law_road⟩ := D4
  obtain ⟨f5, fd5, g_law_follow, kp_law_follow, b_law_follow, G_law_follow⟩ := D5
  obtain ⟨f6, fd6, g_law_standard, kp_law_standard, b_law_standard, G_law_standard⟩ := D6
  obtain ⟨f7, fd7, g_law_uses, kp_law_uses, b_law_uses, G_law_uses⟩ := D7
  obtain ⟨f8, fd8, g_law_first, kp_law_first, b_law_first, G_law_first⟩ := D8
  obtain ⟨f9, fd9, g_law_redexes, kp_law_redexes, b_law_redexes, G_law_redexes⟩ := D9
  obtain ⟨f10, fd10, g_normal, kp_normal, b_normal, G_normal⟩ := D10
  refine F.okX sc_law (fun vs H Q E h => ?_) (fun cdv A outer s H vs Q E hr h => ?_)
  · obtain ⟨a, ns, rfl, _⟩ := h
    rfl
  · obtain ⟨a, ns, rfl, hS, hlen, q⟩ := h
    refine ⟨_, (pss_cons (ps_set (i := 1) sc_law.nd rfl (.inl rfl) (pe_call G_law_stream (hr.mono (by first | decide | omega)) (by rfl) g_law_stream kp_law_stream b_law_stream .nil pass0 (pa_cons (pv 0) pa_nil))) (pss_cons (ps_set (i := 2) sc_law.nd rfl (.inl rfl) (pe_call G_law_body (hr.mono (by first | decide | omega)) (by rfl) g_law_body kp_law_body b_law_body .nil pass0 (pa_cons (pv 1) (pa_cons (pe_call G_law_draw (hr.mono (by first | decide | omega)) (by rfl) g_law_draw kp_law_draw b_law_draw .nil pass0 (pa_cons (pv 1) (pa_cons pe_int pa_nil))) (pa_cons (pe_op op_add pe_int (pe_call G_law_draw (hr.mono (by first | decide | omega)) (by rfl) g_law_draw kp_law_draw b_law_draw .nil pass0 (pa_cons (pv 1) (pa_cons pe_int pa_nil)))) pa_nil))))) (pss_cons (ps_set (i := 3) sc_law.nd rfl (.inl rfl) (pe_call G_law_road (hr.mono (by first | decide | omega)) (by rfl) g_law_road kp_law_road b_law_road .nil pass0 (pa_cons (pv 1) (pa_cons (pv 2) (pa_cons (pe_call G_law_draw (hr.mono (by first | decide | omega)) (by rfl) g_law_draw kp_law_draw b_law_draw .nil pass0 (pa_cons (pv 1) (pa_cons pe_int pa_nil))) pa_nil))))) (pss_cons (ps_set (i := 4) sc_law.nd rfl (.inl rfl) (pe_call G_law_follow (hr.mono (by first | decide | omega)) (by rfl) g_law_follow kp_law_follow b_law_follow .nil pass0 (pa_cons (pv 2) (pa_cons (pv 3) pa_nil)))) (pss_cons (ps_set (i := 5) sc_law.nd rfl (.inl rfl) (pe_callTy call_list_of (by rfl) T.n_list (by decide +kernel) (pa_cons (pv 3) pa_nil))) (pss_cons (ps_set (i := 6) sc_law.nd rfl (.inl rfl) (pe_call G_law_standard (hr.mono (by first | decide | omega)) (by rfl) g_law_standard kp_law_standard b_law_standard .nil pass0 (pa_cons (pv 2) (pa_cons (pv 5) pa_nil)))) (pss_cons (ps_if (pt_cmpR (op_neD hr.units) (pv 5) (pv 3) (nomark _)) (pss_one (ps_ret pe_bl)) pss_nil) (pss_cons (ps_if (pt_cmpR op_isN (pv 6) pe_non (nomark _)) (pss_one (ps_ret (pe_cmpR op_gt (pe_call G_law_uses (hr.mono (by first | decide | omega)) (by rfl) g_law_uses kp_law_uses b_law_uses .nil pass0 (pa_cons (pv 2) pa_nil)) pe_int (nomark _)))) pss_nil) (pss_cons (ps_if (PW.pt (pw_or (pt_not (pt_val (pe_callB call_isi (by rfl) T.n_isinstance (by decide +kernel) (pa_cons (pv 6) (pa_cons (pe_bltn (v := .ty "list") (by rfl) T.n_list (by decide +kernel) rfl) pa_nil))))) (pw_or (pt_cmpR op_gt (pe_callB call_len_seq (by rfl) T.n_len (by decide +kernel) (pa_cons (pv 6) pa_nil)) pe_int (nomark _)) (pw_or1 (pt_cmpR (op_neD hr.units) (pe_call G_law_follow (hr.mono (by first | decide | omega)) (by rfl) g_law_follow kp_law_follow b_law_follow .nil pass0 (pa_cons (pv 2) (pa_cons (pv 6) pa_nil))) (pv 4) (nomark _)))))) (pss_one (ps_ret pe_bl)) pss_nil) (pss_cut (ps_set (i := 7) sc_law.nd rfl (.inl rfl) (pe_call G_law_first (hr.mono (by first | decide | omega)) (by rfl) g_law_first kp_law_first b_law_first .nil pass0 (pa_cons (pv 2) (pa_cons (pe_callB call_len_seq (by rfl) T.n_len (by decide +kernel) (pa_cons (pv 3) pa_nil)) pa_nil)))) (pss_cut (ps_if (PW.pt (pw_and (pt_cmpR (op_eqD hr.units) (pv 3) (pv 7) (nomark _)) (pw_and1 (pt_cmpR (op_neD hr.units) (pv 6) (pv 3) (nomark _))))) (pss_one (ps_ret pe_bl)) pss_nil) (pss_cons (ps_if (pt_cmpR (op_neD hr.units) (pe_call G_law_redexes (hr.mono (by first | decide | omega)) (by rfl) g_law_redexes kp_law_redexes b_law_redexes .nil pass0 (pa_cons (pv 4) pa_nil)) (pe_lst pa_nil) (nomark _)) (pss_one (ps_ret pe_bl)) pss_nil) (pss_cons (ps_if (pt_cmpR (op_neD hr.units) (pv 6) (pe_call G_law_first (hr.mono (by first | decide | omega)) (by rfl) g_law_first kp_law_first b_law_first .nil pass0 (pa_cons (pv 2) (pa_cons (pe_callB call_len_seq (by rfl) T.n_len (by decide +kernel) (pa_cons (pv 6) pa_nil)) pa_nil))) (nomark _)) (pss_one (ps_ret pe_bl)) pss_nil) (pss_cons (ps_set (i := 8) sc_law.nd rfl (.inl rfl) (pe_call G_normal (hr.mono (by first | decide | omega)) (by rfl) g_normal kp_normal b_normal .nil (passes_call (takes_of rfl rfl rfl rfl) (fun _ _ _ _ h => h)) (pa_cons (pv 2) (pa_cons (pe_callB call_len_seq (by rfl) T.n_len (by decide +kernel) (pa_cons (pv 6) pa_nil)) pa_nil)))) (pss_one (ps_ret (pe_and (pe_callB call_isi (by rfl) T.n_isinstance (by decide +kernel) (pa_cons (pv 8) (pa_cons (pe_bltn (v := .ty "tuple") (by rfl) T.n_tuple (by decide +kernel) rfl) pa_nil))) (pe_and (pe_cmpR (op_eqD hr.units) (pv 8) (pe_tup (pa_cons (pv 4) (pa_cons (pe_callB call_len_seq (by rfl) T.n_len (by decide +kernel) (pa_cons (pv 6) pa_nil)) pa_nil))) (nomark _)) (pe_one (pe_not (pe_callB call_isi (by rfl) T.n_isinstance (by decide +kernel) (pa_cons (pe_ix ix_tup (pv 8) pe_int (fun _ _ => rfl)) (pa_cons (pe_bltn (v := .ty "bool") (by rfl) T.n_bool (by decide +kernel) rfl) pa_nil))))))))))))))))))))))), ?_⟩
    refine sl_of (σ2 := [some _, none, none, none, none, none, none, none, none]) rfl ?_
    walk_at "st"
    walk_at "go"
    refine ⟨a, ns, rfl, hS, hlen, fun H1 s1 l e1 hs1 st1 => ?_⟩
    generalize (⟨l, ns, 0, 0, mixOf ns⟩ : Stm) = m0 at *
    walk_at "go"
    refine ⟨s1, m0, 3, rfl, st1, by decide, by decide, fun H2 fr2 st2 => ?_⟩
    have v2 := m0.val_lt (n := 3) (by decide)
    generalize m0.val 3 = n1 at *
    generalize m0.next 3 = m1 at *
    walk_at "go"
    refine ⟨s1, m1, 14, rfl, st2, by decide, by decide, fun H2b fr2b st2b => ?_⟩
    have v2b := m1.val_lt (n := 14) (by decide)
    generalize m1.val 14 = n2 at *
    generalize m1.next 14 = m2 at *
    walk_at "go"
    refine ⟨s1, m2, n1.toNat, (2 + n2).toNat, by rw [Int.toNat_of_nonneg (by omega), Int.toNat_of_nonneg (by omega)]; rfl, st2b, by omega, by omega, by omega, fun H3 pu m3 u fr3 st3 hpu hwn htl => ?_⟩
    have hw : u.wf 8 := Tm.wf_mono (by omega) hwn
    have htl : u.enc.length ≤ 100 := by omega
    clear fr2 fr3 st2 v2 e1 st1 hS hs1 hwn fr2b st2b v2b
    walk_at "go"
    refine ⟨s1, m3, 11, rfl, st3, by decide, by decide, fun H4 fr4 st4 => ?_⟩
    have v4 := m3.val_lt (n := 11) (by decide)
    have hpu4 := fr_t fr4 st3.2.1 hpu
    generalize m3.val 11 = n4 at *
    generalize m3.next 11 = m4 at *
    walk_at "go"
    refine ⟨s1, pu, m4, u, n4.toNat, by rw [Int.toNat_of_nonneg (by omega)]; rfl, st4, hpu4, by omega, by omega, fun H8 rl m8 road fr8 st8 hrl0 hrl hroad hrn hrs hsm => ?_⟩
    have hpu8 := fr_t fr8 st4.2.1 hpu4
    have hr100 : road.length ≤ 10 := by omega
    have hrs2 : ∀ r ∈ road, r.length ≤ 3000 := fun r h => by have := hrs r h; omega
    have hnn : Tm.pass u road ≠ .none := fun hno => by
      rcases road_run hroad with ⟨ms, v, h⟩ | h
      · obtain ⟨ts, h2⟩ := run_pass h
        rw [hno] at h2
        cases h2
      · rw [hno] at h
        cases h
    clear st4 hpu fr4 st3 hpu4 fr8 hrl0 v4 st8 hrn hrs
    walk_at "go"
    refine ⟨pu, rl, u, road, rfl, hpu8, hrl, by omega, hw, hroad, fun ms v run H10 pe e10 hpe => ?_, fun hno H10 e10 => ?_⟩
    · have hpu10 := ex_t e10 hpu8
      have hrl10 := e10 _ _ hrl
      walk_at "go"
      intro gl hgl
      have e11 := Ex.new hgl (o := .lst (plcs road))
      have hgl11 : upd H10 gl (.lst (plcs road)) gl = some (.lst (plcs road)) := upd_same
      have hpu11 := ex_t e11 hpu10
      have hrl11 := e11 _ _ hrl10
      have hpe11 := ex_t e11 hpe
      generalize upd H10 gl (.lst (plcs road)) = H11 at *
      walk_at "go"
      refine ⟨pu, gl, u, road, rfl, hpu11, hgl11, by omega, by omega, hrs2, hnn, fun ms2 v2 run2 => ⟨fun out ho H12 p e12 hp hp12 => ?_, fun ho H12 e12 => ?_⟩, fun hl => ?_⟩
      · have hol := stdT_len ho
        obtain ⟨os, runo⟩ := std_run ho run
        have hos := stdT_small ho
        have hgl12 := e12 _ _ hgl11
        have hrl12 := e12 _ _ hrl11
        have hpu12 := ex_t e12 hpu11
        have hpe12 := ex_t e12 hpe11
        walk_at "go"
        refine w_neP hgl12 hrl12 hsm ?_
        walk_at "go"
        have hol2 : (plcs out).length = out.length := List.length_map _
        walk_at "go"
        rw [decide_eq_false (show ¬ 200 < ((plcs out).length : Int) by omega)]
        walk_at "go"
        refine ⟨pu, p, u, out, rfl, hpu12, hp12, by omega, hw, (run_road runo).1, fun ms3 v3 run3 H13 pf e13 hpf => ?_, fun hno => absurd runo (hno os v)⟩
        obtain ⟨rfl, _⟩ := run_end runo run3
        have hp13 := e13 _ _ hp12
        have hrl13 := e13 _ _ hrl12
        have hpu13 := ex_t e13 hpu12
        have hpe13 := ex_t e13 hpe12
        walk_at "go"
        obtain ⟨r, wk, hnf⟩ : ∃ r wk, Tm.nf road.length u = (r, wk) := ⟨_, _, rfl⟩
        have hrsm : Small r := by
          have := nf_small97 road.length u
          rw [hnf] at this
          exact this
        have rll : (plcs road).length = road.length := List.length_map _
        refine w_cut (M := fun σ' H' => ∃ y7 : V, σ' = [some (.ref a), some (.ref s1), some (.ref pu), some (.ref rl), some (.ref pe), some (.ref gl), some (.ref p), some y7, none] ∧ Ex H13 H' ∧ (y7 = .non ∨ ∃ pr, y7 = .ref pr ∧ H' pr = some (.lst (plcs r)))) ?_ ?_
        · walk_at "go"
          refine ⟨pu, u, road.length, by rw [rll]; rfl, hpu13, by omega, hw, by omega, fun r2 wk2 hnf2 => ?_⟩
          rw [hnf] at hnf2
          cases hnf2
          refine ⟨fun _ H14 pr e14 hpr hpr14 => ?_, fun _ H14 e14 => ?_⟩
          · walk_at "go"
            exact ⟨_, rfl, e14, .inr ⟨pr, rfl, hpr14⟩⟩
          · walk_at "go"
            exact ⟨_, rfl, e14, .inl rfl⟩
        rintro σ' H14 ⟨y7, rfl, e14, h7⟩
        have hp14 := e14 _ _ hp13
        have hrl14 := e14 _ _ hrl13
        have hpu14 := ex_t e14 hpu13
        have hpe14 := ex_t e14 hpe13
        walk_at "go"
        refine w_cut (M := fun σ' H' => σ' = [some (.ref a), some (.ref s1), some (.ref pu), some (.ref rl), some (.ref pe), some (.ref gl), some (.ref p), some y7, none] ∧ H' = H14) ?_ ?_
        · walk_at "go"
          refine w_eqFirst97 hrl14 h7 hsm hrsm fun b hb => ?_
          cases b with
          | false =>
            walk_at "go"
            exact ⟨rfl, rfl⟩
          | true =>
            have er : out = road := by
              have h1 := std_firsts run (by rw [hnf]; exact (hb rfl).symm)
              have h2 := std_self (n := 200) run h1 (by omega) (by omega)
              rw [ho] at h2
              exact Option.some.inj h2
            rw [er] at hp14
            walk_at "go"
            refine w_neP hp14 hrl14 hsm ?_
            walk_at "go"
            exact ⟨rfl, rfl⟩
        rintro σ' H' ⟨rfl, rfl⟩
        have hvl := run_len97 run (by omega)
        walk_at "go"
        refine ⟨pe, v.enc, rfl, hpe14, nodes_enc v, by omega, fun H15 dl e15 hdl hd15 => ?_⟩
        have hp15 := e15 _ _ hp14
        have hpu15 := ex_t e15 hpu14
        have hpe15 := ex_t e15 hpe14
        walk_at "go"
        intro p0 hp0
        have e16 := Ex.new hp0 (o := .lst [])
        have h016 : upd H15 p0 (.lst []) p0 = some (.lst []) := upd_same
        have hp16 := e16 _ _ hp15
        have hpu16 := ex_t e16 hpu15
        have hpe16 := ex_t e16 hpe15
        have hd16 := e16 _ _ hd15
        generalize upd H15 p0 (.lst []) = H16 at *
        refine w_neL (SqL.of hd16) (SqL.of h016) (nds_nums _) nds_nil ?_
        have rm := reds_map v
        by_cases hnil : redI v.enc (v.enc.length - 1) = []
        rotate_left
        · rw [decide_eq_false (fun z => hnil (List.map_eq_nil_iff.mp z))]
          walk_at "go"
          exact q _
        rw [hnil] at rm
        rw [hnil, decide_eq_true (show nums [] = [] from rfl)]
        have hfin := std_first 200 run rm ho
        walk_at "go"
        refine ⟨pu, u, out.length, by rw [hol2]; rfl, hpu16, by omega, hw, by omega, fun r3 wk3 hnf3 => ?_⟩
        rw [hfin] at hnf3
        cases hnf3
        refine ⟨fun _ H17 pr e17 hpr hpr17 => ?_, fun z => nomatch z⟩
        have hp17 := e17 _ _ hp16
        have hpu17 := ex_t e17 hpu16
        have hpe17 := ex_t e17 hpe16
        walk_at "go"
        refine w_neP hp17 hpr17 hos ?_
        walk_at "go"
        have hfit : fitsV u.enc = true := by rw [fitsA_w8 hw, decide_eq_true (by omega)]
        refine ⟨pu, u, out.length, by rw [hol2]; rfl, hpu17, by omega, hfit, by omega, fun rd w' hn H18 pn x e18 hpn hx => ?_, fun rd hn => ?_, fun rd hn => ?_⟩
        rotate_left
        · rw [hfin] at hn
          cases hn
        · rw [hfin] at hn
          cases hn
        rw [hfin] at hn
        cases hn
        have hp18 := e18 _ _ hp17
        have hpe18 := ex_t e18 hpe17
        walk_at "go"
        intro p9 hp9
        have e19 := Ex.new hp9 (o := .tup [V.ref pe, V.int ((plcs out).length : Int)])
        have h919 : SqT K (upd H18 p9 (.tup [V.ref pe, V.int ((plcs out).length : Int)])) p9 [V.ref pe, V.int (out.length : Int)] := by
          rw [hol2]
          exact SqT.of upd_same
        have hpn19 := ex_t e19 hpn
        have hx19 := ex_t e19 hx
        have hpe19 := ex_t e19 hpe18
        generalize upd H18 p9 (.tup [V.ref pe, V.int ((plcs out).length : Int)]) = H19 at *
        refine w_eqPair97 hpn19 h919 hx19 hpe19 ?_
        walk_at "go"
        exact q _
      · have hgl12 := e12 _ _ hgl11
        have hrl12 := e12 _ _ hrl11
        have hpu12 := ex_t e12 hpu11
        walk_at "go"
        refine w_neP hgl12 hrl12 hsm ?_
        walk_at "go"
        refine ⟨pu, u, rfl, hpu12, by omega, fun H13 n hn => ?_⟩
        have h1 : 1 < n := Decidable.byContradiction fun hc => by
          obtain ⟨out, h1, _⟩ := std_aff (n := 200) run2 (hn (by omega)) hw (by omega) (by omega) (by omega)
          rw [ho] at h1
          cases h1
        walk_at "go"
        rw [decide_eq_true h1]
        exact q _
      · obtain ⟨ts, h2⟩ := run_pass run
        rw [hl] at h2
        cases h2
    · have hpu10 := ex_t e10 hpu8
      have hrl10 := e10 _ _ hrl
      walk_at "go"
      intro gl hgl
      have e11 := Ex.new hgl (o := .lst (plcs road))
      have hgl11 : upd H10 gl (.lst (plcs road)) gl = some (.lst (plcs road)) := upd_same
      have hpu11 := ex_t e11 hpu10
      have hrl11 := e11 _ _ hrl10
      generalize upd H10 gl (.lst (plcs road)) = H11 at *
      walk_at "go"
      refine ⟨pu, gl, u, road, rfl, hpu11, hgl11, by omega, by omega, hrs2, hnn, fun ms2 v2 run2 => absurd run2 (hno ms2 v2), fun hl H12 e12 => ?_⟩
      have hgl12 := e12 _ _ hgl11
      have hrl12 := e12 _ _ hrl11
      have hpu12 := ex_t e12 hpu11
      walk_at "go"
      refine w_neP hgl12 hrl12 hsm ?_
      walk_at "go"
      refine ⟨pu, u, rfl, hpu12, by omega, fun H13 n hn => ?_⟩
      have h1 : 1 < n := Decidable.byContradiction fun hc => by
        obtain ⟨ms3, v3, h3⟩ := aff_run hroad (hn (by omega)) hw (by omega)
        exact hno ms3 v3 h3
      walk_at "go"
      rw [decide_eq_true h1]
      exact q _
end
end Ly
set_option Elab.async false
set_option linter.all false
set_option maxRecDepth 100000
set_option maxHeartbeats 8000000
namespace Ly
open PySem PySem.Spec PyProof.Rows L2 Evl

-- endR _law_inner ok_inner97 18:17 _law_draw
-- endR _law_body ok_body97 35:17 _law_draw _law_inner
theorem all_mk {l : PySem.W.OpenLaw} {w : World} {K : PySem.W.Frag} {h : Heap} {mg : Str → Option Value} {fa f1 f2 f3 f4 f5 f6 f7 f8 f9 f10 f11 f12 f13 f14 f15 f16 f17 f18 f19 f20 f21 f22 f23 f24 f25 f26 f27 f28 f29 f30 f31 f32 f33 f34 f35 f36 f37 f38 f39 f40 f41 f42 f43 f44 f45 f46 cc40 cc0 cc1 cc2 cc3 cc4 cc20 : Addr} (X : K.In h) (G : h.Ns mainGlobals mg) (hfa : mg "law" = some (.ref fa))
    {od1 an1 od2 an2 od3 an3 od4 an4 od5 an5 od6 an6 od7 an7 od8 an8 od9 an9 od10 an10 od11 an11 od12 an12 od13 an13 od14 an14 od15 an15 od16 an16 od17 an17 od18 an18 od19 an19 od20 an20 od21 an21 od22 an22 od23 an23 od24 an24 od25 an25 od26 an26 od27 an27 od28 an28 od29 an29 od30 an30 od31 an31 od32 an32 od33 an33 od34 an34 od35 an35 od36 an36 od37 an37 od38 an38 od39 an39 od40 an40 od41 an41 od42 an42 od43 an43 od44 an44 od45 an45 od46 an46 : Option Addr} {sl1 sl2 sl3 sl4 sl5 sl6 sl7 sl8 sl9 sl10 sl11 sl12 sl13 sl14 sl15 sl16 sl17 sl18 sl19 sl20 sl21 sl22 sl23 sl24 sl25 sl26 sl27 sl28 sl29 sl30 sl31 sl32 sl33 sl34 sl35 sl36 sl37 sl38 sl39 sl40 sl41 sl42 sl43 sl44 sl45 sl46 : Array (Option Value)} {oc1 kV1 dc1 pm1 cd1 ct1 oc2 kV2 dc2 pm2 cd2 ct2 oc3 kV3 dc3 pm3 cd3 ct3 oc4 kV4 dc4 pm4 cd4 ct4 oc5 kV5 dc5 pm5 cd5 ct5 oc6 kV6 dc6 pm6 cd6 ct6 oc7 kV7 dc7 pm7 cd7 ct7 oc8 kV8 dc8 pm8 cd8 ct8 oc9 kV9 dc9 pm9 cd9 ct9 oc10 kV10 dc10 pm10 cd10 ct10 oc11 kV11 dc11 pm11 cd11 ct11 oc12 kV12 dc12 pm12 cd12 ct12 oc13 kV13 dc13 pm13 cd13 ct13 oc14 kV14 dc14 pm14 cd14 ct14 oc15 kV15 dc15 pm15 cd15 ct15 oc16 kV16 dc16 pm16 cd16 ct16 oc17 kV17 dc17 pm17 cd17 ct17 oc18 kV18 dc18 pm18 cd18 ct18 oc19 kV19 dc19 pm19 cd19 ct19 oc20 kV20 dc20 pm20 cd20 ct20 oc21 kV21 dc21 pm21 cd21 ct21 oc22 kV22 dc22 pm22 cd22 ct22 oc23 kV23 dc23 pm23 cd23 ct23 oc24 kV24 dc24 pm24 cd24 ct24 oc25 kV25 dc25 pm25 cd25 ct25 oc26 kV26 dc26 pm26 cd26 ct26 oc27 kV27 dc27 pm27 cd27 ct27 oc28 kV28 dc28 pm28 cd28 ct28 oc29 kV29 dc29 pm29 cd29 ct29 oc30 kV30 dc30 pm30 cd30 ct30 oc31 kV31 dc31 pm31 cd31 ct31 oc32 kV32 dc32 pm32 cd32 ct32 oc33 kV33 dc33 pm33 cd33 ct33 oc34 kV34 dc34 pm34 cd34 ct34 oc35 kV35 dc35 pm35 cd35 ct35 oc36 kV36 dc36 pm36 cd36 ct36 oc37 kV37 dc37 pm37 cd37 ct37 oc38 kV38 dc38 pm38 cd38 ct38 oc39 kV39 dc39 pm39 cd39 ct39 oc40 kV40 dc40 pm40 cd40 ct40 oc41 kV41 dc41 pm41 cd41 ct41 oc42 kV42 dc42 pm42 cd42 ct42 oc43 kV43 dc43 pm43 cd43 ct43 oc44 kV44 dc44 pm44 cd44 ct44 oc45 kV45 dc45 pm45 cd45 ct45 oc46 kV46 dc46 pm46 cd46 ct46 : Value} {t0 t1 t2 : Tok}
    (a1 : PySem.W.nsIn K mainGlobals "_law_draw" = some (some (.ref f1))) (l1 : K.lookup f1 = some ⟨oc1, od1, .func (PySem.W.fnOf "_law_draw" "_law_draw" (defArgs s_law_draw) (defBody s_law_draw) (defScope s_law_draw) .none kV1 dc1 pm1 an1 cd1 ct1), sl1⟩) (c1 : PySem.W.codeIn K cd1 "_law_draw" = true) (k1 : PySem.W.keepIn K (.ref f1) = true)
    (a2 : PySem.W.nsIn K mainGlobals "_law_stream" = some (some (.ref f2))) (l2 : K.lookup f2 = some ⟨oc2, od2, .func (PySem.W.fnOf "_law_stream" "_law_stream" (defArgs s_law_stream) (defBody s_law_stream) (defScope s_law_stream) .none kV2 dc2 pm2 an2 cd2 ct2), sl2⟩) (c2 : PySem.W.codeIn K cd2 "_law_stream" = true) (k2 : PySem.W.keepIn K (.ref f2) = true)
    (a3 : PySem.W.nsIn K mainGlobals "part_count" = some (some (.ref f3))) (l3 : K.lookup f3 = some ⟨oc3, od3, .func (PySem.W.fnOf "part_count" "part_count" (defArgs s_part_count) (defBody s_part_count) (defScope s_part_count) .none kV3 dc3 pm3 an3 cd3 ct3), sl3⟩) (c3 : PySem.W.codeIn K cd3 "part_count" = true) (k3 : PySem.W.keepIn K (.ref f3) = true)
    (a4 : PySem.W.nsIn K mainGlobals "check_size" = some (some (.ref f4))) (l4 : K.lookup f4 = some ⟨oc4, od4, .func (PySem.W.fnOf "check_size" "check_size" (defArgs s_check_size) (defBody s_check_size) (defScope s_check_size) .none kV4 dc4 pm4 an4 cd4 ct4), sl4⟩) (c4 : PySem.W.codeIn K cd4 "check_size" = true) (k4 : PySem.W.keepIn K (.ref f4) = true)
    (a5 : PySem.W.nsIn K mainGlobals "checked" = some (some (.ref f5))) (l5 : K.lookup f5 = some ⟨oc5, od5, .func (PySem.W.fnOf "checked" "checked" (defArgs s_checked) (defBody s_checked) (defScope s_checked) .none kV5 dc5 pm5 an5 cd5 ct5), sl5⟩) (c5 : PySem.W.codeIn K cd5 "checked" = true) (k5 : PySem.W.keepIn K (.ref f5) = true)
    (a6 : PySem.W.nsIn K mainGlobals "depths" = some (some (.ref f6))) (l6 : K.lookup f6 = some ⟨oc6, od6, .func (PySem.W.fnOf "depths" "depths" (defArgs s_depths) (defBody s_depths) (defScope s_depths) .none kV6 dc6 pm6 an6 cd6 ct6), sl6⟩) (c6 : PySem.W.codeIn K cd6 "depths" = true) (k6 : PySem.W.keepIn K (.ref f6) = true)
    (a7 : PySem.W.nsIn K mainGlobals "stands_free" = some (some (.ref f7))) (l7 : K.lookup f7 = some ⟨oc7, od7, .func (PySem.W.fnOf "stands_free" "stands_free" (defArgs s_stands_free) (defBody s_stands_free) (defScope s_stands_free) .none kV7 dc7 pm7 an7 cd7 ct7), sl7⟩) (c7 : PySem.W.codeIn K cd7 "stands_free" = true) (k7 : PySem.W.keepIn K (.ref f7) = true)
    (a8 : PySem.W.nsIn K mainGlobals "lifted_nodes" = some (some (.ref f8))) (l8 : K.lookup f8 = some ⟨oc8, od8, .func (PySem.W.fnOf "lifted_nodes" "lifted_nodes" (defArgs s_lifted_nodes) (defBody s_lifted_nodes) (defScope s_lifted_nodes) .none kV8 dc8 pm8 an8 cd8 ct8), sl8⟩) (c8 : PySem.W.codeIn K cd8 "lifted_nodes" = true) (k8 : PySem.W.keepIn K (.ref f8) = true)
    (a9 : PySem.W.nsIn K mainGlobals "put" = some (some (.ref f9))) (l9 : K.lookup f9 = some ⟨oc9, od9, .func (PySem.W.fnOf "put" "put" (defArgs s_put) (defBody s_put) (defScope s_put) .none kV9 dc9 pm9 an9 cd9 ct9), sl9⟩) (c9 : PySem.W.codeIn K cd9 "put" = true) (k9 : PySem.W.keepIn K (.ref f9) = true)
    (a10 : PySem.W.nsIn K mainGlobals "letters_of" = some (some (.ref f10))) (l10 : K.lookup f10 = some ⟨oc10, od10, .func (PySem.W.fnOf "letters_of" "letters_of" (defArgs s_letters_of) (defBody s_letters_of) (defScope s_letters_of) .none kV10 dc10 pm10 an10 cd10 ct10), sl10⟩) (c10 : PySem.W.codeIn K cd10 "letters_of" = true) (k10 : PySem.W.keepIn K (.ref f10) = true)
    (a11 : PySem.W.nsIn K mainGlobals "places" = some (some (.ref f11))) (l11 : K.lookup f11 = some ⟨oc11, od11, .func (PySem.W.fnOf "places" "places" (defArgs s_places) (defBody s_places) (defScope s_places) .none kV11 dc11 pm11 an11 cd11 ct11), sl11⟩) (c11 : PySem.W.codeIn K cd11 "places" = true) (k11 : PySem.W.keepIn K (.ref f11) = true)
    (a12 : PySem.W.nsIn K mainGlobals "end_of" = some (some (.ref f12))) (l12 : K.lookup f12 = some ⟨oc12, od12, .func (PySem.W.fnOf "end_of" "end_of" (defArgs s_end_of) (defBody s_end_of) (defScope s_end_of) .none kV12 dc12 pm12 an12 cd12 ct12), sl12⟩) (c12 : PySem.W.codeIn K cd12 "end_of" = true) (k12 : PySem.W.keepIn K (.ref f12) = true)
    (a13 : PySem.W.nsIn K mainGlobals "start_of" = some (some (.ref f13))) (l13 : K.lookup f13 = some ⟨oc13, od13, .func (PySem.W.fnOf "start_of" "start_of" (defArgs s_start_of) (defBody s_start_of) (defScope s_start_of) .none kV13 dc13 pm13 an13 cd13 ct13), sl13⟩) (c13 : PySem.W.codeIn K cd13 "start_of" = true) (k13 : PySem.W.keepIn K (.ref f13) = true)
    (a14 : PySem.W.nsIn K mainGlobals "is_redex" = some (some (.ref f14))) (l14 : K.lookup f14 = some ⟨oc14, od14, .func (PySem.W.fnOf "is_redex" "is_redex" (defArgs s_is_redex) (defBody s_is_redex) (defScope s_is_redex) .none kV14 dc14 pm14 an14 cd14 ct14), sl14⟩) (c14 : PySem.W.codeIn K cd14 "is_redex" = true) (k14 : PySem.W.keepIn K (.ref f14) = true)
    (a15 : PySem.W.nsIn K mainGlobals "index_at" = some (some (.ref f15))) (l15 : K.lookup f15 = some ⟨oc15, od15, .func (PySem.W.fnOf "index_at" "index_at" (defArgs s_index_at) (defBody s_index_at) (defScope s_index_at) .none kV15 dc15 pm15 an15 cd15 ct15), sl15⟩) (c15 : PySem.W.codeIn K cd15 "index_at" = true) (k15 : PySem.W.keepIn K (.ref f15) = true)
    (a16 : PySem.W.nsIn K mainGlobals "redex_at" = some (some (.ref f16))) (l16 : K.lookup f16 = some ⟨oc16, od16, .func (PySem.W.fnOf "redex_at" "redex_at" (defArgs s_redex_at) (defBody s_redex_at) (defScope s_redex_at) .none kV16 dc16 pm16 an16 cd16 ct16), sl16⟩) (c16 : PySem.W.codeIn K cd16 "redex_at" = true) (k16 : PySem.W.keepIn K (.ref f16) = true)
    (a17 : PySem.W.nsIn K mainGlobals "stepped" = some (some (.ref f17))) (l17 : K.lookup f17 = some ⟨oc17, od17, .func (PySem.W.fnOf "stepped" "stepped" (defArgs s_stepped) (defBody s_stepped) (defScope s_stepped) .none kV17 dc17 pm17 an17 cd17 ct17), sl17⟩) (c17 : PySem.W.codeIn K cd17 "stepped" = true) (k17 : PySem.W.keepIn K (.ref f17) = true)
    (a18 : PySem.W.nsIn K mainGlobals "first_redex" = some (some (.ref f18))) (l18 : K.lookup f18 = some ⟨oc18, od18, .func (PySem.W.fnOf "first_redex" "first_redex" (defArgs s_first_redex) (defBody s_first_redex) (defScope s_first_redex) .none kV18 dc18 pm18 an18 cd18 ct18), sl18⟩) (c18 : PySem.W.codeIn K cd18 "first_redex" = true) (k18 : PySem.W.keepIn K (.ref f18) = true)
    (a19 : PySem.W.nsIn K mainGlobals "next_redex" = some (some (.ref f19))) (l19 : K.lookup f19 = some ⟨oc19, od19, .func (PySem.W.fnOf "next_redex" "next_redex" (defArgs s_next_redex) (defBody s_next_redex) (defScope s_next_redex) .none kV19 dc19 pm19 an19 cd19 ct19), sl19⟩) (c19 : PySem.W.codeIn K cd19 "next_redex" = true) (k19 : PySem.W.keepIn K (.ref f19) = true)
    (a20 : PySem.W.nsIn K mainGlobals "repeated" = some (some (.ref f20))) (l20 : K.lookup f20 = some ⟨oc20, od20, .func (PySem.W.fnOf "repeated" "repeated" (defArgs s_repeated) (defBody s_repeated) (defScope s_repeated) .none kV20 dc20 pm20 an20 cd20 ct20), sl20⟩) (c20 : PySem.W.codeIn K cd20 "repeated" = true) (k20 : PySem.W.keepIn K (.ref f20) = true)
    (a21 : PySem.W.nsIn K mainGlobals "normal" = some (some (.ref f21))) (l21 : K.lookup f21 = some ⟨oc21, od21, .func (PySem.W.fnOf "normal" "normal" (defArgs s_normal) (defBody s_normal) (defScope s_normal) .none kV21 dc21 pm21 an21 cd21 ct21), sl21⟩) (c21 : PySem.W.codeIn K cd21 "normal" = true) (k21 : PySem.W.keepIn K (.ref f21) = true)
    (a22 : PySem.W.nsIn K mainGlobals "put_origins" = some (some (.ref f22))) (l22 : K.lookup f22 = some ⟨oc22, od22, .func (PySem.W.fnOf "put_origins" "put_origins" (defArgs s_put_origins) (defBody s_put_origins) (defScope s_put_origins) .none kV22 dc22 pm22 an22 cd22 ct22), sl22⟩) (c22 : PySem.W.codeIn K cd22 "put_origins" = true) (k22 : PySem.W.keepIn K (.ref f22) = true)
    (a23 : PySem.W.nsIn K mainGlobals "step_origins" = some (some (.ref f23))) (l23 : K.lookup f23 = some ⟨oc23, od23, .func (PySem.W.fnOf "step_origins" "step_origins" (defArgs s_step_origins) (defBody s_step_origins) (defScope s_step_origins) .none kV23 dc23 pm23 an23 cd23 ct23), sl23⟩) (c23 : PySem.W.codeIn K cd23 "step_origins" = true) (k23 : PySem.W.keepIn K (.ref f23) = true)
    (a24 : PySem.W.nsIn K mainGlobals "copies" = some (some (.ref f24))) (l24 : K.lookup f24 = some ⟨oc24, od24, .func (PySem.W.fnOf "copies" "copies" (defArgs s_copies) (defBody s_copies) (defScope s_copies) .none kV24 dc24 pm24 an24 cd24 ct24), sl24⟩) (c24 : PySem.W.codeIn K cd24 "copies" = true) (k24 : PySem.W.keepIn K (.ref f24) = true)
    (a25 : PySem.W.findIn K (.ref cc20) "__init__" = some (some (.ref f25))) (i25 : PySem.W.isFn K (.ref f25) = true) (l25 : K.lookup f25 = some ⟨oc25, od25, .func (PySem.W.fnOf "__init__" "Move.__init__" (defArgs s_Move_init) (defBody s_Move_init) (defScope s_Move_init) .none kV25 dc25 pm25 an25 cd25 ct25), sl25⟩) (c25 : PySem.W.codeIn K cd25 "Move.__init__" = true) (k25 : PySem.W.keepIn K (.ref f25) = true)
    (a26 : PySem.W.nsIn K mainGlobals "moves_of" = some (some (.ref f26))) (l26 : K.lookup f26 = some ⟨oc26, od26, .func (PySem.W.fnOf "moves_of" "moves_of" (defArgs s_moves_of) (defBody s_moves_of) (defScope s_moves_of) .none kV26 dc26 pm26 an26 cd26 ct26), sl26⟩) (c26 : PySem.W.codeIn K cd26 "moves_of" = true) (k26 : PySem.W.keepIn K (.ref f26) = true)
    (a27 : PySem.W.nsIn K mainGlobals "source" = some (some (.ref f27))) (l27 : K.lookup f27 = some ⟨oc27, od27, .func (PySem.W.fnOf "source" "source" (defArgs s_source) (defBody s_source) (defScope s_source) .none kV27 dc27 pm27 an27 cd27 ct27), sl27⟩) (c27 : PySem.W.codeIn K cd27 "source" = true) (k27 : PySem.W.keepIn K (.ref f27) = true)
    (a28 : PySem.W.nsIn K mainGlobals "first_source" = some (some (.ref f28))) (l28 : K.lookup f28 = some ⟨oc28, od28, .func (PySem.W.fnOf "first_source" "first_source" (defArgs s_first_source) (defBody s_first_source) (defScope s_first_source) .none kV28 dc28 pm28 an28 cd28 ct28), sl28⟩) (c28 : PySem.W.codeIn K cd28 "first_source" = true) (k28 : PySem.W.keepIn K (.ref f28) = true)
    (a29 : PySem.W.nsIn K mainGlobals "check_length" = some (some (.ref f29))) (l29 : K.lookup f29 = some ⟨oc29, od29, .func (PySem.W.fnOf "check_length" "check_length" (defArgs s_check_length) (defBody s_check_length) (defScope s_check_length) .none kV29 dc29 pm29 an29 cd29 ct29), sl29⟩) (c29 : PySem.W.codeIn K cd29 "check_length" = true) (k29 : PySem.W.keepIn K (.ref f29) = true)
    (a30 : PySem.W.nsIn K mainGlobals "moves_without" = some (some (.ref f30))) (l30 : K.lookup f30 = some ⟨oc30, od30, .func (PySem.W.fnOf "moves_without" "moves_without" (defArgs s_moves_without) (defBody s_moves_without) (defScope s_moves_without) .none kV30 dc30 pm30 an30 cd30 ct30), sl30⟩) (c30 : PySem.W.codeIn K cd30 "moves_without" = true) (k30 : PySem.W.keepIn K (.ref f30) = true)
    (a31 : PySem.W.nsIn K mainGlobals "standard" = some (some (.ref f31))) (l31 : K.lookup f31 = some ⟨oc31, od31, .func (PySem.W.fnOf "standard" "standard" (defArgs s_standard) (defBody s_standard) (defScope s_standard) .none kV31 dc31 pm31 an31 cd31 ct31), sl31⟩) (c31 : PySem.W.codeIn K cd31 "standard" = true) (k31 : PySem.W.keepIn K (.ref f31) = true)
    (a32 : PySem.W.nsIn K mainGlobals "_law_depths" = some (some (.ref f32))) (l32 : K.lookup f32 = some ⟨oc32, od32, .func (PySem.W.fnOf "_law_depths" "_law_depths" (defArgs s_law_depths) (defBody s_law_depths) (defScope s_law_depths) .none kV32 dc32 pm32 an32 cd32 ct32), sl32⟩) (c32 : PySem.W.codeIn K cd32 "_law_depths" = true) (k32 : PySem.W.keepIn K (.ref f32) = true)
    (a33 : PySem.W.nsIn K mainGlobals "_law_end" = some (some (.ref f33))) (l33 : K.lookup f33 = some ⟨oc33, od33, .func (PySem.W.fnOf "_law_end" "_law_end" (defArgs s_law_end) (defBody s_law_end) (defScope s_law_end) .none kV33 dc33 pm33 an33 cd33 ct33), sl33⟩) (c33 : PySem.W.codeIn K cd33 "_law_end" = true) (k33 : PySem.W.keepIn K (.ref f33) = true)
    (a34 : PySem.W.nsIn K mainGlobals "_law_lift" = some (some (.ref f34))) (l34 : K.lookup f34 = some ⟨oc34, od34, .func (PySem.W.fnOf "_law_lift" "_law_lift" (defArgs s_law_lift) (defBody s_law_lift) (defScope s_law_lift) .none kV34 dc34 pm34 an34 cd34 ct34), sl34⟩) (c34 : PySem.W.codeIn K cd34 "_law_lift" = true) (k34 : PySem.W.keepIn K (.ref f34) = true)
    (a35 : PySem.W.nsIn K mainGlobals "_law_put" = some (some (.ref f35))) (l35 : K.lookup f35 = some ⟨oc35, od35, .func (PySem.W.fnOf "_law_put" "_law_put" (defArgs s_law_put) (defBody s_law_put) (defScope s_law_put) .none kV35 dc35 pm35 an35 cd35 ct35), sl35⟩) (c35 : PySem.W.codeIn K cd35 "_law_put" = true) (k35 : PySem.W.keepIn K (.ref f35) = true)
    (a36 : PySem.W.nsIn K mainGlobals "_law_places" = some (some (.ref f36))) (l36 : K.lookup f36 = some ⟨oc36, od36, .func (PySem.W.fnOf "_law_places" "_law_places" (defArgs s_law_places) (defBody s_law_places) (defScope s_law_places) .none kV36 dc36 pm36 an36 cd36 ct36), sl36⟩) (c36 : PySem.W.codeIn K cd36 "_law_places" = true) (k36 : PySem.W.keepIn K (.ref f36) = true)
    (a37 : PySem.W.nsIn K mainGlobals "_law_redexes" = some (some (.ref f37))) (l37 : K.lookup f37 = some ⟨oc37, od37, .func (PySem.W.fnOf "_law_redexes" "_law_redexes" (defArgs s_law_redexes) (defBody s_law_redexes) (defScope s_law_redexes) .none kV37 dc37 pm37 an37 cd37 ct37), sl37⟩) (c37 : PySem.W.codeIn K cd37 "_law_redexes" = true) (k37 : PySem.W.keepIn K (.ref f37) = true)
    (a38 : PySem.W.nsIn K mainGlobals "_law_step" = some (some (.ref f38))) (l38 : K.lookup f38 = some ⟨oc38, od38, .func (PySem.W.fnOf "_law_step" "_law_step" (defArgs s_law_step) (defBody s_law_step) (defScope s_law_step) .none kV38 dc38 pm38 an38 cd38 ct38), sl38⟩) (c38 : PySem.W.codeIn K cd38 "_law_step" = true) (k38 : PySem.W.keepIn K (.ref f38) = true)
    (a39 : PySem.W.nsIn K mainGlobals "_law_follow" = some (some (.ref f39))) (l39 : K.lookup f39 = some ⟨oc39, od39, .func (PySem.W.fnOf "_law_follow" "_law_follow" (defArgs s_law_follow) (defBody s_law_follow) (defScope s_law_follow) .none kV39 dc39 pm39 an39 cd39 ct39), sl39⟩) (c39 : PySem.W.codeIn K cd39 "_law_follow" = true) (k39 : PySem.W.keepIn K (.ref f39) = true)
    (a40 : PySem.W.nsIn K mainGlobals "_law_first" = some (some (.ref f40))) (l40 : K.lookup f40 = some ⟨oc40, od40, .func (PySem.W.fnOf "_law_first" "_law_first" (defArgs s_law_first) (defBody s_law_first) (defScope s_law_first) .none kV40 dc40 pm40 an40 cd40 ct40), sl40⟩) (c40 : PySem.W.codeIn K cd40 "_law_first" = true) (k40 : PySem.W.keepIn K (.ref f40) = true)
    (a41 : PySem.W.nsIn K mainGlobals "_law_inner" = some (some (.ref f41))) (l41 : K.lookup f41 = some ⟨oc41, od41, .func (PySem.W.fnOf "_law_inner" "_law_inner" (defArgs s_law_inner) (defBody s_law_inner) (defScope s_law_inner) .none kV41 dc41 pm41 an41 cd41 ct41), sl41⟩) (c41 : PySem.W.codeIn K cd41 "_law_inner" = true) (k41 : PySem.W.keepIn K (.ref f41) = true)
    (a42 : PySem.W.nsIn K mainGlobals "_law_body" = some (some (.ref f42))) (l42 : K.lookup f42 = some ⟨oc42, od42, .func (PySem.W.fnOf "_law_body" "_law_body" (defArgs s_law_body) (defBody s_law_body) (defScope s_law_body) .none kV42 dc42 pm42 an42 cd42 ct42), sl42⟩) (c42 : PySem.W.codeIn K cd42 "_law_body" = true) (k42 : PySem.W.keepIn K (.ref f42) = true)
    (a43 : PySem.W.nsIn K mainGlobals "_law_road" = some (some (.ref f43))) (l43 : K.lookup f43 = some ⟨oc43, od43, .func (PySem.W.fnOf "_law_road" "_law_road" (defArgs s_law_road) (defBody s_law_road) (defScope s_law_road) .none kV43 dc43 pm43 an43 cd43 ct43), sl43⟩) (c43 : PySem.W.codeIn K cd43 "_law_road" = true) (k43 : PySem.W.keepIn K (.ref f43) = true)
    (a44 : PySem.W.nsIn K mainGlobals "_law_uses" = some (some (.ref f44))) (l44 : K.lookup f44 = some ⟨oc44, od44, .func (PySem.W.fnOf "_law_uses" "_law_uses" (defArgs s_law_uses) (defBody s_law_uses) (defScope s_law_uses) .none kV44 dc44 pm44 an44 cd44 ct44), sl44⟩) (c44 : PySem.W.codeIn K cd44 "_law_uses" = true) (k44 : PySem.W.keepIn K (.ref f44) = true)
    (a45 : PySem.W.nsIn K mainGlobals "_law_standard" = some (some (.ref f45))) (l45 : K.lookup f45 = some ⟨oc45, od45, .func (PySem.W.fnOf "_law_standard" "_law_standard" (defArgs s_law_standard) (defBody s_law_standard) (defScope s_law_standard) .none kV45 dc45 pm45 an45 cd45 ct45), sl45⟩) (c45 : PySem.W.codeIn K cd45 "_law_standard" = true) (k45 : PySem.W.keepIn K (.ref f45) = true)
    (a46 : PySem.W.nsIn K mainGlobals "law" = some (some (.ref f46))) (l46 : K.lookup f46 = some ⟨oc46, od46, .func (PySem.W.fnOf "law" "law" (defArgs s_law) (defBody s_law) (defScope s_law) .none kV46 dc46 pm46 an46 cd46 ct46), sl46⟩) (c46 : PySem.W.codeIn K cd46 "law" = true) (k46 : PySem.W.keepIn K (.ref f46) = true)
    (z_int : PySem.W.nsIn K mainGlobals "int" = some none)
    (z_list : PySem.W.nsIn K mainGlobals "list" = some none)
    (z_len : PySem.W.nsIn K mainGlobals "len" = some none)
    (z_abs : PySem.W.nsIn K mainGlobals "abs" = some none)
    (z_isinstance : PySem.W.nsIn K mainGlobals "isinstance" = some none)
    (z_tuple : PySem.W.nsIn K mainGlobals "tuple" = some none)
    (z_range : PySem.W.nsIn K mainGlobals "range" = some none)
    (z_zip : PySem.W.nsIn K mainGlobals "zip" = some none)
    (z_reversed : PySem.W.nsIn K mainGlobals "reversed" = some none)
    (z_max : PySem.W.nsIn K mainGlobals "max" = some none)
    (z_enumerate : PySem.W.nsIn K mainGlobals "enumerate" = some none)
    (z_bool : PySem.W.nsIn K mainGlobals "bool" = some none)
    (z_ValueError : PySem.W.nsIn K mainGlobals "ValueError" = some none)
    (g_MOST_NODES : PySem.W.nsIn K mainGlobals "MOST_NODES" = some (some (.int 1000 t0)))
    (g_MOST_VARIABLE : PySem.W.nsIn K mainGlobals "MOST_VARIABLE" = some (some (.int 1000000 t1)))
    (g_MOST_ROAD : PySem.W.nsIn K mainGlobals "MOST_ROAD" = some (some (.int 200 t2)))
    (e_PART_COUNTS : PySem.W.nsIn K mainGlobals "PART_COUNTS" = some (some (.ref cc40)))
    (e_LyditeError : PySem.W.nsIn K mainGlobals "LyditeError" = some (some (.ref cc0)))
    (e_TooLarge : PySem.W.nsIn K mainGlobals "TooLarge" = some (some (.ref cc1)))
    (e_NoRedex : PySem.W.nsIn K mainGlobals "NoRedex" = some (some (.ref cc2)))
    (e_NoPlace : PySem.W.nsIn K mainGlobals "NoPlace" = some (some (.ref cc3)))
    (e_OutOfSteps : PySem.W.nsIn K mainGlobals "OutOfSteps" = some (some (.ref cc4)))
    (e_Move : PySem.W.nsIn K mainGlobals "Move" = some (some (.ref cc20)))
    (y_d_PART_COUNTS : KD K w cc40 [("lam", .int 1), ("app", .int 2), ("to", .int 2)])
    (y_t_LyditeError : PySem.W.typeIn K (.ref cc0) = some (.type "type"))
    (y_h3_LyditeError : PySem.W.hasDictIn K cc0 = true)
    (y_x_TooLarge : PySem.W.excIn K cc1 [.type "ValueError", .type "Exception", .type "BaseException", .type "object"] "ValueError.__new__" = true)
    (y_k_TooLarge : PySem.W.keepIn K (.ref cc1) = true)
    (y_b_TooLarge : PySem.W.subIn K (.ref cc1) (.type "BaseException") = some true)
    (y_t_TooLarge : PySem.W.typeIn K (.ref cc1) = some (.type "type"))
    (y_s0_TooLarge : PySem.W.subIn K (.ref cc1) (.ref cc0) = some true)
    (y_sv_TooLarge : PySem.W.subIn K (.ref cc1) (.type "ValueError") = some true)
    (y_s1_TooLarge : PySem.W.subIn K (.ref cc1) (.ref cc1) = some true)
    (y_s2_TooLarge : PySem.W.subIn K (.ref cc1) (.ref cc2) = some false)
    (y_s3_TooLarge : PySem.W.subIn K (.ref cc1) (.ref cc3) = some false)
    (y_s4_TooLarge : PySem.W.subIn K (.ref cc1) (.ref cc4) = some false)
    (y_h1_TooLarge : PySem.W.findIn K (.ref cc1) "__getattribute__" = some (some (.builtin "BaseException.__getattribute__")))
    (y_h2_TooLarge : PySem.W.findIn K (.ref cc1) "__getattr__" = some none)
    (y_h3_TooLarge : PySem.W.hasDictIn K cc1 = true)
    (y_h4_TooLarge : PySem.W.findIn K (.ref cc1) "__class__" = some (some (.builtin "object.__class__")))
    (y_h7_TooLarge : PySem.W.mroIn K cc1 (.type "object") = some true)
    (y_h5_TooLarge : PySem.W.specialIn K (.builtin "object.__class__") "__get__" = some (some (.builtin "getset_descriptor.__get__")))
    (y_h6_TooLarge : PySem.W.takesIn K (.builtin "object.__class__") = some true)
    (y_x_NoRedex : PySem.W.excIn K cc2 [.type "ValueError", .type "Exception", .type "BaseException", .type "object"] "ValueError.__new__" = true)
    (y_k_NoRedex : PySem.W.keepIn K (.ref cc2) = true)
    (y_b_NoRedex : PySem.W.subIn K (.ref cc2) (.type "BaseException") = some true)
    (y_t_NoRedex : PySem.W.typeIn K (.ref cc2) = some (.type "type"))
    (y_s0_NoRedex : PySem.W.subIn K (.ref cc2) (.ref cc0) = some true)
    (y_sv_NoRedex : PySem.W.subIn K (.ref cc2) (.type "ValueError") = some true)
    (y_s1_NoRedex : PySem.W.subIn K (.ref cc2) (.ref cc1) = some false)
    (y_s2_NoRedex : PySem.W.subIn K (.ref cc2) (.ref cc2) = some true)
    (y_s3_NoRedex : PySem.W.subIn K (.ref cc2) (.ref cc3) = some false)
    (y_s4_NoRedex : PySem.W.subIn K (.ref cc2) (.ref cc4) = some false)
    (y_h1_NoRedex : PySem.W.findIn K (.ref cc2) "__getattribute__" = some (some (.builtin "BaseException.__getattribute__")))
    (y_h2_NoRedex : PySem.W.findIn K (.ref cc2) "__getattr__" = some none)
    (y_h3_NoRedex : PySem.W.hasDictIn K cc2 = true)
    (y_h4_NoRedex : PySem.W.findIn K (.ref cc2) "__class__" = some (some (.builtin "object.__class__")))
    (y_h7_NoRedex : PySem.W.mroIn K cc2 (.type "object") = some true)
    (y_x_NoPlace : PySem.W.excIn K cc3 [.type "ValueError", .type "Exception", .type "BaseException", .type "object"] "ValueError.__new__" = true)
    (y_k_NoPlace : PySem.W.keepIn K (.ref cc3) = true)
    (y_b_NoPlace : PySem.W.subIn K (.ref cc3) (.type "BaseException") = some true)
    (y_t_NoPlace : PySem.W.typeIn K (.ref cc3) = some (.type "type"))
    (y_s0_NoPlace : PySem.W.subIn K (.ref cc3) (.ref cc0) = some true)
    (y_sv_NoPlace : PySem.W.subIn K (.ref cc3) (.type "ValueError") = some true)
    (y_s1_NoPlace : PySem.W.subIn K (.ref cc3) (.ref cc1) = some false)
    (y_s2_NoPlace : PySem.W.subIn K (.ref cc3) (.ref cc2) = some false)
    (y_s3_NoPlace : PySem.W.subIn K (.ref cc3) (.ref cc3) = some true)
    (y_s4_NoPlace : PySem.W.subIn K (.ref cc3) (.ref cc4) = some false)
    (y_h1_NoPlace : PySem.W.findIn K (.ref cc3) "__getattribute__" = some (some (.builtin "BaseException.__getattribute__")))
    (y_h2_NoPlace : PySem.W.findIn K (.ref cc3) "__getattr__" = some none)
    (y_h3_NoPlace : PySem.W.hasDictIn K cc3 = true)
    (y_h4_NoPlace : PySem.W.findIn K (.ref cc3) "__class__" = some (some (.builtin "object.__class__")))
    (y_h7_NoPlace : PySem.W.mroIn K cc3 (.type "object") = some true)
    (y_x_OutOfSteps : PySem.W.excIn K cc4 [.type "ValueError", .type "Exception", .type "BaseException", .type "object"] "ValueError.__new__" = true)
    (y_k_OutOfSteps : PySem.W.keepIn K (.ref cc4) = true)
    (y_b_OutOfSteps : PySem.W.subIn K (.ref cc4) (.type "BaseException") = some true)
    (y_t_OutOfSteps : PySem.W.typeIn K (.ref cc4) = some (.type "type"))
    (y_s0_OutOfSteps : PySem.W.subIn K (.ref cc4) (.ref cc0) = some true)
    (y_sv_OutOfSteps : PySem.W.subIn K (.ref cc4) (.type "ValueError") = some true)
    (y_s1_OutOfSteps : PySem.W.subIn K (.ref cc4) (.ref cc1) = some false)
    (y_s2_OutOfSteps : PySem.W.subIn K (.ref cc4) (.ref cc2) = some false)
    (y_s3_OutOfSteps : PySem.W.subIn K (.ref cc4) (.ref cc3) = some false)
    (y_s4_OutOfSteps : PySem.W.subIn K (.ref cc4) (.ref cc4) = some true)
    (y_h1_OutOfSteps : PySem.W.findIn K (.ref cc4) "__getattribute__" = some (some (.builtin "BaseException.__getattribute__")))
    (y_h2_OutOfSteps : PySem.W.findIn K (.ref cc4) "__getattr__" = some none)
    (y_h3_OutOfSteps : PySem.W.hasDictIn K cc4 = true)
    (y_h4_OutOfSteps : PySem.W.findIn K (.ref cc4) "__class__" = some (some (.builtin "object.__class__")))
    (y_h7_OutOfSteps : PySem.W.mroIn K cc4 (.type "object") = some true)
    (y_pg_Move : PySem.W.plainGet K cc20 Str.empty = true)
    (y_hd_Move : PySem.W.hasDictIn K cc20 = true)
    (y_po_Move : PySem.W.plainOver K cc20 = true)
    (y_sa_Move : PySem.W.findIn K (.ref cc20) "__setattr__" = some (some (.builtin "object.__setattr__")))
    (y_mk_Move : PySem.W.makesIn K cc20 = true)
    (y_kc_Move : PySem.W.keepIn K (.ref cc20) = true)
    (y_nf_Move_term : PySem.W.findIn K (.ref cc20) "term" = some none)
    (y_nf_Move_at : PySem.W.findIn K (.ref cc20) "at" = some none)
    (y_nf_Move_result : PySem.W.findIn K (.ref cc20) "result" = some none)
    (y_nf_Move_origins : PySem.W.findIn K (.ref cc20) "origins" = some none)
    : ∃ fd : FuncData, (∀ (s : Shared) (v : Value), BindsTo s fd ⟨[v], []⟩ [("script", v)]) ∧ ∀ base : Heap, K.In base → base.Ns mainGlobals mg → FnOk l.prog w K mg base (L2.CX l.prog w) 40 fa fd ["script"] (spLaw K) := by
  have e := hfa.symm.trans (PySem.W.mg_of X G a46)
  cases e
  have T : Txt w K mg (fun n => match n with | 0 => t0 | 1 => t1 | _ => t2) (fun n => match n with | 40 => cc40 | 0 => cc0 | 1 => cc1 | 2 => cc2 | 3 => cc3 | 4 => cc4 | _ => cc20) := ⟨PySem.W.mg_none_of X G z_int, PySem.W.mg_none_of X G z_list, PySem.W.mg_none_of X G z_len, PySem.W.mg_none_of X G z_abs, PySem.W.mg_none_of X G z_isinstance, PySem.W.mg_none_of X G z_tuple, PySem.W.mg_none_of X G z_range, PySem.W.mg_none_of X G z_zip, PySem.W.mg_none_of X G z_reversed, PySem.W.mg_none_of X G z_max, PySem.W.mg_none_of X G z_enumerate, PySem.W.mg_none_of X G z_bool, PySem.W.mg_of X G g_MOST_NODES, PySem.W.mg_of X G g_MOST_VARIABLE, PySem.W.mg_of X G g_MOST_ROAD, PySem.W.mg_of X G e_PART_COUNTS, y_d_PART_COUNTS, PySem.W.mg_none_of X G z_ValueError, PySem.W.mg_of X G e_LyditeError, y_t_LyditeError, y_h3_LyditeError, PySem.W.mg_of X G e_TooLarge, y_x_TooLarge, y_k_TooLarge, y_b_TooLarge, y_t_TooLarge, y_s0_TooLarge, y_sv_TooLarge, y_s1_TooLarge, y_s2_TooLarge, y_s3_TooLarge, y_s4_TooLarge, y_h1_TooLarge, y_h2_TooLarge, y_h3_TooLarge, y_h4_TooLarge, y_h7_TooLarge, y_h5_TooLarge, y_h6_TooLarge, PySem.W.mg_of X G e_NoRedex, y_x_NoRedex, y_k_NoRedex, y_b_NoRedex, y_t_NoRedex, y_s0_NoRedex, y_sv_NoRedex, y_s1_NoRedex, y_s2_NoRedex, y_s3_NoRedex, y_s4_NoRedex, y_h1_NoRedex, y_h2_NoRedex, y_h3_NoRedex, y_h4_NoRedex, y_h7_NoRedex, PySem.W.mg_of X G e_NoPlace, y_x_NoPlace, y_k_NoPlace, y_b_NoPlace, y_t_NoPlace, y_s0_NoPlace, y_sv_NoPlace, y_s1_NoPlace, y_s2_NoPlace, y_s3_NoPlace, y_s4_NoPlace, y_h1_NoPlace, y_h2_NoPlace, y_h3_NoPlace, y_h4_NoPlace, y_h7_NoPlace, PySem.W.mg_of X G e_OutOfSteps, y_x_OutOfSteps, y_k_OutOfSteps, y_b_OutOfSteps, y_t_OutOfSteps, y_s0_OutOfSteps, y_sv_OutOfSteps, y_s1_OutOfSteps, y_s2_OutOfSteps, y_s3_OutOfSteps, y_s4_OutOfSteps, y_h1_OutOfSteps, y_h2_OutOfSteps, y_h3_OutOfSteps, y_h4_OutOfSteps, y_h7_OutOfSteps, PySem.W.mg_of X G e_Move, y_pg_Move, y_hd_Move, y_po_Move, y_sa_Move, y_mk_Move, y_kc_Move, y_nf_Move_term, y_nf_Move_at, y_nf_Move_result, y_nf_Move_origins⟩
  exact ⟨PySem.W.fnOf "law" "law" (defArgs s_law) (defBody s_law) (defScope s_law) .none kV46 dc46 pm46 an46 cd46 ct46, fun s v => .of_eq rfl, fun base _ _ => by
    have F1 := fun_mk (st := s_law_draw) l1 c1 k1
    have D1 := Def.of (P := l.prog) (w := w) (base := base) (k := 1) (PySem.W.mg_of X G a1) k1 (F1.binds (ps := ["stream", "many"]) fun _ _ _ _ _ _ us hl => match us, hl with | [_, _], _ => rfl) (ok_draw F1 T)
    have F2 := fun_mk (st := s_law_stream) l2 c2 k2
    have D2 := Def.of (P := l.prog) (w := w) (base := base) (k := 1) (PySem.W.mg_of X G a2) k2 (F2.binds (ps := ["script"]) fun _ _ _ _ _ _ us hl => match us, hl with | [_], _ => rfl) (ok_stream F2 T)
    have F3 := fun_mk (st := s_part_count) l3 c3 k3
    have D3 := Def.of (P := l.prog) (w := w) (base := base) (k := 1) (PySem.W.mg_of X G a3) k3 (F3.binds (ps := ["node"]) fun _ _ _ _ _ _ us hl => match us, hl with | [_], _ => rfl) (ok_part_count F3 T)
    have F4 := fun_mk (st := s_check_size) l4 c4 k4
    have D4 := Def.of (P := l.prog) (w := w) (base := base) (k := 1) (PySem.W.mg_of X G a4) k4 (F4.binds (ps := ["size"]) fun _ _ _ _ _ _ us hl => match us, hl with | [_], _ => rfl) (ok_check_size F4 T)
    have F5 := fun_mk (st := s_checked) l5 c5 k5
    have D5 := Def.of (P := l.prog) (w := w) (base := base) (k := 2) (PySem.W.mg_of X G a5) k5 (F5.binds (ps := ["term"]) fun _ _ _ _ _ _ us hl => match us, hl with | [_], _ => rfl) (ok_checked F5 T D4)
    have F6 := fun_mk (st := s_depths) l6 c6 k6
    have D6 := Def.of (P := l.prog) (w := w) (base := base) (k := 1) (PySem.W.mg_of X G a6) k6 (F6.binds (ps := ["term"]) fun _ _ _ _ _ _ us hl => match us, hl with | [_], _ => rfl) (ok_depths F6 T)
    have F7 := fun_mk (st := s_stands_free) l7 c7 k7
    have D7 := Def.of (P := l.prog) (w := w) (base := base) (k := 1) (PySem.W.mg_of X G a7) k7 (F7.binds (ps := ["node", "depth"]) fun _ _ _ _ _ _ us hl => match us, hl with | [_, _], _ => rfl) (ok_stands_free F7 T)
    have F8 := fun_mk (st := s_lifted_nodes) l8 c8 k8
    have D8 := Def.of (P := l.prog) (w := w) (base := base) (k := 2) (PySem.W.mg_of X G a8) k8 (F8.binds (ps := ["term", "count"]) fun _ _ _ _ _ _ us hl => match us, hl with | [_, _], _ => rfl) (ok_lifted F8 T D6 D7)
    have F9 := fun_mk (st := s_put) l9 c9 k9
    have D9 := Def.of (P := l.prog) (w := w) (base := base) (k := 3) (PySem.W.mg_of X G a9) k9 (F9.binds (ps := ["term", "value"]) fun _ _ _ _ _ _ us hl => match us, hl with | [_, _], _ => rfl) (ok_put F9 T D6 D7 D8 D4 D5)
    have F10 := fun_mk (st := s_letters_of) l10 c10 k10
    have D10 := Def.of (P := l.prog) (w := w) (base := base) (k := 1) (PySem.W.mg_of X G a10) k10 (F10.binds (ps := ["node"]) fun _ _ _ _ _ _ us hl => match us, hl with | [_], _ => rfl) (ok_letters F10 T)
    have F11 := fun_mk (st := s_places) l11 c11 k11
    have D11 := Def.of (P := l.prog) (w := w) (base := base) (k := 2) (PySem.W.mg_of X G a11) k11 (F11.binds (ps := ["term"]) fun _ _ _ _ _ _ us hl => match us, hl with | [_], _ => rfl) (ok_places F11 T D10)
    have F12 := fun_mk (st := s_end_of) l12 c12 k12
    have D12 := Def.of (P := l.prog) (w := w) (base := base) (k := 2) (PySem.W.mg_of X G a12) k12 (F12.binds (ps := ["term", "start"]) fun _ _ _ _ _ _ us hl => match us, hl with | [_, _], _ => rfl) (ok_end_of F12 T D3)
    have F13 := fun_mk (st := s_start_of) l13 c13 k13
    have D13 := Def.of (P := l.prog) (w := w) (base := base) (k := 3) (PySem.W.mg_of X G a13) k13 (F13.binds (ps := ["term", "place"]) fun _ _ _ _ _ _ us hl => match us, hl with | [_, _], _ => rfl) (ok_start F13 T D12 D10)
    have F14 := fun_mk (st := s_is_redex) l14 c14 k14
    have D14 := Def.of (P := l.prog) (w := w) (base := base) (k := 1) (PySem.W.mg_of X G a14) k14 (F14.binds (ps := ["term", "at"]) fun _ _ _ _ _ _ us hl => match us, hl with | [_, _], _ => rfl) (ok_is_redex F14 T)
    have F15 := fun_mk (st := s_index_at) l15 c15 k15
    have D15 := Def.of (P := l.prog) (w := w) (base := base) (k := 4) (PySem.W.mg_of X G a15) k15 (F15.binds (ps := ["term", "place"]) fun _ _ _ _ _ _ us hl => match us, hl with | [_, _], _ => rfl) (ok_index_at F15 T D13)
    have F16 := fun_mk (st := s_redex_at) l16 c16 k16
    have D16 := Def.of (P := l.prog) (w := w) (base := base) (k := 5) (PySem.W.mg_of X G a16) k16 (F16.binds (ps := ["term", "place"]) fun _ _ _ _ _ _ us hl => match us, hl with | [_, _], _ => rfl) (ok_redex_at F16 T D15 D14)
    have F17 := fun_mk (st := s_stepped) l17 c17 k17
    have D17 := Def.of (P := l.prog) (w := w) (base := base) (k := 4) (PySem.W.mg_of X G a17) k17 (F17.binds (ps := ["term", "at"]) fun _ _ _ _ _ _ us hl => match us, hl with | [_, _], _ => rfl) (ok_stepped F17 T D12 D9 D5)
    have F18 := fun_mk (st := s_first_redex) l18 c18 k18
    have D18 := Def.of (P := l.prog) (w := w) (base := base) (k := 2) (PySem.W.mg_of X G a18) k18 (F18.binds (ps := ["term", "start"]) fun _ _ _ _ _ _ us hl => match us, hl with | [_, _], _ => rfl) (ok_first F18 T D14)
    have F19 := fun_mk (st := s_next_redex) l19 c19 k19
    have D19 := Def.of (P := l.prog) (w := w) (base := base) (k := 3) (PySem.W.mg_of X G a19) k19 (F19.binds (ps := ["term", "at"]) fun _ _ _ _ _ _ us hl => match us, hl with | [_, _], _ => rfl) (ok_nextf F19 T D18)
    have F20 := fun_mk (st := s_repeated) l20 c20 k20
    have D20 := Def.of (P := l.prog) (w := w) (base := base) (k := 6) (PySem.W.mg_of X G a20) k20 (F20.binds (ps := ["term", "steps", "next_at", "step_at"]) fun _ _ _ _ _ _ us hl => match us, hl with | [_, _, _, _], _ => rfl) (ok_repeated F20 T D17 D19 D5)
    have F21 := fun_mk (st := s_normal) l21 c21 k21
    have D21 := Def.of (P := l.prog) (w := w) (base := base) (k := 7) (PySem.W.mg_of X G a21) k21 (F21.binds (ps := ["term", "steps"]) fun _ _ _ _ _ _ us hl => match us, hl with | [_, _], _ => rfl) (ok_normal F21 T D20 D17 D19)
    have F22 := fun_mk (st := s_put_origins) l22 c22 k22
    have D22 := Def.of (P := l.prog) (w := w) (base := base) (k := 2) (PySem.W.mg_of X G a22) k22 (F22.binds (ps := ["term", "value"]) fun _ _ _ _ _ _ us hl => match us, hl with | [_, _], _ => rfl) (ok_puto F22 T D6)
    have F23 := fun_mk (st := s_step_origins) l23 c23 k23
    have D23 := Def.of (P := l.prog) (w := w) (base := base) (k := 3) (PySem.W.mg_of X G a23) k23 (F23.binds (ps := ["term", "at"]) fun _ _ _ _ _ _ us hl => match us, hl with | [_, _], _ => rfl) (ok_stepo F23 T D12 D22)
    have F24 := fun_mk (st := s_copies) l24 c24 k24
    have D24 := Def.of (P := l.prog) (w := w) (base := base) (k := 1) (PySem.W.mg_of X G a24) k24 (F24.binds (ps := ["origins", "at"]) fun _ _ _ _ _ _ us hl => match us, hl with | [_, _], _ => rfl) (ok_copies F24 T)
    have F25 := fun_mk (st := s_Move_init) l25 c25 k25
    have D25 := DefC.of (P := l.prog) (w := w) (mg := mg) (base := base) (k := 5) ⟨y_mk_Move, a25, i25, y_kc_Move⟩ (F25.binds (ps := ["self", "term", "at"]) fun _ _ _ _ _ _ us hl => match us, hl with | [_, _, _], _ => rfl) (ok_move F25 T D17 D23)
    have F26 := fun_mk (st := s_moves_of) l26 c26 k26
    have D26 := Def.of (P := l.prog) (w := w) (base := base) (k := 8) (PySem.W.mg_of X G a26) k26 (F26.binds (ps := ["term", "road"]) fun _ _ _ _ _ _ us hl => match us, hl with | [_, _], _ => rfl) (ok_movesof F26 T D16 D25)
    have F27 := fun_mk (st := s_source) l27 c27 k27
    have D27 := Def.of (P := l.prog) (w := w) (base := base) (k := 3) (PySem.W.mg_of X G a27) k27 (F27.binds (ps := ["moves", "number"]) fun _ _ _ _ _ _ us hl => match us, hl with | [_, _], _ => rfl) (ok_source F27 T D14)
    have F28 := fun_mk (st := s_first_source) l28 c28 k28
    have D28 := Def.of (P := l.prog) (w := w) (base := base) (k := 4) (PySem.W.mg_of X G a28) k28 (F28.binds (ps := ["moves"]) fun _ _ _ _ _ _ us hl => match us, hl with | [_], _ => rfl) (ok_fsource F28 T D27)
    have F29 := fun_mk (st := s_check_length) l29 c29 k29
    have D29 := Def.of (P := l.prog) (w := w) (base := base) (k := 1) (PySem.W.mg_of X G a29) k29 (F29.binds (ps := ["road"]) fun _ _ _ _ _ _ us hl => match us, hl with | [_], _ => rfl) (ok_chklen F29 T)
    have F30 := fun_mk (st := s_moves_without) l30 c30 k30
    have D30 := Def.of (P := l.prog) (w := w) (base := base) (k := 8) (PySem.W.mg_of X G a30) k30 (F30.binds (ps := ["moves", "p", "number"]) fun _ _ _ _ _ _ us hl => match us, hl with | [_, _, _], _ => rfl) (ok_without F30 T D17 D24 D23 D25 D29)
    have F31 := fun_mk (st := s_standard) l31 c31 k31
    have D31 := Def.of (P := l.prog) (w := w) (base := base) (k := 10) (PySem.W.mg_of X G a31) k31 (F31.binds (ps := ["term", "road"]) fun _ _ _ _ _ _ us hl => match us, hl with | [_, _], _ => rfl) (ok_standard F31 T D26 D29 D28 D11 D30)
    have F32 := fun_mk (st := s_law_depths) l32 c32 k32
    have D32 := Def.of (P := l.prog) (w := w) (base := base) (k := 1) (PySem.W.mg_of X G a32) k32 (F32.binds (ps := ["term"]) fun _ _ _ _ _ _ us hl => match us, hl with | [_], _ => rfl) (ok_ldepths F32 T)
    have F33 := fun_mk (st := s_law_end) l33 c33 k33
    have D33 := Def.of (P := l.prog) (w := w) (base := base) (k := 1) (PySem.W.mg_of X G a33) k33 (F33.binds (ps := ["term", "at"]) fun _ _ _ _ _ _ us hl => match us, hl with | [_, _], _ => rfl) (ok_lend97 F33 T)
    have F34 := fun_mk (st := s_law_lift) l34 c34 k34
    have D34 := Def.of (P := l.prog) (w := w) (base := base) (k := 2) (PySem.W.mg_of X G a34) k34 (F34.binds (ps := ["term", "count"]) fun _ _ _ _ _ _ us hl => match us, hl with | [_, _], _ => rfl) (ok_llift97 F34 T D32)
    have F35 := fun_mk (st := s_law_put) l35 c35 k35
    have D35 := Def.of (P := l.prog) (w := w) (base := base) (k := 3) (PySem.W.mg_of X G a35) k35 (F35.binds (ps := ["term", "value"]) fun _ _ _ _ _ _ us hl => match us, hl with | [_, _], _ => rfl) (ok_lput97 F35 T D32 D34)
    have F36 := fun_mk (st := s_law_places) l36 c36 k36
    have D36 := Def.of (P := l.prog) (w := w) (base := base) (k := 1) (PySem.W.mg_of X G a36) k36 (F36.binds (ps := ["term"]) fun _ _ _ _ _ _ us hl => match us, hl with | [_], _ => rfl) (ok_lplaces97 F36 T)
    have F37 := fun_mk (st := s_law_redexes) l37 c37 k37
    have D37 := Def.of (P := l.prog) (w := w) (base := base) (k := 1) (PySem.W.mg_of X G a37) k37 (F37.binds (ps := ["term"]) fun _ _ _ _ _ _ us hl => match us, hl with | [_], _ => rfl) (ok_lredx97 F37 T)
    have F38 := fun_mk (st := s_law_step) l38 c38 k38
    have D38 := Def.of (P := l.prog) (w := w) (base := base) (k := 4) (PySem.W.mg_of X G a38) k38 (F38.binds (ps := ["term", "at"]) fun _ _ _ _ _ _ us hl => match us, hl with | [_, _], _ => rfl) (ok_lstep97 F38 T D33 D35)
    have F39 := fun_mk (st := s_law_follow) l39 c39 k39
    have D39 := Def.of (P := l.prog) (w := w) (base := base) (k := 5) (PySem.W.mg_of X G a39) k39 (F39.binds (ps := ["term", "road"]) fun _ _ _ _ _ _ us hl => match us, hl with | [_, _], _ => rfl) (ok_lfollow97 F39 T D36 D37 D38)
    have F40 := fun_mk (st := s_law_first) l40 c40 k40
    have D40 := Def.of (P := l.prog) (w := w) (base := base) (k := 5) (PySem.W.mg_of X G a40) k40 (F40.binds (ps := ["term", "count"]) fun _ _ _ _ _ _ us hl => match us, hl with | [_, _], _ => rfl) (ok_lfirst97 F40 T D36 D37 D38)
    have F41 := fun_mk (st := s_law_inner) l41 c41 k41
    have D41 := Def.of (P := l.prog) (w := w) (base := base) (k := 18) (PySem.W.mg_of X G a41) k41 (F41.binds (ps := ["stream", "size"]) fun _ _ _ _ _ _ us hl => match us, hl with | [_, _], _ => rfl) (ok_inner97 F41 T D1 (PySem.W.mg_of X G a41) k41 (F41.binds (ps := ["stream", "size"]) fun _ _ _ _ _ _ us hl => match us, hl with | [_, _], _ => rfl) 17)
    have F42 := fun_mk (st := s_law_body) l42 c42 k42
    have D42 := Def.of (P := l.prog) (w := w) (base := base) (k := 35) (PySem.W.mg_of X G a42) k42 (F42.binds (ps := ["stream", "widest", "size"]) fun _ _ _ _ _ _ us hl => match us, hl with | [_, _, _], _ => rfl) (ok_body97 F42 T D1 D41 (PySem.W.mg_of X G a42) k42 (F42.binds (ps := ["stream", "widest", "size"]) fun _ _ _ _ _ _ us hl => match us, hl with | [_, _, _], _ => rfl) 17)
    have F43 := fun_mk (st := s_law_road) l43 c43 k43
    have D43 := Def.of (P := l.prog) (w := w) (base := base) (k := 5) (PySem.W.mg_of X G a43) k43 (F43.binds (ps := ["stream", "term", "count"]) fun _ _ _ _ _ _ us hl => match us, hl with | [_, _, _], _ => rfl) (ok_lroad97 F43 T D1 D37 D36 D38)
    have F44 := fun_mk (st := s_law_uses) l44 c44 k44
    have D44 := Def.of (P := l.prog) (w := w) (base := base) (k := 2) (PySem.W.mg_of X G a44) k44 (F44.binds (ps := ["term"]) fun _ _ _ _ _ _ us hl => match us, hl with | [_], _ => rfl) (ok_luses97 F44 T D32)
    have F45 := fun_mk (st := s_law_standard) l45 c45 k45
    have D45 := Def.of (P := l.prog) (w := w) (base := base) (k := 12) (PySem.W.mg_of X G a45) k45 (F45.binds (ps := ["term", "road"]) fun _ _ _ _ _ _ us hl => match us, hl with | [_, _], _ => rfl) (ok_lstandard97 F45 T D31)
    have F46 := fun_mk (st := s_law) l46 c46 k46
    exact ok_law F46 T D2 D1 D42 D43 D39 D45 D44 D40 D37 D21⟩
theorem walk {l : PySem.W.OpenLaw} {q : Program} {loose : List Str} {XP : (Str → Option Value) → Heap → Prop} {YP : World → Heap → Prop} {d : DefRec} {K : Params → PySem.W.Frag} (hn : l.most = some 63) (hdf : d.params.defaults = [])
    (hY : ∀ (w : World) (h : Heap), YP w h → (K w.params).In h)
    (F : ∀ (w : World) (mg : Str → Option Value) (fa : Addr) (h : Heap), (K w.params).In h → h.Ns mainGlobals mg → mg d.name = some (.ref fa) →
      ∃ fd : FuncData, (∀ (s : Shared) (u : Value), BindsTo s fd ⟨[u], []⟩ [("script", u)]) ∧ ∀ base : Heap, (K w.params).In base → base.Ns mainGlobals mg → FnOk l.prog w (K w.params) mg base (L2.CX l.prog w) 40 fa fd ["script"] (spLaw (K w.params))) :
    PySem.W.WalkO q loose XP YP l.row.toRowW d [] (fun f vs => PySem.call f vs) :=
  L2.walk_of (n := 63) (k := 40) (x := "script") (CX := fun w => L2.CX l.prog w) (sp := fun w => spLaw (K w.params)) hn (by decide) hdf ⟨rfl, by decide, by decide⟩ hY F (fun _ _ a ns hl _ hS => ⟨a, ns, rfl, hS, hl, fun _ => rfl⟩) fun _ _ _ _ _ z => (match z with | ⟨_, _, _, _, _, _, _, _, _, _, _, _, e⟩ => e)
end Ly
open PySem PySem.W PyProof.Rows in
set_option maxRecDepth 100000 in
set_option maxHeartbeats 0 in
theorem PySem.Challenge.cw_lydite_k97_whole_first_steps_end_holds : PySem.Challenge.rw_lydite_k97_whole_first_steps_end.Holds := by
  w_on; o_law; k_head; (case hw => w_witness2)
  k_fill
  refine Ly.walk (l := PySem.Challenge.rw_lydite_k97_whole_first_steps_end) rfl rfl (fun w h Y => PySem.W.kIn_of Y) ?F
  case F =>
    intro w mg fa h KX G hmg
    refine' Ly.all_mk KX G hmg ?a1 ?l1 ?c1 ?k1 ?a2 ?l2 ?c2 ?k2 ?a3 ?l3 ?c3 ?k3 ?a4 ?l4 ?c4 ?k4 ?a5 ?l5 ?c5 ?k5 ?a6 ?l6 ?c6 ?k6 ?a7 ?l7 ?c7 ?k7 ?a8 ?l8 ?c8 ?k8 ?a9 ?l9 ?c9 ?k9 ?a10 ?l10 ?c10 ?k10 ?a11 ?l11 ?c11 ?k11 ?a12 ?l12 ?c12 ?k12 ?a13 ?l13 ?c13 ?k13 ?a14 ?l14 ?c14 ?k14 ?a15 ?l15 ?c15 ?k15 ?a16 ?l16 ?c16 ?k16 ?a17 ?l17 ?c17 ?k17 ?a18 ?l18 ?c18 ?k18 ?a19 ?l19 ?c19 ?k19 ?a20 ?l20 ?c20 ?k20 ?a21 ?l21 ?c21 ?k21 ?a22 ?l22 ?c22 ?k22 ?a23 ?l23 ?c23 ?k23 ?a24 ?l24 ?c24 ?k24 ?a25 ?i25 ?l25 ?c25 ?k25 ?a26 ?l26 ?c26 ?k26 ?a27 ?l27 ?c27 ?k27 ?a28 ?l28 ?c28 ?k28 ?a29 ?l29 ?c29 ?k29 ?a30 ?l30 ?c30 ?k30 ?a31 ?l31 ?c31 ?k31 ?a32 ?l32 ?c32 ?k32 ?a33 ?l33 ?c33 ?k33 ?a34 ?l34 ?c34 ?k34 ?a35 ?l35 ?c35 ?k35 ?a36 ?l36 ?c36 ?k36 ?a37 ?l37 ?c37 ?k37 ?a38 ?l38 ?c38 ?k38 ?a39 ?l39 ?c39 ?k39 ?a40 ?l40 ?c40 ?k40 ?a41 ?l41 ?c41 ?k41 ?a42 ?l42 ?c42 ?k42 ?a43 ?l43 ?c43 ?k43 ?a44 ?l44 ?c44 ?k44 ?a45 ?l45 ?c45 ?k45 ?a46 ?l46 ?c46 ?k46 ?z_int ?z_list ?z_len ?z_abs ?z_isinstance ?z_tuple ?z_range ?z_zip ?z_reversed ?z_max ?z_enumerate ?z_bool ?z_ValueError ?g_MOST_NODES ?g_MOST_VARIABLE ?g_MOST_ROAD ?e_PART_COUNTS ?e_LyditeError ?e_TooLarge ?e_NoRedex ?e_NoPlace ?e_OutOfSteps ?e_Move ?y_d_PART_COUNTS ?y_t_LyditeError ?y_h3_LyditeError ?y_x_TooLarge ?y_k_TooLarge ?y_b_TooLarge ?y_t_TooLarge ?y_s0_TooLarge ?y_sv_TooLarge ?y_s1_TooLarge ?y_s2_TooLarge ?y_s3_TooLarge ?y_s4_TooLarge ?y_h1_TooLarge ?y_h2_TooLarge ?y_h3_TooLarge ?y_h4_TooLarge ?y_h7_TooLarge ?y_h5_TooLarge ?y_h6_TooLarge ?y_x_NoRedex ?y_k_NoRedex ?y_b_NoRedex ?y_t_NoRedex ?y_s0_NoRedex ?y_sv_NoRedex ?y_s1_NoRedex ?y_s2_NoRedex ?y_s3_NoRedex ?y_s4_NoRedex ?y_h1_NoRedex ?y_h2_NoRedex ?y_h3_NoRedex ?y_h4_NoRedex ?y_h7_NoRedex ?y_x_NoPlace ?y_k_NoPlace ?y_b_NoPlace ?y_t_NoPlace ?y_s0_NoPlace ?y_sv_NoPlace ?y_s1_NoPlace ?y_s2_NoPlace ?y_s3_NoPlace ?y_s4_NoPlace ?y_h1_NoPlace ?y_h2_NoPlace ?y_h3_NoPlace ?y_h4_NoPlace ?y_h7_NoPlace ?y_x_OutOfSteps ?y_k_OutOfSteps ?y_b_OutOfSteps ?y_t_OutOfSteps ?y_s0_OutOfSteps ?y_sv_OutOfSteps ?y_s1_OutOfSteps ?y_s2_OutOfSteps ?y_s3_OutOfSteps ?y_s4_OutOfSteps ?y_h1_OutOfSteps ?y_h2_OutOfSteps ?y_h3_OutOfSteps ?y_h4_OutOfSteps ?y_h7_OutOfSteps ?y_pg_Move ?y_hd_Move ?y_po_Move ?y_sa_Move ?y_mk_Move ?y_kc_Move ?y_nf_Move_term ?y_nf_Move_at ?y_nf_Move_result ?y_nf_Move_origins
    (case e_PART_COUNTS => k_is)
    (case e_LyditeError => k_is)
    (case e_TooLarge => k_is)
    (case e_NoRedex => k_is)
    (case e_NoPlace => k_is)
    (case e_OutOfSteps => k_is)
    (case e_Move => k_is)
    (case y_d_PART_COUNTS => (refine' Ly.KD.mk ?kl ?kk ?ks ?ke; (case kl => k_is); (case kk => k_keys); (case ks => decide); (case ke => exact ⟨⟨_, rfl⟩, ⟨_, rfl⟩, ⟨⟨_, rfl⟩, ⟨_, rfl⟩, ⟨⟨_, rfl⟩, ⟨_, rfl⟩, True.intro⟩⟩⟩)))
    (case a1 => k_is)
    (case l1 => k_is)
    (case c1 => k_is)
    (case k1 => k_is)
    (case a2 => k_is)
    (case l2 => k_is)
    (case c2 => k_is)
    (case k2 => k_is)
    (case a3 => k_is)
    (case l3 => k_is)
    (case c3 => k_is)
    (case k3 => k_is)
    (case a4 => k_is)
    (case l4 => k_is)
    (case c4 => k_is)
    (case k4 => k_is)
    (case a5 => k_is)
    (case l5 => k_is)
    (case c5 => k_is)
    (case k5 => k_is)
    (case a6 => k_is)
    (case l6 => k_is)
    (case c6 => k_is)
    (case k6 => k_is)
    (case a7 => k_is)
    (case l7 => k_is)
    (case c7 => k_is)
    (case k7 => k_is)
    (case a8 => k_is)
    (case l8 => k_is)
    (case c8 => k_is)
    (case k8 => k_is)
    (case a9 => k_is)
    (case l9 => k_is)
    (case c9 => k_is)
    (case k9 => k_is)
    (case a10 => k_is)
    (case l10 => k_is)
    (case c10 => k_is)
    (case k10 => k_is)
    (case a11 => k_is)
    (case l11 => k_is)
    (case c11 => k_is)
    (case k11 => k_is)
    (case a12 => k_is)
    (case l12 => k_is)
    (case c12 => k_is)
    (case k12 => k_is)
    (case a13 => k_is)
    (case l13 => k_is)
    (case c13 => k_is)
    (case k13 => k_is)
    (case a14 => k_is)
    (case l14 => k_is)
    (case c14 => k_is)
    (case k14 => k_is)
    (case a15 => k_is)
    (case l15 => k_is)
    (case c15 => k_is)
    (case k15 => k_is)
    (case a16 => k_is)
    (case l16 => k_is)
    (case c16 => k_is)
    (case k16 => k_is)
    (case a17 => k_is)
    (case l17 => k_is)
    (case c17 => k_is)
    (case k17 => k_is)
    (case a18 => k_is)
    (case l18 => k_is)
    (case c18 => k_is)
    (case k18 => k_is)
    (case a19 => k_is)
    (case l19 => k_is)
    (case c19 => k_is)
    (case k19 => k_is)
    (case a20 => k_is)
    (case l20 => k_is)
    (case c20 => k_is)
    (case k20 => k_is)
    (case a21 => k_is)
    (case l21 => k_is)
    (case c21 => k_is)
    (case k21 => k_is)
    (case a22 => k_is)
    (case l22 => k_is)
    (case c22 => k_is)
    (case k22 => k_is)
    (case a23 => k_is)
    (case l23 => k_is)
    (case c23 => k_is)
    (case k23 => k_is)
    (case a24 => k_is)
    (case l24 => k_is)
    (case c24 => k_is)
    (case k24 => k_is)
    (case a25 => k_is)
    (case i25 => k_is)
    (case l25 => k_is)
    (case c25 => k_is)
    (case k25 => k_is)
    (case a26 => k_is)
    (case l26 => k_is)
    (case c26 => k_is)
    (case k26 => k_is)
    (case a27 => k_is)
    (case l27 => k_is)
    (case c27 => k_is)
    (case k27 => k_is)
    (case a28 => k_is)
    (case l28 => k_is)
    (case c28 => k_is)
    (case k28 => k_is)
    (case a29 => k_is)
    (case l29 => k_is)
    (case c29 => k_is)
    (case k29 => k_is)
    (case a30 => k_is)
    (case l30 => k_is)
    (case c30 => k_is)
    (case k30 => k_is)
    (case a31 => k_is)
    (case l31 => k_is)
    (case c31 => k_is)
    (case k31 => k_is)
    (case a32 => k_is)
    (case l32 => k_is)
    (case c32 => k_is)
    (case k32 => k_is)
    (case a33 => k_is)
    (case l33 => k_is)
    (case c33 => k_is)
    (case k33 => k_is)
    (case a34 => k_is)
    (case l34 => k_is)
    (case c34 => k_is)
    (case k34 => k_is)
    (case a35 => k_is)
    (case l35 => k_is)
    (case c35 => k_is)
    (case k35 => k_is)
    (case a36 => k_is)
    (case l36 => k_is)
    (case c36 => k_is)
    (case k36 => k_is)
    (case a37 => k_is)
    (case l37 => k_is)
    (case c37 => k_is)
    (case k37 => k_is)
    (case a38 => k_is)
    (case l38 => k_is)
    (case c38 => k_is)
    (case k38 => k_is)
    (case a39 => k_is)
    (case l39 => k_is)
    (case c39 => k_is)
    (case k39 => k_is)
    (case a40 => k_is)
    (case l40 => k_is)
    (case c40 => k_is)
    (case k40 => k_is)
    (case a41 => k_is)
    (case l41 => k_is)
    (case c41 => k_is)
    (case k41 => k_is)
    (case a42 => k_is)
    (case l42 => k_is)
    (case c42 => k_is)
    (case k42 => k_is)
    (case a43 => k_is)
    (case l43 => k_is)
    (case c43 => k_is)
    (case k43 => k_is)
    (case a44 => k_is)
    (case l44 => k_is)
    (case c44 => k_is)
    (case k44 => k_is)
    (case a45 => k_is)
    (case l45 => k_is)
    (case c45 => k_is)
    (case k45 => k_is)
    (case a46 => k_is)
    (case l46 => k_is)
    (case c46 => k_is)
    (case k46 => k_is)
    (case z_int => k_is)
    (case z_list => k_is)
    (case z_len => k_is)
    (case z_abs => k_is)
    (case z_isinstance => k_is)
    (case z_tuple => k_is)
    (case z_range => k_is)
    (case z_zip => k_is)
    (case z_reversed => k_is)
    (case z_max => k_is)
    (case z_enumerate => k_is)
    (case z_bool => k_is)
    (case z_ValueError => k_is)
    (case g_MOST_NODES => k_is)
    (case g_MOST_VARIABLE => k_is)
    (case g_MOST_ROAD => k_is)
    (case y_t_LyditeError => k_is)
    (case y_h3_LyditeError => k_is)
    (case y_x_TooLarge => k_exc)
    (case y_k_TooLarge => k_is)
    (case y_b_TooLarge => k_is)
    (case y_t_TooLarge => k_is)
    (case y_s0_TooLarge => k_is)
    (case y_sv_TooLarge => k_is)
    (case y_s1_TooLarge => k_is)
    (case y_s2_TooLarge => k_is)
    (case y_s3_TooLarge => k_is)
    (case y_s4_TooLarge => k_is)
    (case y_h1_TooLarge => k_is)
    (case y_h2_TooLarge => k_is)
    (case y_h3_TooLarge => k_is)
    (case y_h4_TooLarge => k_is)
    (case y_h7_TooLarge => k_is)
    (case y_h5_TooLarge => k_is)
    (case y_h6_TooLarge => k_is)
    (case y_x_NoRedex => k_exc)
    (case y_k_NoRedex => k_is)
    (case y_b_NoRedex => k_is)
    (case y_t_NoRedex => k_is)
    (case y_s0_NoRedex => k_is)
    (case y_sv_NoRedex => k_is)
    (case y_s1_NoRedex => k_is)
    (case y_s2_NoRedex => k_is)
    (case y_s3_NoRedex => k_is)
    (case y_s4_NoRedex => k_is)
    (case y_h1_NoRedex => k_is)
    (case y_h2_NoRedex => k_is)
    (case y_h3_NoRedex => k_is)
    (case y_h4_NoRedex => k_is)
    (case y_h7_NoRedex => k_is)
    (case y_x_NoPlace => k_exc)
    (case y_k_NoPlace => k_is)
    (case y_b_NoPlace => k_is)
    (case y_t_NoPlace => k_is)
    (case y_s0_NoPlace => k_is)
    (case y_sv_NoPlace => k_is)
    (case y_s1_NoPlace => k_is)
    (case y_s2_NoPlace => k_is)
    (case y_s3_NoPlace => k_is)
    (case y_s4_NoPlace => k_is)
    (case y_h1_NoPlace => k_is)
    (case y_h2_NoPlace => k_is)
    (case y_h3_NoPlace => k_is)
    (case y_h4_NoPlace => k_is)
    (case y_h7_NoPlace => k_is)
    (case y_x_OutOfSteps => k_exc)
    (case y_k_OutOfSteps => k_is)
    (case y_b_OutOfSteps => k_is)
    (case y_t_OutOfSteps => k_is)
    (case y_s0_OutOfSteps => k_is)
    (case y_sv_OutOfSteps => k_is)
    (case y_s1_OutOfSteps => k_is)
    (case y_s2_OutOfSteps => k_is)
    (case y_s3_OutOfSteps => k_is)
    (case y_s4_OutOfSteps => k_is)
    (case y_h1_OutOfSteps => k_is)
    (case y_h2_OutOfSteps => k_is)
    (case y_h3_OutOfSteps => k_is)
    (case y_h4_OutOfSteps => k_is)
    (case y_h7_OutOfSteps => k_is)
    (case y_pg_Move => k_is)
    (case y_hd_Move => k_is)
    (case y_po_Move => k_is)
    (case y_sa_Move => k_is)
    (case y_mk_Move => k_is)
    (case y_kc_Move => k_is)
    (case y_nf_Move_term => k_is)
    (case y_nf_Move_at => k_is)
    (case y_nf_Move_result => k_is)
    (case y_nf_Move_origins => k_is)
