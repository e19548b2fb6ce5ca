import PyProof.Rows.All
import Wide.All
import OpenK.AllK
import Wide.FinOn
import HandS.ForMost
import HandS.Exc
import HandS.IsInst
import HandS.Style
import HandS.Flow
import HandS.Defaults
import HandS.Head0
import HandS.Head1
import HandS.Head2
import HandS.HeadEnd
import HandS.HeadHook1
import HandS.HeadHook2
import HandS.HeadHook3
import HandS.HeadHook4
import HandS.Codes
import HandS.SortKw
import HandS.ExcInit
import HandS.FStr
import HandS.Walk
import KE.KDictKeyed
import KE.KeyNested
import KE.SortData
import KE.SortKeyHeap
import KE.KDictWalk
import PySem.Challenge.RW_graphtwins_k00_names_fields_and_values
set_option Elab.async false
set_option linter.all false
set_option maxRecDepth 100000
set_option maxHeartbeats 4000000
/-! ## Part A: heaps that grow, readings step by step (nothing of one law) -/
namespace GT
open PySem PySem.Spec PyProof.Rows L2
/-! ### what a step of a program may change: the objects in M; tuples never -/
structure Stp (M : List Addr) (H H' : Hp) : Prop where
  keep : ∀ c o, H c = some o → c ∉ M → H' c = some o
  tups : ∀ c xs, H c = some (.tup xs) → H' c = some (.tup xs)
theorem Stp.refl {M : List Addr} (H : Hp) : Stp M H H := ⟨fun _ _ h _ => h, fun _ _ h => h⟩
theorem Stp.trans {M : List Addr} {H H1 H2 : Hp} (a : Stp M H H1) (b : Stp M H1 H2) : Stp M H H2 :=
  ⟨fun c o h n => b.keep c o (a.keep c o h n) n, fun c xs h => b.tups c xs (a.tups c xs h)⟩
theorem Stp.mono {M M' : List Addr} {H H1 : Hp} (a : Stp M H H1) (h : ∀ c ∈ M, c ∈ M') : Stp M' H H1 :=
  ⟨fun c o e n => a.keep c o e fun z => n (h c z), a.tups⟩
/-- a new object -/
theorem Stp.new {M : List Addr} {H : Hp} {p : Addr} {o : HO} (n : H p = none) : Stp M H (upd H p o) :=
  ⟨fun c u h _ => by rw [upd_ne (ne_of_none h n)]; exact h, fun c xs h => by rw [upd_ne (ne_of_none h n)]; exact h⟩
theorem Stp.add {M : List Addr} {H H1 : Hp} {p : Addr} {o : HO} (a : Stp M H H1) (n : H1 p = none) : Stp M H (upd H1 p o) := a.trans (.new n)
/-- an object of M is written -/
theorem Stp.wr {M : List Addr} {H : Hp} {p : Addr} {o u : HO} (hm : p ∈ M) (hu : H p = some u) (nt : ∀ xs, u ≠ .tup xs) : Stp M H (upd H p o) :=
  ⟨fun c v h n => by rw [upd_ne (fun z => n (by rw [z]; exact hm))]; exact h,
   fun c xs h => by rw [upd_ne (fun z => nt xs (by rw [z, hu] at h; exact Option.some.inj h))]; exact h⟩
theorem Stp.write {M : List Addr} {H H1 : Hp} {p : Addr} {o u : HO} (a : Stp M H H1) (hm : p ∈ M) (hu : H1 p = some u) (nt : ∀ xs, u ≠ .tup xs) : Stp M H (upd H1 p o) := a.trans (.wr hm hu nt)
/-- an object that was not yet there at H is written -/
theorem Stp.mut {M : List Addr} {H H1 : Hp} {p : Addr} {o : HO} (a : Stp M H H1) (n : H p = none) : Stp M H (upd H1 p o) :=
  ⟨fun c v h m => by rw [upd_ne (ne_of_none h n)]; exact a.keep c v h m, fun c xs h => by rw [upd_ne (ne_of_none h n)]; exact a.tups c xs h⟩
/-- what is free behind was free before -/
theorem Stp.free {M : List Addr} {H H1 : Hp} (a : Stp M H H1) {p : Addr} (n : H1 p = none) (hM : p ∉ M) : H p = none := by
  cases q : H p with
  | none => rfl
  | some o => rw [a.keep p o q hM] at n; cases n
theorem Stp.nil {H H1 : Hp} (a : Stp [] H H1) : Same H H1 := fun c o h => a.keep c o h (by simp)
theorem Stp.of {M : List Addr} {H H1 : Hp} (a : Same H H1) : Stp M H H1 := ⟨fun c o h _ => a c o h, fun c xs h => a c _ h⟩
theorem Stp.seq {M : List Addr} {H H1 : Hp} (a : Stp M H H1) {K : PySem.W.Frag} {p : Addr} {xs : List V} (h : SqL K H p xs) (n : p ∉ M) : SqL K H1 p xs := by
  rcases h with (h | ⟨o, h⟩) | h
  · exact .inl (.inl (a.keep _ _ h n))
  · exact .inl (.inr ⟨o, a.keep _ _ h n⟩)
  · exact .inr h
/-! ### readings, one step each -/
section
variable {σ : L2.St} {H : Hp} {Q : VK} {QT : Bool → Hp → Prop} {QA : List V → Hp → Prop} {D : Ends} {v x y : V} {te ta tb tc : TE} {tt tu : TT} {t u : TS} {K : PySem.W.Frag}
theorem i_var {i : Nat} (h : σ[i]? = some (some v)) (q : Q v H) : tVar i σ H Q := ⟨v, h, q⟩
theorem i_C (q : Q v H) : tC v σ H Q := q
theorem i_Yes (q : QT true H) : tYes σ H QT := q
theorem i_Op {r : R2} (q : ta σ H fun x H1 => tb σ H1 fun y H2 => r x y H2 Q) : tOp r ta tb σ H Q := q
theorem i_Un {r : V → Hp → VK → Prop} (q : ta σ H fun x H1 => r x H1 Q) : tUn r ta σ H Q := q
theorem i_I0 {g : Int → Int → V} {i j : Int} (q : Q (g i j) H) : rI0 g (.int i) (.int j) H Q := ⟨i, j, rfl, rfl, q⟩
theorem i_I {C : Int → Int → Prop} {g : Int → Int → V} {i j : Int} (c : C i j) (q : Q (g i j) H) : rI C g (.int i) (.int j) H Q := ⟨i, j, rfl, rfl, c, q⟩
theorem i_U {g : Int → V} {i : Int} (q : Q (g i) H) : rU g (.int i) H Q := ⟨i, rfl, q⟩
theorem i_Eq (s : scal x y = true) (q : Q (.bl (decide (x = y))) H) : rEq x y H Q := ⟨s, q⟩
theorem i_Ne (s : scal x y = true) (q : Q (.bl (!decide (x = y))) H) : rNe x y H Q := ⟨s, q⟩
theorem i_Test (q : te σ H fun x H' => ∃ k, x = .bl k ∧ QT k H') : tTest te σ H QT := q
theorem i_B (q : te σ H fun x H' => ∃ k, x = .bl k ∧ QT k H') : tB te σ H QT := q
theorem i_bl {k : Bool} (q : QT k H) : ∃ c, V.bl k = V.bl c ∧ QT c H := ⟨k, rfl, q⟩
theorem i_And (q : tt σ H fun c H1 => if c = true then tu σ H1 QT else QT false H1) : tAnd tt tu σ H QT := q
theorem i_Or (q : tt σ H fun c H1 => if c = true then QT true H1 else tu σ H1 QT) : tOr tt tu σ H QT := q
theorem i_Not (q : tt σ H fun c H1 => QT (!c) H1) : tNot tt σ H QT := q
theorem i_Nil (q : QA [] H) : tNil σ H QA := q
theorem i_Cons {tr : TA} (q : ta σ H fun x H1 => tr σ H1 fun xs H2 => QA (x :: xs) H2) : tCons ta tr σ H QA := q
theorem i_Seq (q : t { D with nx := u D } σ H) : tSeq t u D σ H := q
theorem i_Asg {g : TG} (q : te σ H fun x H1 => g x σ H1 D.nx) : tAsg te g D σ H := q
theorem i_Name {i : Nat} {Qs : L2.St → Hp → Prop} (q : Qs (σ.set i (some v)) H) : gName i v σ H Qs := q
theorem i_Ret (q : te σ H D.rt) : tRet te D σ H := q
theorem i_IfS (q : tt σ H fun b H1 => if b = true then t D σ H1 else u D σ H1) : tIfS tt t u D σ H := q
theorem i_Drop (q : te σ H fun _ H1 => D.nx σ H1) : tDrop te D σ H := q
theorem i_Next (q : D.nx σ H) : tNext D σ H := q
theorem i_If (q : tt σ H fun c H1 => if c = true then ta σ H1 Q else tb σ H1 Q) : tIf tt ta tb σ H Q := q
theorem i_Call {sp : Sp} {dvs : List V} {E : XK} {tr : TA} (q : tr σ H fun vs H1 => sp (vs ++ dvs) H1 Q E) : tCall sp dvs E tr σ H Q := q
theorem i_CB {r : List V → Hp → VK → Prop} {tr : TA} (q : tr σ H fun vs H1 => r vs H1 Q) : tCB r tr σ H Q := q
theorem i_ite {b : Bool} {A B : Prop} (h1 : b = true → A) (h2 : b = false → B) : if b = true then A else B := by
  cases b
  · exact h2 rfl
  · exact h1 rfl
theorem i_iteD {c : Prop} [Decidable c] {A B : Prop} (h1 : c → A) (h2 : ¬ c → B) : if decide c = true then A else B := by
  by_cases h : c
  · rw [if_pos (decide_eq_true h)]; exact h1 h
  · rw [if_neg (fun z => h (of_decide_eq_true z))]; exact h2 h
theorem i_iteN {c : Prop} [Decidable c] {A B : Prop} (h1 : ¬ c → A) (h2 : c → B) : if (!decide c) = true then A else B := by
  by_cases h : c
  · rw [if_neg (by simp [h])]; exact h2 h
  · rw [if_pos (by simp [h])]; exact h1 h
theorem i_IxL {p : Addr} {xs : List V} {i : Int} (s : SqL K H p xs) (e : atI xs i = some v) (q : Q v H) : rIxL K (.ref p) (.int i) H Q := ⟨p, xs, i, v, rfl, rfl, s, e, q⟩
theorem i_IxT {p : Addr} {xs : List V} {i : Int} (s : SqT K H p xs) (e : atI xs i = some v) (q : Q v H) : rIxT K (.ref p) (.int i) H Q := ⟨p, xs, i, v, rfl, rfl, s, e, q⟩
theorem i_IxS {z : Str} {i : Int} {c : Nat} (s : z.length ≤ sizeLine) (e : atI z.cps.toList i = some c) (q : Q (.str ⟨#[c]⟩) H) : rIxS (.str z) (.int i) H Q := ⟨z, i, c, rfl, rfl, s, e, q⟩
theorem i_gTup {n : Nat} {tg : TGs} {Qs : L2.St → Hp → Prop} {a : Addr} {xs : List V} (s : SqT K H a xs) (e : xs.length = n) (q : tg xs σ H Qs) : gTup K n tg (.ref a) σ H Qs := ⟨a, xs, rfl, s, e, q⟩
theorem i_gNil {Qs : L2.St → Hp → Prop} (q : Qs σ H) : gNil [] σ H Qs := ⟨rfl, q⟩
theorem i_gCons {g : TG} {tg : TGs} {Qs : L2.St → Hp → Prop} {r : List V} (q : g v σ H fun σ' H' => tg r σ' H' Qs) : gCons g tg (v :: r) σ H Qs := ⟨v, r, rfl, q⟩
theorem i_Tup {tr : TA} (h : tr σ H fun xs H1 => xs.length ≤ sizeLine ∧ ∀ p, H1 p = none → Q (.ref p) (upd H1 p (.tup xs))) : tTup tr σ H Q := h
theorem i_Lst {tr : TA} (h : tr σ H fun xs H1 => xs.length ≤ sizeLine ∧ ∀ p, H1 p = none → Q (.ref p) (upd H1 p (.lst xs))) : tLst tr σ H Q := h
/-- a new tuple, a new list: the heap behind told by what is known of it -/
theorem i_NewT {M : List Addr} {H0 : Hp} {xs : List V} (s : Stp M H0 H) (l : xs.length ≤ sizeLine) (q : ∀ p H1, H p = none → H1 p = some (.tup xs) → Stp [] H H1 → Stp M H0 H1 → Q (.ref p) H1) :
    xs.length ≤ sizeLine ∧ ∀ p, H p = none → Q (.ref p) (upd H p (.tup xs)) := ⟨l, fun p n => q p _ n upd_same (.new n) (s.add n)⟩
theorem i_NewL {M : List Addr} {H0 : Hp} {xs : List V} (s : Stp M H0 H) (l : xs.length ≤ sizeLine) (q : ∀ p H1, H p = none → H1 p = some (.lst xs) → Stp [] H H1 → Stp M H0 H1 → Q (.ref p) H1) :
    xs.length ≤ sizeLine ∧ ∀ p, H p = none → Q (.ref p) (upd H p (.lst xs)) := ⟨l, fun p n => q p _ n upd_same (.new n) (s.add n)⟩
theorem i_Sl {r : V → Option Int → Option Int → Hp → VK → Prop} {tl th : TO} (q : te σ H fun x H1 => tl σ H1 fun l H2 => th σ H2 fun u H3 => r x l u H3 Q) : tSl r te tl th σ H Q := q
theorem i_NoPart {QO : Option Int → Hp → Prop} (q : QO none H) : tNoPart σ H QO := q
theorem i_Part {QO : Option Int → Hp → Prop} (q : te σ H fun x H1 => ∃ i, x = .int i ∧ QO (some i) H1) : tPart te σ H QO := q
theorem i_intV {k : Int} {A : Int → Prop} (q : A k) : ∃ c, V.int k = V.int c ∧ A c := ⟨k, rfl, q⟩
theorem i_SlS {z : Str} {lo hi : Option Int} (s : z.length ≤ sizeLine) (q : Q (.str (cutS z lo hi)) H) : rSlS (.str z) lo hi H Q := ⟨z, rfl, s, q⟩
theorem i_SlL {a : Addr} {xs : List V} {lo hi : Option Int} (s : SqL K H a xs) (q : ∀ p, H p = none → Q (.ref p) (upd H p (.lst (cutV xs lo hi)))) : rSlL K (.ref a) lo hi H Q := ⟨a, xs, rfl, s, q⟩
theorem i_Par {i j : Nat} {tr : TA} (q : tr σ H fun vs H1 => ∃ v w, vs = [v, w] ∧ D.nx ((σ.set i (some v)).set j (some w)) H1) : tPar i j tr D σ H := q
theorem i_Aug {i : Nat} {ti : TIp} (h : σ[i]? = some (some x)) (q : te σ H fun y H1 => ti x y H1 fun z H2 => D.nx (σ.set i (some z)) H2) : tAug i te ti D σ H := ⟨x, h, q⟩
theorem i_Chain {r r' : R2} (q : ta σ H fun x H1 => tb σ H1 fun y H2 => r x y H2 fun z H3 => ∃ k, z = .bl k ∧ (if k = true then tc σ H3 fun w' H4 => r' y w' H4 Q else Q (.bl false) H3)) : tChain r r' ta tb tc σ H Q := q
theorem i_AndV (q : ta σ H fun x H1 => ∃ c, x = .bl c ∧ if c = true then tb σ H1 Q else Q (.bl false) H1) : tAndV ta tb σ H Q := q
theorem i_OrV (q : ta σ H fun x H1 => ∃ c, x = .bl c ∧ if c = true then Q (.bl true) H1 else tb σ H1 Q) : tOrV ta tb σ H Q := q
theorem i_NotV (q : ta σ H fun x H1 => ∃ c, x = .bl c ∧ Q (.bl (!c)) H1) : tNotV ta σ H Q := q
theorem i_blV {k : Bool} {A : Bool → Prop} (q : A k) : ∃ c, V.bl k = V.bl c ∧ A c := ⟨k, rfl, q⟩
theorem qbl {a b : Bool} (q : Q (.bl a) H) (e : a = b) : Q (.bl b) H := by rw [← e]; exact q
theorem qv (q : Q x H) (e : x = y) : Q y H := by rw [← e]; exact q
theorem i_BM {T : String} {r : V → List V → Hp → VK → Prop} {tr : TA} (q : te σ H fun x H1 => tyV K T x H1 ∧ tr σ H1 fun xs H2 => r x xs H2 Q) : tBM K T r te tr σ H Q := q
theorem i_BM0 {T : String} {r : V → List V → Hp → VK → Prop} (q : te σ H fun x H1 => tyV K T x H1 ∧ r x [] H1 Q) : tBM0 K T r te σ H Q := q
end
end GT
namespace GT
open PySem PySem.Spec PyProof.Rows L2
/-! ### defs and their calls -/
/-- a def of the text stands behind the top under its name -/
def Df (K : PySem.W.Frag) (mg : Str → Option Value) (d : He.DefD) : Prop :=
  ∃ (f : Addr) (fd : FuncData), FunD K d.name d.qual d.params d.body d.scope [] [] f fd ∧ mg d.name = some (.ref f)
/-- the name x is a def that keeps sp and raises nothing -/
def Cal (P : Program) (w : World) (K : PySem.W.Frag) (mg : Str → Option Value) (base : Heap) (k : Nat) (x : Str) (ps : List Str) (sp : Sp) : Prop :=
  ∃ (f : Addr) (fd : FuncData), FnOk P w K mg base CX0 k f fd ps sp ∧ mg x = some (.ref f) ∧ PySem.W.keepIn K (.ref f) = true ∧ Binds K fd ps []
/-- the built-ins that are used are still the built-ins -/
structure Blt (mg : Str → Option Value) : Prop where
  len : mg "len" = none
  int : mg "int" = none
  range : mg "range" = none
  isinstance : mg "isinstance" = none
  sorted : mg "sorted" = none
  list : mg "list" = none
  tuple : mg "tuple" = none
  dict : mg "dict" = none
  str : mg "str" = none
  bool : mg "bool" = none
  max : mg "max" = none
  min : mg "min" = none
  all : mg "all" = none
  any : mg "any" = none
  sum : mg "sum" = none
  ord : mg "ord" = none
  enumerate : mg "enumerate" = none
section
variable {X : Cx} {e : Expr} {es : List Expr} {t : TA} {x : Str} {p pos : Pos} {ps : List Str} {sp : Sp} {k : Nat}
theorem pc_call (C : Cal X.prog X.w X.K X.mg X.base k x ps sp) (hr : Room k X.A) (hg : Gl X x) (ha : PA X (e :: es) t)
    (hdb : (x == ("__debug__" : Str)) = false := by decide) (he : starEach (e :: es) X.env = (false, eval e X.env) :: starEach es X.env := by rfl) (hpl : (backTo pos (starEach es X.env)).any (·.1) = false := by rfl) :
    PE X (.Call (.Name x p) (e :: es) [] pos) (tCall sp [] E0 t) := by
  obtain ⟨f, fd, F, hm, hk, hb⟩ := C
  exact pe_call F hr hg hm hk hb .nil pass0 ha hdb he hpl
end
end GT
namespace GT
open PySem PySem.Spec PyProof.Rows L2
section
variable {X : Cx} {x : Str} {pos : Pos}
theorem pe_gi {i : Int} (hg : Gl X x) (hm : ∃ t, X.mg x = some (.int i t)) (hd : (x == ("__debug__" : Str)) = false := by decide) : PE X (.Name x pos) (tC (.int i)) := by
  obtain ⟨t, hm⟩ := hm
  exact pe_glob hg hm ⟨t, rfl⟩ hd
theorem pe_gs {z : Str} (hg : Gl X x) (hm : ∃ t, X.mg x = some (.str z t)) (hd : (x == ("__debug__" : Str)) = false := by decide) : PE X (.Name x pos) (tC (.str z)) := by
  obtain ⟨t, hm⟩ := hm
  exact pe_glob hg hm ⟨t, rfl⟩ hd
theorem pe_gt {a : Addr} (hg : Gl X x) (hm : X.mg x = some (.ref a)) (hd : (x == ("__debug__" : Str)) = false := by decide) : PE X (.Name x pos) (tC (.ref a)) := pe_glob hg hm rfl hd
end
end GT
namespace GT
open PySem PySem.Spec PyProof.Rows L2
/-! ### parts that only reckon: their value at once -/
def Vl (te : TE) (σ : L2.St) (H : Hp) (v : V) : Prop := ∀ Q : VK, Q v H → te σ H Q
def Tl (tt : TT) (σ : L2.St) (H : Hp) (b : Bool) : Prop := ∀ Q : Bool → Hp → Prop, Q b H → tt σ H Q
section
variable {σ : L2.St} {H : Hp} {Q : VK} {QT : Bool → Hp → Prop} {v x y : V} {te ta tb tc : TE} {tt tu : TT} {a b : Bool} {i j k : Int}
theorem vl_var {n : Nat} (h : σ[n]? = some (some v)) : Vl (tVar n) σ H v := fun _ q => ⟨v, h, q⟩
theorem vl_c : Vl (tC v) σ H v := fun _ q => q
theorem vl_I0 {g : Int → Int → V} (ha : Vl ta σ H (.int i)) (hb : Vl tb σ H (.int j)) : Vl (tOp (rI0 g) ta tb) σ H (g i j) := fun _ q => ha _ (hb _ ⟨i, j, rfl, rfl, q⟩)
theorem vl_I {C : Int → Int → Prop} {g : Int → Int → V} (ha : Vl ta σ H (.int i)) (hb : Vl tb σ H (.int j)) (c : C i j) : Vl (tOp (rI C g) ta tb) σ H (g i j) := fun _ q => ha _ (hb _ ⟨i, j, rfl, rfl, c, q⟩)
theorem vl_U {g : Int → V} (ha : Vl ta σ H (.int i)) : Vl (tUn (rU g) ta) σ H (g i) := fun _ q => ha _ ⟨i, rfl, q⟩
theorem vl_eq (ha : Vl ta σ H x) (hb : Vl tb σ H y) (s : scal x y = true) : Vl (tOp rEq ta tb) σ H (.bl (decide (x = y))) := fun _ q => ha _ (hb _ ⟨s, q⟩)
theorem vl_ne (ha : Vl ta σ H x) (hb : Vl tb σ H y) (s : scal x y = true) : Vl (tOp rNe ta tb) σ H (.bl (!decide (x = y))) := fun _ q => ha _ (hb _ ⟨s, q⟩)
theorem vl_and (ha : Vl ta σ H (.bl a)) (hb : Vl tb σ H (.bl b)) : Vl (tAndV ta tb) σ H (.bl (a && b)) := fun _ q => ha _ ⟨a, rfl, by
  cases a
  · exact q
  · exact hb _ q⟩
theorem vl_or (ha : Vl ta σ H (.bl a)) (hb : Vl tb σ H (.bl b)) : Vl (tOrV ta tb) σ H (.bl (a || b)) := fun _ q => ha _ ⟨a, rfl, by
  cases a
  · exact hb _ q
  · exact q⟩
theorem vl_not (ha : Vl ta σ H (.bl a)) : Vl (tNotV ta) σ H (.bl (!a)) := fun _ q => ha _ ⟨a, rfl, q⟩
theorem vl_chain {p p' : Int → Int → Bool} (ha : Vl ta σ H (.int i)) (hb : Vl tb σ H (.int j)) (hc : Vl tc σ H (.int k)) :
    Vl (tChain (rI0 fun i j => .bl (p i j)) (rI0 fun i j => .bl (p' i j)) ta tb tc) σ H (.bl (p i j && p' j k)) := fun Q q => ha _ (hb _ ⟨i, j, rfl, rfl, _, rfl, by
  show if p i j = true then _ else _
  cases e : p i j
  · rw [e] at q; exact q
  · rw [e] at q; exact hc _ ⟨j, k, rfl, rfl, q⟩⟩)
theorem vl_ifx (ht : Tl tt σ H a) (ha : Vl ta σ H x) (hb : Vl tb σ H y) : Vl (tIf tt ta tb) σ H (if a = true then x else y) := fun Q q => ht _ (by
  cases a
  · exact hb _ q
  · exact ha _ q)
theorem tl_test (h : Vl te σ H (.bl b)) : Tl (tTest te) σ H b := fun _ q => h _ ⟨b, rfl, q⟩
theorem tl_B (h : Vl te σ H (.bl b)) : Tl (tB te) σ H b := fun _ q => h _ ⟨b, rfl, q⟩
theorem tl_and (h1 : Tl tt σ H a) (h2 : Tl tu σ H b) : Tl (tAnd tt tu) σ H (a && b) := fun _ q => h1 _ (by
  cases a
  · exact q
  · exact h2 _ q)
theorem tl_or (h1 : Tl tt σ H a) (h2 : Tl tu σ H b) : Tl (tOr tt tu) σ H (a || b) := fun _ q => h1 _ (by
  cases a
  · exact h2 _ q
  · exact q)
theorem tl_not (h1 : Tl tt σ H a) : Tl (tNot tt) σ H (!a) := fun _ q => h1 _ q
/-- a reading whose parts only reckon -/
theorem p_AndV (h : Vl (tAndV ta tb) σ H v) (q : Q v H) : tAndV ta tb σ H Q := h Q q
theorem p_OrV (h : Vl (tOrV ta tb) σ H v) (q : Q v H) : tOrV ta tb σ H Q := h Q q
theorem p_Chain {r r' : R2} (h : Vl (tChain r r' ta tb tc) σ H v) (q : Q v H) : tChain r r' ta tb tc σ H Q := h Q q
theorem p_If (h : Vl (tIf tt ta tb) σ H v) (q : Q v H) : tIf tt ta tb σ H Q := h Q q
theorem p_And (h : Tl (tAnd tt tu) σ H b) (q : QT b H) : tAnd tt tu σ H QT := h QT q
theorem p_Or (h : Tl (tOr tt tu) σ H b) (q : QT b H) : tOr tt tu σ H QT := h QT q
/-- behind a first part that does more -/
theorem j_and {c : Bool} {A : Prop} (h : Vl tb σ H (.bl b)) (e : Q (.bl false) H → A) (q : Q (.bl (c && b)) H) : if c = true then tb σ H Q else A := by
  cases c
  · exact e q
  · exact h _ q
theorem j_or {c : Bool} {A : Prop} (h : Vl tb σ H (.bl b)) (e : Q (.bl true) H → A) (q : Q (.bl (c || b)) H) : if c = true then A else tb σ H Q := by
  cases c
  · exact h _ q
  · exact e q
end
end GT

/-! ## data: None, bools, whole numbers, texts, tuples and lists of such; how they stand in a heap; == of them -/
namespace GT
open PySem PySem.Spec PyProof.Rows L2
inductive Dt where
  | non
  | bl (b : Bool)
  | num (i : Int)
  | txt (x : Str)
  | tup (ds : List Dt)
  | lst (ds : List Dt)
namespace Dt
mutual
/-- == of Python -/
def beq : Dt → Dt → Bool
  | .non, .non => true
  | .bl a, .bl b => a == b
  | .bl a, .num j => (if a then 1 else 0) == j
  | .num i, .bl b => i == (if b then 1 else 0)
  | .num a, .num b => decide (a = b)
  | .txt a, .txt b => decide (a = b)
  | .tup a, .tup b => beqAll a b
  | .lst a, .lst b => beqAll a b
  | .non, .bl _ | .non, .num _ | .non, .txt _ | .non, .tup _ | .non, .lst _ => false
  | .bl _, .non | .bl _, .txt _ | .bl _, .tup _ | .bl _, .lst _ => false
  | .num _, .non | .num _, .txt _ | .num _, .tup _ | .num _, .lst _ => false
  | .txt _, .non | .txt _, .bl _ | .txt _, .num _ | .txt _, .tup _ | .txt _, .lst _ => false
  | .tup _, .non | .tup _, .bl _ | .tup _, .num _ | .tup _, .txt _ | .tup _, .lst _ => false
  | .lst _, .non | .lst _, .bl _ | .lst _, .num _ | .lst _, .txt _ | .lst _, .tup _ => false
def beqAll : List Dt → List Dt → Bool
  | [], [] => true
  | a :: as, b :: bs => beq a b && beqAll as bs
  | [], _ :: _ => false
  | _ :: _, [] => false
end
mutual
theorem beq_self : ∀ a : Dt, beq a a = true
  | .non => rfl
  | .bl a => by simp [beq]
  | .num a => by simp [beq]
  | .txt a => by simp [beq]
  | .tup a => by rw [beq]; exact beqAll_self a
  | .lst a => by rw [beq]; exact beqAll_self a
theorem beqAll_self : ∀ a : List Dt, beqAll a a = true
  | [] => rfl
  | a :: as => by rw [beqAll, beq_self a, beqAll_self as]; rfl
end
mutual
def depth : Dt → Nat
  | .non => 0
  | .bl _ => 0
  | .num _ => 0
  | .txt _ => 0
  | .tup ks => depthAll ks + 1
  | .lst ks => depthAll ks + 1
def depthAll : List Dt → Nat
  | [] => 0
  | k :: ks => max (depth k) (depthAll ks)
end
mutual
/-- no list and no bool within -/
def flat : Dt → Bool
  | .non => true
  | .bl _ => false
  | .num _ => true
  | .txt _ => true
  | .tup ks => flatAll ks
  | .lst _ => false
def flatAll : List Dt → Bool
  | [] => true
  | k :: ks => flat k && flatAll ks
end
mutual
/-- as a key of a dict -/
def key : Dt → NestedKey
  | .non => .none
  | .bl b => .num (if b then 1 else 0)
  | .num i => .num i
  | .txt x => .text x
  | .tup ks => .tup (keys ks)
  | .lst _ => .none
def keys : List Dt → List NestedKey
  | [] => []
  | k :: ks => key k :: keys ks
end
mutual
/-- without bools: == is equality -/
def pure : Dt → Bool
  | .bl _ => false
  | .tup ks => pureAll ks
  | .lst ks => pureAll ks
  | _ => true
def pureAll : List Dt → Bool
  | [] => true
  | k :: ks => pure k && pureAll ks
end
mutual
theorem eq_of_beq : ∀ a b : Dt, pure a = true → pure b = true → beq a b = true → a = b
  | .non, .non, _, _, _ => rfl
  | .num a, .num b, _, _, h => by simp only [beq, decide_eq_true_eq] at h; rw [h]
  | .txt a, .txt b, _, _, h => by simp only [beq, decide_eq_true_eq] at h; rw [h]
  | .tup a, .tup b, pa, pb, h => by rw [beq] at h; rw [pure] at pa pb; rw [eq_of_beqAll a b pa pb h]
  | .lst a, .lst b, pa, pb, h => by rw [beq] at h; rw [pure] at pa pb; rw [eq_of_beqAll a b pa pb h]
  | .bl _, _, p, _, _ => by simp [pure] at p
  | _, .bl _, _, p, _ => by simp [pure] at p
  | .non, .num _, _, _, h | .non, .txt _, _, _, h | .non, .tup _, _, _, h | .non, .lst _, _, _, h => by simp [beq] at h
  | .num _, .non, _, _, h | .num _, .txt _, _, _, h | .num _, .tup _, _, _, h | .num _, .lst _, _, _, h => by simp [beq] at h
  | .txt _, .non, _, _, h | .txt _, .num _, _, _, h | .txt _, .tup _, _, _, h | .txt _, .lst _, _, _, h => by simp [beq] at h
  | .tup _, .non, _, _, h | .tup _, .num _, _, _, h | .tup _, .txt _, _, _, h | .tup _, .lst _, _, _, h => by simp [beq] at h
  | .lst _, .non, _, _, h | .lst _, .num _, _, _, h | .lst _, .txt _, _, _, h | .lst _, .tup _, _, _, h => by simp [beq] at h
theorem eq_of_beqAll : ∀ a b : List Dt, pureAll a = true → pureAll b = true → beqAll a b = true → a = b
  | [], [], _, _, _ => rfl
  | a :: as, b :: bs, pa, pb, h => by
    rw [beqAll, Bool.and_eq_true] at h
    rw [pureAll, Bool.and_eq_true] at pa pb
    rw [eq_of_beq a b pa.1 pb.1 h.1, eq_of_beqAll as bs pa.2 pb.2 h.2]
  | [], _ :: _, _, _, h => by simp [beqAll] at h
  | _ :: _, [], _, _, h => by simp [beqAll] at h
end
theorem beq_iff {a b : Dt} (pa : pure a = true) (pb : pure b = true) : beq a b = true ↔ a = b := ⟨eq_of_beq a b pa pb, fun e => by rw [e]; exact beq_self b⟩
end Dt
abbrev Dt.eqAt2 (xs ys : List Dt) (j : Nat) : Bool := Dt.beq (xs.getD j .non) (ys.getD j .non)
theorem Dt.beqAll_eq : ∀ xs ys : List Dt, ((List.range (min xs.length ys.length)).all (Dt.eqAt2 xs ys) && xs.length == ys.length) = Dt.beqAll xs ys
  | [], [] => rfl
  | [], _ :: _ => by simp [Dt.beqAll]
  | _ :: _, [] => by simp [Dt.beqAll]
  | x :: xs, y :: ys => by
    have ih := Dt.beqAll_eq xs ys
    have e1 : min (x :: xs).length (y :: ys).length = min xs.length ys.length + 1 := by simp only [List.length_cons]; omega
    have e2 : ((x :: xs).length == (y :: ys).length) = (xs.length == ys.length) := by simp
    have e3 : (List.range (min xs.length ys.length + 1)).all (Dt.eqAt2 (x :: xs) (y :: ys)) = (Dt.beq x y && (List.range (min xs.length ys.length)).all (Dt.eqAt2 xs ys)) := by
      rw [List.range_succ_eq_map, List.all_cons, List.all_map]
      first | rfl | simp [Dt.eqAt2, Function.comp_def]
    rw [e1, e2, e3, Dt.beqAll, ← ih, Bool.and_assoc]
theorem Dt.beqAll_other : ∀ xs ys : List Dt, xs.length ≠ ys.length → Dt.beqAll xs ys = false := fun xs ys h => by
  rw [← Dt.beqAll_eq, show (xs.length == ys.length) = false from beq_eq_false_iff_ne.mpr h, Bool.and_false]
theorem Dt.beqAll_same (xs ys : List Dt) (h : xs.length = ys.length) : (List.range xs.length).all (Dt.eqAt2 xs ys) = Dt.beqAll xs ys := by
  rw [← Dt.beqAll_eq, ← h, Nat.min_self]
  simp
/-! ### in a heap of the model -/
mutual
inductive DtIs (h : Heap) : Dt → Value → Prop
  | non : DtIs h .non .none
  | bl (b) : DtIs h (.bl b) (.bool b)
  | num (i t) : DtIs h (.num i) (.int i t)
  | txt (x t) : DtIs h (.txt x) (.str x t)
  | tup {a vs ks} : h.IsTuple a vs → DtAll h ks vs.toList → DtIs h (.tup ks) (.ref a)
  | lst {a vs ks} : h.IsList a vs → DtAll h ks vs.toList → DtIs h (.lst ks) (.ref a)
inductive DtAll (h : Heap) : List Dt → List Value → Prop
  | nil : DtAll h [] []
  | cons {k v ks vs} : DtIs h k v → DtAll h ks vs → DtAll h (k :: ks) (v :: vs)
end
theorem DtAll.length {h : Heap} : ∀ (ks : List Dt) (vs : List Value), DtAll h ks vs → vs.length = ks.length
  | [], _, r => by cases r; rfl
  | _ :: ks, _, r => by
    cases r with
    | cons _ r' => simp [DtAll.length ks _ r']
theorem ne_list_tuple {h : Heap} {a : Addr} {vs ws : Array Value} (h1 : h.IsList a vs) (h2 : h.IsTuple a ws) : False := by
  obtain ⟨o, e, c, _⟩ := h1
  obtain ⟨o', e', c', _⟩ := h2
  rw [e] at e'; cases e'
  rw [c] at c'
  injection c' with c'
  exact absurd c' (by decide)
mutual
theorem DtIs.inj {h : Heap} : ∀ (x y : Dt) (v : Value), DtIs h x v → DtIs h y v → x = y
  | .non, _, _, hx, hy => by cases hx; cases hy; rfl
  | .bl _, _, _, hx, hy => by cases hx; cases hy; rfl
  | .num i, _, _, hx, hy => by cases hx; cases hy; rfl
  | .txt x, _, _, hx, hy => by cases hx; cases hy; rfl
  | .tup ks, _, _, hx, hy => by
    cases hx with
    | tup h1 h4 =>
      cases hy with
      | tup k1 k4 =>
        obtain ⟨o, e, c, n, d⟩ := h1
        obtain ⟨o', e', c', n', d'⟩ := k1
        rw [e] at e'; cases e'
        rw [d] at d'; cases d'
        rw [DtAll.inj ks _ _ h4 k4]
      | lst k1 k4 => exact (ne_list_tuple k1 h1).elim
  | .lst ks, _, _, hx, hy => by
    cases hx with
    | lst h1 h4 =>
      cases hy with
      | lst k1 k4 =>
        obtain ⟨o, e, c, n, d⟩ := h1
        obtain ⟨o', e', c', n', d'⟩ := k1
        rw [e] at e'; cases e'
        rw [d] at d'; cases d'
        rw [DtAll.inj ks _ _ h4 k4]
      | tup k1 k4 => exact (ne_list_tuple h1 k1).elim
theorem DtAll.inj {h : Heap} : ∀ (xs ys : List Dt) (vs : List Value), DtAll h xs vs → DtAll h ys vs → xs = ys
  | [], _, _, hx, hy => by cases hx; cases hy; rfl
  | x :: xs, _, _, hx, hy => by
    cases hx with
    | cons h1 h2 =>
      cases hy with
      | cons k1 k2 => rw [DtIs.inj x _ _ h1 k1, DtAll.inj xs _ _ h2 k2]
end
section
open SeqAt
theorem dt_here {n a b : Nat} (h : n + min (a + 1) (b + 1) < cLine) : n < cLine := by omega
theorem dt_in {A : Around} {a b : Nat} (h : A.units + min (a + 1) (b + 1) < cLine) : A.in1.units + min a b < cLine := by rw [Around.in1_units]; omega
mutual
theorem eqAt_dt : ∀ (x y : Dt) (A : Around) (s : Shared) (a b : Value), DtIs s.heap x a → DtIs s.heap y b → A.units + 1 + min x.depth y.depth < cLine → EqAt A s a b (Dt.beq x y)
  | .non, _, A, s, _, _, ra, rb, hu => by
    cases ra
    cases rb with
    | non => exact EqAt.same _
    | bl y => exact EqAt.none_bool _
    | num y u => exact EqAt.none_int y u
    | txt y u => exact EqAt.none_str y u
    | tup k1 k4 => exact EqAt.none_tuple k1 (by omega)
    | lst k1 k4 => exact EqAt.none_list k1 (by omega)
  | .bl x, _, A, s, _, _, ra, rb, hu => by
    cases ra
    cases rb with
    | non => exact EqAt.bool_none x
    | bl y => exact (EqAt.bool_bool x y).cast rfl
    | num y u => exact (EqAt.bool_int x y u).cast rfl
    | txt y u => exact EqAt.bool_str x y u
    | tup k1 k4 => exact EqAt.bool_tuple x k1 (by omega)
    | lst k1 k4 => exact EqAt.bool_list x k1 (by omega)
  | .num i, _, A, s, _, _, ra, rb, hu => by
    cases ra with
    | num _ t =>
      cases rb with
      | non => exact EqAt.int_none i t
      | bl y => exact (EqAt.int_bool i t y).cast rfl
      | num y u => exact (EqAt.int_int i t y u).cast rfl
      | txt y u => exact EqAt.int_str i t y u
      | tup k1 k4 => exact EqAt.int_tuple i t k1 (by omega)
      | lst k1 k4 => exact EqAt.int_list i t k1 (by omega)
  | .txt x, _, A, s, _, _, ra, rb, hu => by
    cases ra with
    | txt _ t =>
      cases rb with
      | non => exact EqAt.str_none x t
      | bl y => exact EqAt.str_bool x t y
      | num y u => exact EqAt.str_int x t y u
      | txt y u => exact (EqAt.str_str x t y u).cast rfl
      | tup k1 k4 => exact EqAt.str_tuple x t k1 (by omega)
      | lst k1 k4 => exact EqAt.str_list x t k1 (by omega)
  | .tup xs, _, A, s, _, _, ra, rb, hu => by
    cases ra with
    | @tup l vs _ hl h4 =>
      cases rb with
      | non => exact EqAt.tuple_none hl (by omega)
      | bl y => exact EqAt.tuple_bool y hl (by omega)
      | num y u => exact EqAt.tuple_int y u hl (by omega)
      | txt y u => exact EqAt.tuple_str y u hl (by omega)
      | lst k1 k4 => exact EqAt.tuple_list hl k1 (by omega)
      | @tup l' vs' ys hl' k4 =>
        by_cases hll : l = l'
        · subst hll
          obtain ⟨o, e, c, n, d⟩ := hl
          obtain ⟨o', e', c', n', d'⟩ := hl'
          rw [e] at e'; cases e'
          rw [d] at d'; cases d'
          rw [← DtAll.inj xs ys _ h4 k4, Dt.beq, Dt.beqAll_self]
          exact EqAt.same _
        · have n1 : vs.size = xs.length := by simpa using DtAll.length _ _ h4
          have n2 : vs'.size = ys.length := by simpa using DtAll.length _ _ k4
          show EqAt A s (.ref l) (.ref l') (Dt.beqAll xs ys)
          rw [← Dt.beqAll_eq xs ys, ← n1, ← n2]
          refine EqAt.of_refs hll (RcAt.tuples hl hl' (by omega) fun j j1 j2 => ?_)
          have := eqAt_dts xs ys A.in1 s vs.toList vs'.toList h4 k4 (by simp only [Dt.depth] at hu; rw [Around.in1_units]; omega) j (by simpa using j1) (by simpa using j2)
          simpa using this
  | .lst xs, _, A, s, _, _, ra, rb, hu => by
    cases ra with
    | @lst l vs _ hl h4 =>
      cases rb with
      | non => exact EqAt.list_none hl (by omega)
      | bl y => exact EqAt.list_bool y hl (by omega)
      | num y u => exact EqAt.list_int y u hl (by omega)
      | txt y u => exact EqAt.list_str y u hl (by omega)
      | tup k1 k4 => exact EqAt.list_tuple hl k1 (by omega)
      | @lst l' vs' ys hl' k4 =>
        by_cases hll : l = l'
        · subst hll
          obtain ⟨o, e, c, n, d⟩ := hl
          obtain ⟨o', e', c', n', d'⟩ := hl'
          rw [e] at e'; cases e'
          rw [d] at d'; cases d'
          rw [← DtAll.inj xs ys _ h4 k4, Dt.beq, Dt.beqAll_self]
          exact EqAt.same _
        · have n1 : vs.size = xs.length := by simpa using DtAll.length _ _ h4
          have n2 : vs'.size = ys.length := by simpa using DtAll.length _ _ k4
          show EqAt A s (.ref l) (.ref l') (Dt.beqAll xs ys)
          by_cases hsz : vs.size = vs'.size
          · rw [← Dt.beqAll_same xs ys (by omega), ← n1]
            refine EqAt.of_refs hll (RcAt.lists hl hl' hsz (by omega) fun j j1 j2 => ?_)
            have := eqAt_dts xs ys A.in1 s vs.toList vs'.toList h4 k4 (by simp only [Dt.depth] at hu; rw [Around.in1_units]; omega) j (by simpa using j1) (by simpa using j2)
            simpa using this
          · rw [Dt.beqAll_other xs ys (by omega)]
            exact EqAt.of_refs hll (RcAt.lists_lengths hl hl' (by simpa using hsz) (by omega))
theorem eqAt_dts : ∀ (xs ys : List Dt) (A : Around) (s : Shared) (vs ws : List Value), DtAll s.heap xs vs → DtAll s.heap ys ws →
    A.units + 1 + min (Dt.depthAll xs) (Dt.depthAll ys) < cLine → ∀ j (h1 : j < vs.length) (h2 : j < ws.length), EqAt A s vs[j] ws[j] (Dt.eqAt2 xs ys j)
  | [], _, _, _, _, _, ra, _, _, j, h1, _ => by cases ra; exact absurd h1 (Nat.not_lt_zero _)
  | _ :: _, [], _, _, _, _, _, rb, _, j, _, h2 => by cases rb; exact absurd h2 (Nat.not_lt_zero _)
  | x :: xs, y :: ys, A, s, _, _, ra, rb, hu, j, h1, h2 => by
    cases ra with
    | cons r rs =>
      cases rb with
      | cons r' rs' =>
        simp only [Dt.depthAll] at hu
        cases j with
        | zero => exact eqAt_dt x y A s _ _ r r' (by omega)
        | succ j => exact eqAt_dts xs ys A s _ _ rs rs' (by omega) j (Nat.lt_of_succ_lt_succ h1) (Nat.lt_of_succ_lt_succ h2)
end
end
end GT

namespace GT
open PySem PySem.Spec PyProof.Rows L2
section
open SeqAt
theorem rcAt_dt {x y : Dt} {A : Around} {s : Shared} {a b : Value} (ra : DtIs s.heap x a) (rb : DtIs s.heap y b) (hu : A.units + 1 + min x.depth y.depth < cLine) : RcAt A s a b (Dt.beq x y) := by
  cases ra with
  | non =>
    cases rb with
    | non => exact RcAt.none_none
    | bl y => exact RcAt.none_bool y
    | num y u => exact RcAt.none_int y u
    | txt y u => exact RcAt.none_str y u
    | tup k1 k4 => exact RcAt.none_tuple k1 (by omega)
    | lst k1 k4 => exact RcAt.none_list k1 (by omega)
  | bl x =>
    cases rb with
    | non => exact RcAt.bool_none x
    | bl y => exact RcAt.bool_bool x y
    | num y u => exact RcAt.bool_int x y u
    | txt y u => exact RcAt.bool_str x y u
    | tup k1 k4 => exact RcAt.bool_tuple x k1 (by omega)
    | lst k1 k4 => exact RcAt.bool_list x k1 (by omega)
  | num x t =>
    cases rb with
    | non => exact RcAt.int_none x t
    | bl y => exact RcAt.int_bool x t y
    | num y u => exact RcAt.int_int x t y u
    | txt y u => exact RcAt.int_str x t y u
    | tup k1 k4 => exact RcAt.int_tuple x t k1 (by omega)
    | lst k1 k4 => exact RcAt.int_list x t k1 (by omega)
  | txt x t =>
    cases rb with
    | non => exact RcAt.str_none x t
    | bl y => exact RcAt.str_bool x t y
    | num y u => exact RcAt.str_int x t y u
    | txt y u => exact RcAt.str_str x t y u
    | tup k1 k4 => exact RcAt.str_tuple x t k1 (by omega)
    | lst k1 k4 => exact RcAt.str_list x t k1 (by omega)
  | @tup l vs xs hl h4 =>
    cases rb with
    | non => exact RcAt.tuple_none hl (by omega)
    | bl y => exact RcAt.tuple_bool y hl (by omega)
    | num y u => exact RcAt.tuple_int y u hl (by omega)
    | txt y u => exact RcAt.tuple_str y u hl (by omega)
    | lst k1 k4 => exact RcAt.tuple_list hl k1 (by omega)
    | @tup l' vs' ys hl' k4 =>
      have n1 : vs.size = xs.length := by simpa using DtAll.length _ _ h4
      have n2 : vs'.size = ys.length := by simpa using DtAll.length _ _ k4
      show RcAt A s (.ref l) (.ref l') (Dt.beqAll xs ys)
      rw [← Dt.beqAll_eq xs ys, ← n1, ← n2]
      refine RcAt.tuples hl hl' (by omega) fun j j1 j2 => ?_
      have := eqAt_dts xs ys A.in1 s vs.toList vs'.toList h4 k4 (by simp only [Dt.depth] at hu; rw [Around.in1_units]; omega) j (by simpa using j1) (by simpa using j2)
      simpa using this
  | @lst l vs xs hl h4 =>
    cases rb with
    | non => exact RcAt.list_none hl (by omega)
    | bl y => exact RcAt.list_bool y hl (by omega)
    | num y u => exact RcAt.list_int y u hl (by omega)
    | txt y u => exact RcAt.list_str y u hl (by omega)
    | tup k1 k4 => exact RcAt.list_tuple hl k1 (by omega)
    | @lst l' vs' ys hl' k4 =>
      have n1 : vs.size = xs.length := by simpa using DtAll.length _ _ h4
      have n2 : vs'.size = ys.length := by simpa using DtAll.length _ _ k4
      show RcAt A s (.ref l) (.ref l') (Dt.beqAll xs ys)
      by_cases hsz : vs.size = vs'.size
      · rw [← Dt.beqAll_same xs ys (by omega), ← n1]
        refine RcAt.lists hl hl' hsz (by omega) fun j j1 j2 => ?_
        have := eqAt_dts xs ys A.in1 s vs.toList vs'.toList h4 k4 (by simp only [Dt.depth] at hu; rw [Around.in1_units]; omega) j (by simpa using j1) (by simpa using j2)
        simpa using this
      · rw [Dt.beqAll_other xs ys (by omega)]
        exact RcAt.lists_lengths hl hl' (by simpa using hsz) (by omega)
theorem rcNeAt_dt {x y : Dt} {A : Around} {s : Shared} {a b : Value} (ra : DtIs s.heap x a) (rb : DtIs s.heap y b) (hu : A.units + 1 + min x.depth y.depth < cLine) : RcNeAt A s a b (!Dt.beq x y) := by
  cases ra with
  | non =>
    cases rb with
    | non => exact RcNeAt.none_none
    | bl y => exact RcNeAt.none_bool y
    | num y u => exact RcNeAt.none_int y u
    | txt y u => exact RcNeAt.none_str y u
    | tup k1 k4 => exact RcNeAt.none_tuple k1 (by omega)
    | lst k1 k4 => exact RcNeAt.none_list k1 (by omega)
  | bl x =>
    cases rb with
    | non => exact RcNeAt.bool_none x
    | bl y => exact RcNeAt.bool_bool x y
    | num y u => exact RcNeAt.bool_int x y u
    | txt y u => exact RcNeAt.bool_str x y u
    | tup k1 k4 => exact RcNeAt.bool_tuple x k1 (by omega)
    | lst k1 k4 => exact RcNeAt.bool_list x k1 (by omega)
  | num x t =>
    cases rb with
    | non => exact RcNeAt.int_none x t
    | bl y => exact RcNeAt.int_bool x t y
    | num y u => exact RcNeAt.int_int x t y u
    | txt y u => exact RcNeAt.int_str x t y u
    | tup k1 k4 => exact RcNeAt.int_tuple x t k1 (by omega)
    | lst k1 k4 => exact RcNeAt.int_list x t k1 (by omega)
  | txt x t =>
    cases rb with
    | non => exact RcNeAt.str_none x t
    | bl y => exact RcNeAt.str_bool x t y
    | num y u => exact RcNeAt.str_int x t y u
    | txt y u => exact RcNeAt.str_str x t y u
    | tup k1 k4 => exact RcNeAt.str_tuple x t k1 (by omega)
    | lst k1 k4 => exact RcNeAt.str_list x t k1 (by omega)
  | @tup l vs xs hl h4 =>
    cases rb with
    | non => exact RcNeAt.tuple_none hl (by omega)
    | bl y => exact RcNeAt.tuple_bool y hl (by omega)
    | num y u => exact RcNeAt.tuple_int y u hl (by omega)
    | txt y u => exact RcNeAt.tuple_str y u hl (by omega)
    | lst k1 k4 => exact RcNeAt.tuple_list hl k1 (by omega)
    | @tup l' vs' ys hl' k4 =>
      have n1 : vs.size = xs.length := by simpa using DtAll.length _ _ h4
      have n2 : vs'.size = ys.length := by simpa using DtAll.length _ _ k4
      show RcNeAt A s (.ref l) (.ref l') (!Dt.beqAll xs ys)
      rw [← Dt.beqAll_eq xs ys, ← n1, ← n2]
      refine RcNeAt.tuples hl hl' (by omega) fun j j1 j2 => ?_
      have := eqAt_dts xs ys A.in1 s vs.toList vs'.toList h4 k4 (by simp only [Dt.depth] at hu; rw [Around.in1_units]; omega) j (by simpa using j1) (by simpa using j2)
      simpa using this
  | @lst l vs xs hl h4 =>
    cases rb with
    | non => exact RcNeAt.list_none hl (by omega)
    | bl y => exact RcNeAt.list_bool y hl (by omega)
    | num y u => exact RcNeAt.list_int y u hl (by omega)
    | txt y u => exact RcNeAt.list_str y u hl (by omega)
    | tup k1 k4 => exact RcNeAt.list_tuple hl k1 (by omega)
    | @lst l' vs' ys hl' k4 =>
      have n1 : vs.size = xs.length := by simpa using DtAll.length _ _ h4
      have n2 : vs'.size = ys.length := by simpa using DtAll.length _ _ k4
      show RcNeAt A s (.ref l) (.ref l') (!Dt.beqAll xs ys)
      by_cases hsz : vs.size = vs'.size
      · rw [← Dt.beqAll_same xs ys (by omega), ← n1]
        refine RcNeAt.lists hl hl' hsz (by omega) fun j j1 j2 => ?_
        have := eqAt_dts xs ys A.in1 s vs.toList vs'.toList h4 k4 (by simp only [Dt.depth] at hu; rw [Around.in1_units]; omega) j (by simpa using j1) (by simpa using j2)
        simpa using this
      · rw [Dt.beqAll_other xs ys (by omega)]
        exact RcNeAt.lists_lengths hl hl' (by simpa using hsz) (by omega)
end
/-! ### in the abstract heap -/
/-- a tuple that never changes: tracked, or of the written part -/
def TupAt (K : PySem.W.Frag) (H : Hp) (a : Addr) (xs : List V) : Prop :=
  H a = some (.tup xs) ∨ ∃ (o : Obj) (its : Array Value) (n : Nat), K.lookup a = some o ∧ o.cls = .type "tuple" ∧ o.data = .seq its n ∧ its.size ≤ sizeLine ∧ Vals xs its.toList
mutual
inductive DtAt (K : PySem.W.Frag) (H : Hp) : V → Dt → Prop
  | non : DtAt K H .non .non
  | bl (b : Bool) : DtAt K H (.bl b) (.bl b)
  | num (i : Int) : DtAt K H (.int i) (.num i)
  | txt (x : Str) : DtAt K H (.str x) (.txt x)
  | tup {a : Addr} {xs : List V} {ds : List Dt} : TupAt K H a xs → DtsAt K H xs ds → DtAt K H (.ref a) (.tup ds)
  | lst {a : Addr} {xs : List V} {ds : List Dt} : SqL K H a xs → DtsAt K H xs ds → DtAt K H (.ref a) (.lst ds)
inductive DtsAt (K : PySem.W.Frag) (H : Hp) : List V → List Dt → Prop
  | nil : DtsAt K H [] []
  | cons {v : V} {vs : List V} {d : Dt} {ds : List Dt} : DtAt K H v d → DtsAt K H vs ds → DtsAt K H (v :: vs) (d :: ds)
end
section
variable {K : PySem.W.Frag} {H H1 : Hp} {M : List Addr}
theorem TupAt.stp {a : Addr} {xs : List V} (h : TupAt K H a xs) (s : Stp M H H1) : TupAt K H1 a xs := by
  rcases h with h | h
  · exact .inl (s.tups _ _ h)
  · exact .inr h
theorem TupAt.sqt {a : Addr} {xs : List V} (h : TupAt K H a xs) : SqT K H a xs := by
  rcases h with h | h
  · exact .inl (.inl h)
  · exact .inr h
mutual
/-- data without lists stay whatever is changed -/
theorem DtAt.stp (s : Stp M H H1) : ∀ (d : Dt) (v : V), d.flat = true → DtAt K H v d → DtAt K H1 v d
  | .non, _, _, h => by cases h; exact .non
  | .bl _, _, f, h => by simp [Dt.flat] at f
  | .num _, _, _, h => by cases h; exact .num _
  | .txt _, _, _, h => by cases h; exact .txt _
  | .tup ds, _, f, h => by
    cases h with
    | tup h1 h2 => exact .tup (h1.stp s) (DtsAt.stp s ds _ (by simpa [Dt.flat] using f) h2)
  | .lst _, _, f, _ => by simp [Dt.flat] at f
theorem DtsAt.stp (s : Stp M H H1) : ∀ (ds : List Dt) (vs : List V), Dt.flatAll ds = true → DtsAt K H vs ds → DtsAt K H1 vs ds
  | [], _, _, h => by cases h; exact .nil
  | d :: ds, _, f, h => by
    cases h with
    | cons h1 h2 =>
      simp only [Dt.flatAll, Bool.and_eq_true] at f
      exact .cons (DtAt.stp s d _ f.1 h1) (DtsAt.stp s ds _ f.2 h2)
end
theorem DtsAt.length : ∀ {vs : List V} {ds : List Dt}, DtsAt K H vs ds → vs.length = ds.length
  | _, _, .nil => rfl
  | _, _, .cons _ t => by simp [DtsAt.length t]
theorem DtsAt.get : ∀ {vs : List V} {ds : List Dt} {i : Nat} {d : Dt}, DtsAt K H vs ds → ds[i]? = some d → ∃ v, vs[i]? = some v ∧ DtAt K H v d
  | _, _, _, _, .nil, e => by simp at e
  | _, _, 0, _, .cons r _, e => by simp at e; subst e; exact ⟨_, rfl, r⟩
  | _, _, i + 1, d, .cons _ t, e => by
    obtain ⟨v, h1, h2⟩ := DtsAt.get (i := i) (d := d) t (by simpa using e)
    exact ⟨v, by simpa using h1, h2⟩
theorem DtsAt.getV : ∀ {vs : List V} {ds : List Dt} {i : Nat} {v : V}, DtsAt K H vs ds → vs[i]? = some v → ∃ d, ds[i]? = some d ∧ DtAt K H v d
  | _, _, _, _, .nil, e => by simp at e
  | _, _, 0, _, .cons r _, e => by simp at e; subst e; exact ⟨_, rfl, r⟩
  | _, _, i + 1, v, .cons _ t, e => by
    obtain ⟨d, h1, h2⟩ := DtsAt.getV (i := i) (v := v) t (by simpa using e)
    exact ⟨d, by simpa using h1, h2⟩
theorem DtsAt.append : ∀ {vs ws : List V} {ds es : List Dt}, DtsAt K H vs ds → DtsAt K H ws es → DtsAt K H (vs ++ ws) (ds ++ es)
  | _, _, _, _, .nil, s => s
  | _, _, _, _, .cons r t, s => .cons r (DtsAt.append t s)
theorem DtsAt.snoc {vs : List V} {ds : List Dt} {v : V} {d : Dt} (r : DtsAt K H vs ds) (h : DtAt K H v d) : DtsAt K H (vs ++ [v]) (ds ++ [d]) := r.append (.cons h .nil)
end
section
variable {X : Cx} {pins : List (Addr × Obj)} {σ : L2.St} {H : Hp} {s : Shared}
mutual
theorem DtAt.is (I : Inv X pins σ H s) : ∀ (d : Dt) (v : V) (u : Value), DtAt X.K H v d → RelV v u → DtIs s.heap d u
  | .non, _, _, h, r => by cases h; cases r; exact .non
  | .bl b, _, _, h, r => by cases h; cases r; exact .bl b
  | .num i, _, _, h, r => by cases h; obtain ⟨t, rfl⟩ := r; exact .num i t
  | .txt x, _, _, h, r => by cases h; obtain ⟨t, rfl⟩ := r; exact .txt x t
  | .tup ds, _, _, h, r => by
    cases h with
    | tup h1 h2 =>
      cases r
      obtain ⟨its, rv, ht, _⟩ := I.tuple h1.sqt
      exact .tup ht (by simpa using DtsAt.is I ds _ its h2 rv)
  | .lst ds, _, _, h, r => by
    cases h with
    | lst h1 h2 =>
      cases r
      obtain ⟨its, rv, ht, _⟩ := I.list h1
      exact .lst ht.isList (by simpa using DtsAt.is I ds _ its h2 rv)
theorem DtsAt.is (I : Inv X pins σ H s) : ∀ (ds : List Dt) (vs : List V) (us : List Value), DtsAt X.K H vs ds → Vals vs us → DtAll s.heap ds us
  | [], _, _, h, r => by cases h; cases r; exact .nil
  | d :: ds, _, _, h, r => by
    cases h with
    | cons h1 h2 =>
      cases r with
      | cons r1 r2 => exact .cons (DtAt.is I d _ _ h1 r1) (DtsAt.is I ds _ _ h2 r2)
end
end
section
variable {X : Cx}
def rEqT (K : PySem.W.Frag) : R2 := fun x y H Q => ∃ d e, DtAt K H x d ∧ DtAt K H y e ∧ d.depth ≤ 60 ∧ e.depth ≤ 60 ∧ Q (.bl (Dt.beq d e)) H
def rNeT (K : PySem.W.Frag) : R2 := fun x y H Q => ∃ d e, DtAt K H x d ∧ DtAt K H y e ∧ d.depth ≤ 60 ∧ e.depth ≤ 60 ∧ Q (.bl (!Dt.beq d e)) H
theorem op_eqT (hu : X.A.units + 64 < cLine) : OpR X (compareOp .Eq) (rEqT X.K) := by
  intro pins s σ H x y v u Q I rx ry h
  obtain ⟨d, e, hd, he, sd, se, q⟩ := h
  exact rcAt_dt (DtAt.is I d x v hd rx) (DtAt.is I e y u he ry) (by omega) _ _ _ _ ⟨.bl _, H, I, rfl, q⟩
theorem op_neT (hu : X.A.units + 64 < cLine) : OpR X (compareOp .NotEq) (rNeT X.K) := by
  intro pins s σ H x y v u Q I rx ry h
  obtain ⟨d, e, hd, he, sd, se, q⟩ := h
  exact rcNeAt_dt (DtAt.is I d x v hd rx) (DtAt.is I e y u he ry) (by omega) _ _ _ _ ⟨.bl _, H, I, rfl, q⟩
open Classical in
/-- a value's datum -/
noncomputable def datOf (h : Heap) (v : Value) : Dt := if e : ∃ d, DtIs h d v then e.choose else .non
theorem datOf_eq {h : Heap} {v : Value} {d : Dt} (r : DtIs h d v) : datOf h v = d := by
  unfold datOf
  have e : ∃ d, DtIs h d v := ⟨d, r⟩
  rw [dif_pos e]
  exact DtIs.inj _ _ v e.choose_spec r
theorem DtAll.mem {h : Heap} : ∀ {ds : List Dt} {vs : List Value} {v : Value}, DtAll h ds vs → v ∈ vs → ∃ d ∈ ds, DtIs h d v
  | _, _, _, .nil, e => nomatch e
  | _, _, _, .cons r t, e => by
    rcases List.mem_cons.mp e with e | e
    · subst e; exact ⟨_, List.mem_cons_self, r⟩
    · obtain ⟨d, h1, h2⟩ := DtAll.mem t e
      exact ⟨d, List.mem_cons_of_mem _ h1, h2⟩
theorem Dt.depth_mem : ∀ {ds : List Dt} {d : Dt}, d ∈ ds → d.depth ≤ Dt.depthAll ds
  | _ :: _, _, e => by
    rcases List.mem_cons.mp e with e | e
    · subst e; simp only [Dt.depthAll]; omega
    · have := Dt.depth_mem e; simp only [Dt.depthAll]; omega
def rInT (K : PySem.W.Frag) : R2 := fun x y H Q => ∃ d ds, DtAt K H x d ∧ DtAt K H y (.lst ds) ∧ d.depth ≤ 60 ∧ Dt.depthAll ds ≤ 60 ∧ Q (.bl (ds.any fun z => Dt.beq z d)) H
def rNotInT (K : PySem.W.Frag) : R2 := fun x y H Q => ∃ d ds, DtAt K H x d ∧ DtAt K H y (.lst ds) ∧ d.depth ≤ 60 ∧ Dt.depthAll ds ≤ 60 ∧ Q (.bl (!ds.any fun z => Dt.beq z d)) H
theorem any_items {h : Heap} {e : Dt} {ds : List Dt} {vs : Array Value} (r : DtAll h ds vs.toList) : (vs.any fun v => Dt.beq (datOf h v) e) = ds.any fun d => Dt.beq d e := by
  rw [← Array.any_toList]
  generalize hl : vs.toList = l at r
  clear hl
  induction l generalizing ds with
  | nil => cases r; rfl
  | cons v l ih =>
    cases r with
    | cons r1 r2 => rw [List.any_cons, List.any_cons, datOf_eq r1, ih r2]
theorem op_inT (hu : X.A.units + 64 < cLine) : OpR X (compareOp .In) (rInT X.K) := by
  intro pins s σ H x y v u Q I rx ry h
  obtain ⟨d, ds, hd, he, sd, se, q⟩ := h
  have r1 := DtAt.is I d x v hd rx
  have r2 := DtAt.is I (.lst ds) y u he ry
  cases r2 with
  | @lst a vs _ h1 h4 =>
    refine SeqAt.in_listAt (fun w => Dt.beq (datOf s.heap w) d) h1 (fun w hw => ?_) ?_
    · obtain ⟨c, hc, rc⟩ := DtAll.mem h4 (Array.mem_def.mp hw)
      rw [datOf_eq rc]
      have hc2 := Dt.depth_mem hc
      exact eqAt_dt c d X.A.in1 s _ _ rc r1 (by rw [Around.in1_units]; omega)
    · rw [any_items h4]
      exact ⟨.bl _, H, I, rfl, q⟩
theorem op_notInT (hu : X.A.units + 64 < cLine) : OpR X (compareOp .NotIn) (rNotInT X.K) := by
  intro pins s σ H x y v u Q I rx ry h
  obtain ⟨d, ds, hd, he, sd, se, q⟩ := h
  have r1 := DtAt.is I d x v hd rx
  have r2 := DtAt.is I (.lst ds) y u he ry
  cases r2 with
  | @lst a vs _ h1 h4 =>
    refine SeqAt.notIn_listAt (fun w => Dt.beq (datOf s.heap w) d) h1 (fun w hw => ?_) ?_
    · obtain ⟨c, hc, rc⟩ := DtAll.mem h4 (Array.mem_def.mp hw)
      rw [datOf_eq rc]
      have hc2 := Dt.depth_mem hc
      exact eqAt_dt c d X.A.in1 s _ _ rc r1 (by rw [Around.in1_units]; omega)
    · rw [any_items h4]
      exact ⟨.bl _, H, I, rfl, q⟩
end
end GT
namespace GT
open PySem PySem.Spec PyProof.Rows L2
/-! ### isinstance of data -/
def Dt.ty : Dt → String
  | .non => "NoneType"
  | .bl _ => "bool"
  | .num _ => "int"
  | .txt _ => "str"
  | .tup _ => "tuple"
  | .lst _ => "list"
theorem tyx_dt {K : PySem.W.Frag} {H : Hp} {v : V} {d : Dt} (h : DtAt K H v d) : TyX K H v (.type d.ty) := by
  cases h with
  | non => exact .base .non
  | bl b => exact .base (.bl b)
  | num i => exact .base (.int i)
  | txt x => exact .base (.str x)
  | tup h1 h2 =>
    rcases h1 with h1 | ⟨o, its, n, e, c, _⟩
    · exact .base (.tup h1)
    · exact .kTuple e c
  | lst h1 h2 =>
    rcases h1 with (h1 | ⟨o, h1⟩) | ⟨o, its, n, e, c, _⟩
    · exact .base (.lst h1)
    · exact .base (.frz h1)
    · exact .kList e c
theorem i_Isi {K : PySem.W.Frag} {H : Hp} {Q : VK} {v : V} {n : String} {d : Dt} (T : String) (b : Bool) (h : DtAt K H v d) (q : Q (.bl b) H) (hT : d.ty = T := by rfl) (e : kitB T n = some b := by decide +kernel) : rIsi K [v, .ty n] H Q :=
  ⟨v, .ty n, _, _, b, rfl, .ty n, tyx_dt h, kit_ty (by rw [hT]; exact e), q⟩
theorem i_EqT {K : PySem.W.Frag} {H : Hp} {Q : VK} {x y : V} {d e : Dt} (hd : DtAt K H x d) (he : DtAt K H y e) (q : Q (.bl (Dt.beq d e)) H) (h1 : d.depth ≤ 60 := by first | decide | (simp [Dt.depth, Dt.depthAll]; done) | omega) (h2 : e.depth ≤ 60 := by first | decide | (simp [Dt.depth, Dt.depthAll]; done) | omega) : rEqT K x y H Q := ⟨d, e, hd, he, h1, h2, q⟩
theorem i_NeT {K : PySem.W.Frag} {H : Hp} {Q : VK} {x y : V} {d e : Dt} (hd : DtAt K H x d) (he : DtAt K H y e) (q : Q (.bl (!Dt.beq d e)) H) (h1 : d.depth ≤ 60 := by first | decide | (simp [Dt.depth, Dt.depthAll]; done) | omega) (h2 : e.depth ≤ 60 := by first | decide | (simp [Dt.depth, Dt.depthAll]; done) | omega) : rNeT K x y H Q := ⟨d, e, hd, he, h1, h2, q⟩
end GT

namespace GT
open PySem PySem.Spec PyProof.Rows L2
local macro_rules | `(tactic| walk_at "p") => `(tactic| first
  | (with_reducible apply vl_var; with_unfolding_all rfl)
  | with_reducible exact vl_c
  | ((with_reducible apply vl_I0); (· walk_at "p"); (· walk_at "p"))
  | ((with_reducible apply vl_U); (· walk_at "p"))
  | ((with_reducible apply vl_chain); (· walk_at "p"); (· walk_at "p"); (· walk_at "p"))
  | ((with_reducible apply vl_and); (· walk_at "p"); (· walk_at "p"))
  | ((with_reducible apply vl_or); (· walk_at "p"); (· walk_at "p"))
  | ((with_reducible apply vl_not); (· walk_at "p"))
  | ((with_reducible apply vl_eq); (· walk_at "p"); (· walk_at "p"); (· with_unfolding_all rfl))
  | ((with_reducible apply vl_ne); (· walk_at "p"); (· walk_at "p"); (· with_unfolding_all rfl))
  | ((with_reducible apply tl_test); (· walk_at "p"))
  | ((with_reducible apply tl_B); (· walk_at "p"))
  | ((with_reducible apply tl_and); (· walk_at "p"); (· walk_at "p"))
  | ((with_reducible apply tl_or); (· walk_at "p"); (· walk_at "p"))
  | ((with_reducible apply tl_not); (· walk_at "p")))
local macro_rules | `(tactic| walk_at "g") => `(tactic| first
  | ((with_reducible apply p_AndV); (· walk_at "p"))
  | ((with_reducible apply p_OrV); (· walk_at "p"))
  | ((with_reducible apply p_Chain); (· walk_at "p"))
  | ((with_reducible apply p_And); (· walk_at "p"))
  | ((with_reducible apply p_Or); (· walk_at "p"))
  | ((with_reducible apply j_and); (· walk_at "p"); (· exact fun z => z))
  | ((with_reducible apply j_or); (· walk_at "p"); (· exact fun z => z))
  | (with_reducible apply i_var; with_unfolding_all rfl)
  | with_reducible refine i_C ?_
  | with_reducible refine i_Op ?_
  | with_reducible refine i_Yes ?_
  | with_reducible refine i_Un ?_
  | with_reducible refine i_I0 ?_
  | (with_reducible refine i_I ?hc ?_; (case hc => first | (show (0 : Int) < _; decide) | exact .inl ⟨by decide, by decide⟩ | exact ⟨by decide, by decide⟩ | exact ⟨by decide, by decide, by decide⟩ | (show (0 : Int) < _; omega) | exact .inl ⟨by omega, by omega⟩ | exact .inr ⟨by decide, by decide⟩))
  | with_reducible refine i_U ?_
  | with_reducible refine i_Test ?_
  | with_reducible refine i_B ?_
  | with_reducible refine i_bl ?_
  | with_reducible refine i_And ?_
  | with_reducible refine i_Or ?_
  | with_reducible refine i_Not ?_
  | with_reducible refine i_Nil ?_
  | with_reducible refine i_Cons ?_
  | with_reducible refine i_Seq ?_
  | with_reducible refine i_Asg ?_
  | with_reducible refine i_Name ?_
  | with_reducible refine i_Ret ?_
  | with_reducible refine i_IfS ?_
  | with_reducible refine i_Drop ?_
  | with_reducible refine i_Next ?_
  | with_reducible refine i_If ?_
  | with_reducible refine i_Call ?_
  | with_reducible refine i_CB ?_
  | with_reducible refine i_Chain ?_
  | with_reducible refine i_AndV ?_
  | with_reducible refine i_OrV ?_
  | with_reducible refine i_NotV ?_
  | with_reducible refine i_blV ?_
  | with_reducible refine i_Tup ?_
  | with_reducible refine i_Lst ?_
  | with_reducible refine i_Par ?_
  | with_reducible refine i_Sl ?_
  | with_reducible refine i_NoPart ?_
  | with_reducible refine i_Part ?_
  | with_reducible refine i_intV ?_
  | with_reducible refine i_BM ?_
  | with_reducible refine i_BM0 ?_
  | with_reducible refine i_gNil ?_
  | with_reducible refine i_gCons ?_
  | (with_reducible apply i_Aug; with_unfolding_all rfl)
  | (with_reducible refine i_Eq ?hv ?_; (case hv => with_unfolding_all rfl))
  | (with_reducible refine i_Ne ?hv ?_; (case hv => with_unfolding_all rfl)))

/-! ### the text -/
def topS (i : Nat) : Stmt := PySem.Challenge.pw_graphtwins_k00_names_fields_and_values.main.body.getD i (.Pass ⟨0, 0, 0, 0⟩)
abbrev s_is_peer : Stmt := topS 8
theorem sc_is_peer : FnScope ["number"] ["number"] (defScope s_is_peer) := ⟨rfl, rfl, rfl, by decide +kernel, rfl, by decide +kernel, by decide +kernel⟩
def d_is_peer : He.DefD := ⟨("is_peer", none), "is_peer", "is_peer", defArgs s_is_peer, defBody s_is_peer, defScope s_is_peer, [], []⟩
abbrev s_is_name : Stmt := topS 9
theorem sc_is_name : FnScope ["name", "peer", "count"] ["name"] (defScope s_is_name) := ⟨rfl, rfl, rfl, by decide +kernel, rfl, by decide +kernel, by decide +kernel⟩
def d_is_name : He.DefD := ⟨("is_name", none), "is_name", "is_name", defArgs s_is_name, defBody s_is_name, defScope s_is_name, [], []⟩
abbrev s_is_field : Stmt := topS 10
theorem sc_is_field : FnScope ["text"] ["text"] (defScope s_is_field) := ⟨rfl, rfl, rfl, by decide +kernel, rfl, by decide +kernel, by decide +kernel⟩
def d_is_field : He.DefD := ⟨("is_field", none), "is_field", "is_field", defArgs s_is_field, defBody s_is_field, defScope s_is_field, [], []⟩
abbrev s_is_value : Stmt := topS 11
theorem sc_is_value : FnScope ["value"] ["value"] (defScope s_is_value) := ⟨rfl, rfl, rfl, by decide +kernel, rfl, by decide +kernel, by decide +kernel⟩
def d_is_value : He.DefD := ⟨("is_value", none), "is_value", "is_value", defArgs s_is_value, defBody s_is_value, defScope s_is_value, [], []⟩
abbrev s_reference : Stmt := topS 12
theorem sc_reference : FnScope ["name"] ["name"] (defScope s_reference) := ⟨rfl, rfl, rfl, by decide +kernel, rfl, by decide +kernel, by decide +kernel⟩
def d_reference : He.DefD := ⟨("reference", none), "reference", "reference", defArgs s_reference, defBody s_reference, defScope s_reference, [], []⟩
abbrev s_is_reference : Stmt := topS 13
theorem sc_is_reference : FnScope ["value"] ["value"] (defScope s_is_reference) := ⟨rfl, rfl, rfl, by decide +kernel, rfl, by decide +kernel, by decide +kernel⟩
def d_is_reference : He.DefD := ⟨("is_reference", none), "is_reference", "is_reference", defArgs s_is_reference, defBody s_is_reference, defScope s_is_reference, [], []⟩
abbrev s_target_of : Stmt := topS 14
theorem sc_target_of : FnScope ["value"] ["value"] (defScope s_target_of) := ⟨rfl, rfl, rfl, by decide +kernel, rfl, by decide +kernel, by decide +kernel⟩
def d_target_of : He.DefD := ⟨("target_of", none), "target_of", "target_of", defArgs s_target_of, defBody s_target_of, defScope s_target_of, [], []⟩
abbrev s_has_plain_letters : Stmt := topS 15
theorem sc_has_plain_letters : FnScope ["text", "letter"] ["text"] (defScope s_has_plain_letters) := ⟨rfl, rfl, rfl, by decide +kernel, rfl, by decide +kernel, by decide +kernel⟩
def d_has_plain_letters : He.DefD := ⟨("_has_plain_letters", none), "_has_plain_letters", "_has_plain_letters", defArgs s_has_plain_letters, defBody s_has_plain_letters, defScope s_has_plain_letters, [], []⟩
abbrev s_is_stamp : Stmt := topS 18
theorem sc_is_stamp : FnScope ["stamp", "clock", "peer"] ["stamp"] (defScope s_is_stamp) := ⟨rfl, rfl, rfl, by decide +kernel, rfl, by decide +kernel, by decide +kernel⟩
def d_is_stamp : He.DefD := ⟨("is_stamp", none), "is_stamp", "is_stamp", defArgs s_is_stamp, defBody s_is_stamp, defScope s_is_stamp, [], []⟩
abbrev s_is_change : Stmt := topS 19
theorem sc_is_change : FnScope ["change", "stamp", "name", "field", "value"] ["change"] (defScope s_is_change) := ⟨rfl, rfl, rfl, by decide +kernel, rfl, by decide +kernel, by decide +kernel⟩
def d_is_change : He.DefD := ⟨("is_change", none), "is_change", "is_change", defArgs s_is_change, defBody s_is_change, defScope s_is_change, [], []⟩
abbrev s_law_cell : Stmt := topS 21
theorem sc_law_cell : FnScope ["script", "k"] ["script", "k"] (defScope s_law_cell) := ⟨rfl, rfl, rfl, by decide +kernel, rfl, by decide +kernel, by decide +kernel⟩
def d_law_cell : He.DefD := ⟨("_law_cell", none), "_law_cell", "_law_cell", defArgs s_law_cell, defBody s_law_cell, defScope s_law_cell, [], []⟩
abbrev s_law_digits : Stmt := topS 22
theorem sc_law_digits : FnScope ["script", "first", "last", "digits", "k", "cell", "turn", "seed"] ["script", "first", "last"] (defScope s_law_digits) := ⟨rfl, rfl, rfl, by decide +kernel, rfl, by decide +kernel, by decide +kernel⟩
def d_law_digits : He.DefD := ⟨("_law_digits", none), "_law_digits", "_law_digits", defArgs s_law_digits, defBody s_law_digits, defScope s_law_digits, [], []⟩
abbrev s_law_draw : Stmt := topS 23
theorem sc_law_draw : FnScope ["box", "many", "at"] ["box", "many"] (defScope s_law_draw) := ⟨rfl, rfl, rfl, by decide +kernel, rfl, by decide +kernel, by decide +kernel⟩
def d_law_draw : He.DefD := ⟨("_law_draw", none), "_law_draw", "_law_draw", defArgs s_law_draw, defBody s_law_draw, defScope s_law_draw, [], []⟩
abbrev s_law_name : Stmt := topS 24
theorem sc_law_name : FnScope ["box"] ["box"] (defScope s_law_name) := ⟨rfl, rfl, rfl, by decide +kernel, rfl, by decide +kernel, by decide +kernel⟩
def d_law_name : He.DefD := ⟨("_law_name", none), "_law_name", "_law_name", defArgs s_law_name, defBody s_law_name, defScope s_law_name, [], []⟩
abbrev s_law_field : Stmt := topS 25
theorem sc_law_field : FnScope ["box"] ["box"] (defScope s_law_field) := ⟨rfl, rfl, rfl, by decide +kernel, rfl, by decide +kernel, by decide +kernel⟩
def d_law_field : He.DefD := ⟨("_law_field", none), "_law_field", "_law_field", defArgs s_law_field, defBody s_law_field, defScope s_law_field, [], []⟩
abbrev s_law_worth : Stmt := topS 26
theorem sc_law_worth : FnScope ["box", "kind"] ["box"] (defScope s_law_worth) := ⟨rfl, rfl, rfl, by decide +kernel, rfl, by decide +kernel, by decide +kernel⟩
def d_law_worth : He.DefD := ⟨("_law_worth", none), "_law_worth", "_law_worth", defArgs s_law_worth, defBody s_law_worth, defScope s_law_worth, [], []⟩
abbrev s_law_changes : Stmt := topS 27
theorem sc_law_changes : FnScope ["box", "most", "changes", "k", "table", "change", "stamp"] ["box", "most"] (defScope s_law_changes) := ⟨rfl, rfl, rfl, by decide +kernel, rfl, by decide +kernel, by decide +kernel⟩
def d_law_changes : He.DefD := ⟨("_law_changes", none), "_law_changes", "_law_changes", defArgs s_law_changes, defBody s_law_changes, defScope s_law_changes, [], []⟩
abbrev s_law_mixed : Stmt := topS 28
theorem sc_law_mixed : FnScope ["box", "row", "left", "found", "k", "one"] ["box", "row"] (defScope s_law_mixed) := ⟨rfl, rfl, rfl, by decide +kernel, rfl, by decide +kernel, by decide +kernel⟩
def d_law_mixed : He.DefD := ⟨("_law_mixed", none), "_law_mixed", "_law_mixed", defArgs s_law_mixed, defBody s_law_mixed, defScope s_law_mixed, [], []⟩
abbrev s_law_cells : Stmt := topS 29
theorem sc_law_cells : FnScope ["changes", "cells", "change", "key"] ["changes"] (defScope s_law_cells) := ⟨rfl, rfl, rfl, by decide +kernel, rfl, by decide +kernel, by decide +kernel⟩
def d_law_cells : He.DefD := ⟨("_law_cells", none), "_law_cells", "_law_cells", defArgs s_law_cells, defBody s_law_cells, defScope s_law_cells, [], []⟩
abbrev s_law_fields : Stmt := topS 30
theorem sc_law_fields : FnScope ["cells", "name", "found", "key"] ["cells", "name"] (defScope s_law_fields) := ⟨rfl, rfl, rfl, by decide +kernel, rfl, by decide +kernel, by decide +kernel⟩
def d_law_fields : He.DefD := ⟨("_law_fields", none), "_law_fields", "_law_fields", defArgs s_law_fields, defBody s_law_fields, defScope s_law_fields, [], []⟩
abbrev s_law : Stmt := topS 31
theorem sc_law : FnScope ["script", "box", "turn", "peer", "count", "good", "clock", "stamp", "many", "text", "clean", "at", "number", "change", "name", "value", "due"] ["script"] (defScope s_law) := ⟨rfl, rfl, rfl, by decide +kernel, rfl, by decide +kernel, by decide +kernel⟩
def d_law : He.DefD := ⟨("law", none), "law", "law", defArgs s_law, defBody s_law, defScope s_law, [], []⟩
abbrev lv_is_peer : Nat := 1
abbrev lv_is_name : Nat := 2
abbrev lv_is_field : Nat := 2
abbrev lv_is_value : Nat := 4
abbrev lv_reference : Nat := 1
abbrev lv_is_reference : Nat := 3
abbrev lv_target_of : Nat := 4
abbrev lv_has_plain_letters : Nat := 1
abbrev lv_is_stamp : Nat := 2
abbrev lv_is_change : Nat := 5
abbrev lv_law_cell : Nat := 1
abbrev lv_law_digits : Nat := 2
abbrev lv_law_draw : Nat := 1
abbrev lv_law_name : Nat := 2
abbrev lv_law_field : Nat := 2
abbrev lv_law_worth : Nat := 3
abbrev lv_law_changes : Nat := 4
abbrev lv_law_mixed : Nat := 2
abbrev lv_law_cells : Nat := 1
abbrev lv_law_fields : Nat := 1
abbrev lv_law : Nat := 6

section
variable {P : Program} {w : World} {K : PySem.W.Frag} {mg : Str → Option Value} {base : Heap}
/-! ### the box of draws -/
structure Box (K : PySem.W.Frag) (b dg : Addr) (H : Hp) : Prop where
  bx : ∃ z : Int, H b = some (.lst [.ref dg, .int z]) ∧ 0 ≤ z
  di : ∃ ns : List Int, SqL K H dg (ns.map V.int)
  ne : dg ≠ b
theorem Box.stp {b dg : Addr} {H H1 : Hp} {M : List Addr} (B : Box K b dg H) (s : Stp M H H1) (n1 : b ∉ M) (n2 : dg ∉ M) : Box K b dg H1 := by
  obtain ⟨⟨z, h, hz⟩, ⟨ns, d⟩, ne⟩ := B
  exact ⟨⟨z, s.keep _ _ h n1, hz⟩, ⟨ns, s.seq d n2⟩, ne⟩
theorem Box.grow {b dg : Addr} {H H1 : Hp} (B : Box K b dg H) (s : Stp [] H H1) : Box K b dg H1 := B.stp s (by simp) (by simp)
def spDraw (K : PySem.W.Frag) : Sp := fun vs H Q _ => ∃ (b dg : Addr) (m : Int), vs = [.ref b, .int m] ∧ 0 < m ∧ Box K b dg H ∧
  ∀ (d : Int) (H1 : Hp), 0 ≤ d → d < m → Stp [b] H H1 → Box K b dg H1 → Q (.int d) H1
theorem cal_draw (F : Df K mg d_law_draw) (B : Blt mg) : Cal P w K mg base lv_law_draw "_law_draw" ["box", "many"] (spDraw K) := by
  obtain ⟨f, fd, F, g⟩ := F
  refine ⟨f, fd, F.ok sc_law_draw (fun vs H Q E h => ?_) (fun cdv A outer s H vs Q E hr h => ⟨_, PSs.nox
    (pss_cons (ps_set (i := 2) sc_law_draw.nd rfl (Or.inl rfl) (pe_ix ix_list (pv 0) pe_int (fun _ _ => rfl)))
    (pss_cons (ps_asg (pe_op op_add (pv 2) pe_int) (pg_sub (pv 0) pe_int set_list))
    (pss_cons (ps_if (pt_cmpR op_lt (pv 2) (pe_callB call_len_seq (by rfl) B.len boot_len (pa_cons (pe_ix ix_list (pv 0) pe_int (fun _ _ => rfl)) pa_nil)) (nomark _))
      (pss_one (ps_ret (pe_op op_mod (pe_callTy call_int1 (by rfl) B.int boot_int (pa_cons (pe_ix ix_list (pe_ix ix_list (pv 0) pe_int (fun _ _ => rfl)) (pv 2) (fun _ _ => rfl)) pa_nil)) (pv 1))))
      pss_nil)
    (pss_one (ps_ret pe_int))))), ?_⟩), g, F.kp, F.bindsN fun _ _ _ _ _ _ us hl => match us, hl with | [_, _], _ => rfl⟩
  · obtain ⟨b, dg, m, rfl, _⟩ := h
    rfl
  · obtain ⟨b, dg, m, rfl, hm, ⟨⟨z, hb, hz⟩, ⟨ns, hd⟩, ne⟩, q⟩ := h
    have st : Stp [b] H (upd H b (.lst [.ref dg, .int (z + 1)])) := .wr (by simp) hb fun _ e => by cases e
    have hd1 := st.seq hd (by simp [ne])
    have B1 : Box K b dg (upd H b (.lst [.ref dg, .int (z + 1)])) := ⟨⟨z + 1, upd_same, by omega⟩, ⟨ns, hd1⟩, ne⟩
    refine ⟨_, rfl, _, _, _, _, rfl, rfl, SqL.of hb, atI_nat (j := 1) rfl, ?_⟩
    refine ⟨_, rfl, _, _, rfl, rfl, _, rfl, _, _, _, 1, rfl, rfl, hb, rfl, ?_⟩
    refine ⟨_, rfl, _, rfl, _, _, _, _, rfl, rfl, SqL.of upd_same, atI_nat (j := 0) rfl, _, _, rfl, .inl hd1, _, _, rfl, rfl, _, rfl, ?_⟩
    refine i_iteD (fun hlt => ?_) (fun _ => ?_)
    · have hl : z.toNat < ns.length := by rw [List.length_map] at hlt; omega
      have he : atI (ns.map V.int) z = some (.int ns[z.toNat]) := at_of (j := z.toNat) (by omega) (by rw [List.getElem?_map, List.getElem?_eq_getElem hl]; rfl)
      refine ⟨_, rfl, _, _, _, _, rfl, rfl, SqL.of upd_same, atI_nat (j := 0) rfl, _, rfl, _, _, _, _, rfl, rfl, hd1, he, .inl ⟨_, rfl, _, rfl, _, _, rfl, rfl, hm, ?_⟩⟩
      exact q _ _ (Int.emod_nonneg _ (by omega)) (Int.emod_lt_of_pos _ hm) st B1
    · exact q 0 _ (by omega) hm st B1
end

section
variable {P : Program} {w : World} {K : PySem.W.Frag} {mg : Str → Option Value} {base : Heap}
def spCel (K : PySem.W.Frag) : Sp := fun vs H Q _ => ∃ (l : Addr) (ns : List Int) (k : Int), vs = [.ref l, .int k] ∧ 0 ≤ k ∧ SqL K H l (ns.map V.int) ∧ ∀ i : Int, Q (.int i) H
theorem cal_cell (F : Df K mg d_law_cell) (B : Blt mg) : Cal P w K mg base lv_law_cell "_law_cell" ["script", "k"] (spCel K) := by
  obtain ⟨f, fd, F, g⟩ := F
  refine ⟨f, fd, F.ok sc_law_cell (fun vs H Q E h => ?_) (fun cdv A outer s H vs Q E hr h => ⟨_, PSs.nox
    (pss_cons (ps_if (pt_cmpR op_lt (pv 1) (pe_callB call_len_seq (by rfl) B.len boot_len (pa_cons (pv 0) pa_nil)) (nomark _))
      (pss_one (ps_ret (pe_ix ix_list (pv 0) (pv 1) (fun _ _ => rfl))))
      pss_nil)
    (pss_one (ps_ret pe_int))), ?_⟩), g, F.kp, F.bindsN fun _ _ _ _ _ _ us hl => match us, hl with | [_, _], _ => rfl⟩
  · obtain ⟨l, ns, k, rfl, _⟩ := h
    rfl
  · obtain ⟨l, ns, k, rfl, hk, hs, q⟩ := h
    refine ⟨_, rfl, _, rfl, _, _, rfl, .inl hs, _, _, rfl, rfl, _, rfl, ?_⟩
    refine i_iteD (fun hlt => ?_) (fun _ => ?_)
    · have hl : k.toNat < ns.length := by rw [List.length_map] at hlt; omega
      exact ⟨_, rfl, _, rfl, _, _, _, _, rfl, rfl, hs, at_of (j := k.toNat) (by omega) (by rw [List.getElem?_map, List.getElem?_eq_getElem hl]; rfl), q _⟩
    · exact q 0
def spDigits (K : PySem.W.Frag) : Sp := fun vs H Q _ => ∃ (l : Addr) (ns : List Int) (a b : Int), vs = [.ref l, .int a, .int b] ∧ 0 ≤ a ∧ a ≤ 1000 ∧ 0 ≤ b ∧ b ≤ 1000 ∧ SqL K H l (ns.map V.int) ∧
  ∀ (p : Addr) (ds : List Int) (H1 : Hp), H p = none → H1 p = some (.lst (ds.map V.int)) → Stp [] H H1 → Q (.ref p) H1
theorem map_snoc (ds : List Int) (d : Int) : ds.map V.int ++ [V.int d] = (ds ++ [d]).map V.int := by simp
theorem cal_digits (F : Df K mg d_law_digits) (B : Blt mg) (C_law_cell : Cal P w K mg base lv_law_cell "_law_cell" ["script", "k"] (spCel K)) : Cal P w K mg base lv_law_digits "_law_digits" ["script", "first", "last"] (spDigits K) := by
  obtain ⟨f, fd, F, g⟩ := F
  refine ⟨f, fd, F.ok sc_law_digits (fun vs H Q E h => ?_) (fun cdv A outer s H vs Q E hr h => ⟨_, PSs.nox
    (pss_cons (ps_set (i := 3) sc_law_digits.nd rfl (Or.inl rfl) (pe_lst pa_nil))
    (pss_cons (ps_for PassesOwn.never rfl (pi_range2 rfl B.range (pa_cons (pv 1) (pa_cons (pv 2) pa_nil))) (pg_name (i := 4) sc_law_digits.nd rfl (Or.inl rfl))
      (pss_cons (ps_set (i := 5) sc_law_digits.nd rfl (Or.inl rfl) (pc_call C_law_cell (hr.mono (by decide)) (by rfl) (pa_cons (pv 0) (pa_cons (pv 4) pa_nil))))
        (C8.pss_cut (ps_if (pt_cmpR op_lt (pv 5) pe_int (nomark _))
          (pss_one (ps_set (i := 5) sc_law_digits.nd rfl (Or.inl rfl) (pe_op op_sub pe_int (pe_op op_mul pe_int (pv 5)))))
          pss_nil)
        (pss_one (ps_if (pt_cmpR op_ge (pv 5) (pe_op op_pow pe_int pe_int) (nomark _))
          (pss_one (ps_for PassesOwn.never rfl (pi_range1 rfl B.range (pa_cons pe_int pa_nil)) (pg_name (i := 6) sc_law_digits.nd rfl (Or.inl rfl))
              (pss_one (ps_if (pt_cmpR op_gt (pv 5) pe_int (nomark _))
                  (pss_cons (ps_expr (pe_bm PySem.F.plainAttrs_list PySem.F.slot_list_append PySem.F.type_list_append mt_append (pv 3) (pa_cons (pe_op op_mod (pe_callTy call_int1 (by rfl) B.int boot_int (pa_cons (pv 5) pa_nil)) pe_int) pa_nil)))
                    (pss_one (ps_set (i := 5) sc_law_digits.nd rfl (Or.inl rfl) (pe_op op_fdiv (pv 5) pe_int))))
                  pss_nil))))
          (pss_cons (ps_set (i := 7) sc_law_digits.nd rfl (Or.inl rfl) (pe_op op_mod (pe_callTy call_int1 (by rfl) B.int boot_int (pa_cons (pe_op op_add (pe_op op_add (pe_op op_mul (pv 5) pe_int) (pe_op op_mul (pv 4) pe_int)) pe_int) pa_nil)) pe_int))
            (pss_one (ps_for PassesOwn.never rfl (pi_range1 rfl B.range (pa_cons pe_int pa_nil)) (pg_name (i := 6) sc_law_digits.nd rfl (Or.inl rfl))
              (pss_cons (ps_set (i := 7) sc_law_digits.nd rfl (Or.inl rfl) (pe_op op_mod (pe_callTy call_int1 (by rfl) B.int boot_int (pa_cons (pe_op op_add (pe_op op_add (pe_op op_mul (pv 7) pe_int) (pe_op op_mul pe_int (pv 6))) pe_int) pa_nil)) pe_int))
                (pss_one (ps_expr (pe_bm PySem.F.plainAttrs_list PySem.F.slot_list_append PySem.F.type_list_append mt_append (pv 3) (pa_cons (pe_op op_mod (pe_callTy call_int1 (by rfl) B.int boot_int (pa_cons (pe_op op_fdiv (pv 7) pe_int) pa_nil)) pe_int) pa_nil)))))))))))))
    (pss_one (ps_ret (pv 3))))), ?_⟩), g, F.kp, F.bindsN fun _ _ _ _ _ _ us hl => match us, hl with | [_, _, _], _ => rfl⟩
  · obtain ⟨l, ns, a, b, rfl, _⟩ := h
    rfl
  · obtain ⟨l, ns, a, b, rfl, ha, ha1, hb0, hb, hs, q⟩ := h
    refine ⟨Nat.zero_le _, fun p hp => ?_⟩
    have s1 : Stp [] H (upd H p (.lst [])) := .new hp
    refine ⟨_, rfl, _, rfl, a, b, rfl, ⟨by omega, by omega, by omega, by omega⟩, ?_⟩
    refine for_range (lo := a) (n := (b - a).toNat) (fun i σ H' => ∃ (y4 y5 y6 y7 : Option V) (ds : List Int), σ = [some (.ref l), some (.int a), some (.int b), some (.ref p), y4, y5, y6, y7] ∧ Stp [] H H' ∧ H' p = some (.lst (ds.map V.int)) ∧ ds.length ≤ 60 * i)
      ⟨none, none, none, none, [], rfl, s1, upd_same, Nat.le_refl _⟩ ?_ ?_
    · rintro i σ H' hi ⟨y4, y5, y6, y7, ds, rfl, s', hd, hl⟩
      have hl0 : ds.length ≤ 60000 := by omega
      refine ⟨_, rfl, _, rfl, l, ns, a + (i : Int), rfl, by omega, s'.seq hs (by simp), fun c0 => ?_⟩
      refine ⟨fun σ2 H2 => H2 = H' ∧ ∃ c : Int, 0 ≤ c ∧ σ2 = [some (.ref l), some (.int a), some (.int b), some (.ref p), some (.int (a + (i : Int))), some (.int c), y6, y7], ?_, ?_⟩
      · refine ⟨_, rfl, _, _, rfl, rfl, _, rfl, i_iteD (fun hc => ?_) (fun hc => ?_)⟩
        · refine ⟨_, rfl, _, _, rfl, rfl, .inl ⟨by decide, by decide⟩, _, _, rfl, rfl, rfl, 1 - 2 * c0, by omega, rfl⟩
        · exact ⟨rfl, c0, by omega, rfl⟩
      · rintro σ2 H2 ⟨rfl, c, hc, rfl⟩
        refine ⟨_, rfl, _, _, rfl, rfl, ⟨by decide, by decide, by decide⟩, _, _, rfl, rfl, _, rfl, i_iteD (fun hbig => ?_) (fun hsm => ?_)⟩
        · refine ⟨60, rfl, by decide, by decide, ?_⟩
          refine for_range (lo := 0) (n := 60) (fun j σ3 H3 => ∃ (y6 : Option V) (c : Int) (es : List Int), σ3 = [some (.ref l), some (.int a), some (.int b), some (.ref p), some (.int (a + (i : Int))), some (.int c), y6, y7] ∧ Stp [] H H3 ∧ H3 p = some (.lst (es.map V.int)) ∧ es.length ≤ 60 * i + j)
            ⟨y6, c, ds, rfl, s', hd, by omega⟩ ?_ ?_
          · rintro j σ3 H3 hj ⟨z6, c1, es, rfl, s3, h3, hl3⟩
            refine ⟨_, rfl, _, _, rfl, rfl, _, rfl, i_iteD (fun hpos => ?_) (fun _ => ?_)⟩
            · refine ⟨_, rfl, .inl ⟨rfl, _, SqL.of h3⟩, _, rfl, .inl ⟨_, rfl, _, _, rfl, rfl, (by show (0 : Int) < 1000; decide), _, _, _, rfl, rfl, h3, ?_, ?_⟩⟩
              · rw [List.length_map]; exact Nat.lt_of_le_of_lt (show es.length ≤ 70000 by omega) (by decide)
              · refine ⟨_, rfl, _, _, rfl, rfl, ⟨by decide, by decide⟩, _, _, es ++ [c1 % 1000], rfl, s3.mut hp, ?_, ?_⟩
                · rw [upd_same, map_snoc]
                · rw [List.length_append, List.length_singleton]; omega
            · exact ⟨_, c1, es, rfl, s3, h3, by omega⟩
          · rintro σ3 H3 ⟨z6, c1, es, rfl, s3, h3, hl3⟩
            exact ⟨_, _, _, _, es, rfl, s3, h3, by omega⟩
        · have hc18 : c < 1000000000000000000 := by
            have e : (10 : Int) ^ (18 : Int).toNat = 1000000000000000000 := by decide
            rw [e] at hsm; omega
          refine ⟨_, rfl, _, _, rfl, rfl, .inl ⟨by omega, by omega⟩, _, rfl, _, _, rfl, rfl, .inl ⟨by omega, by omega⟩, _, _, rfl, rfl, _, _, rfl, rfl, .inl ⟨_, rfl, _, _, rfl, rfl, (by show (0 : Int) < 2147483647; decide), ?_⟩⟩
          refine ⟨12, rfl, by decide, by decide, ?_⟩
          refine for_range (lo := 0) (n := 12) (fun j σ3 H3 => ∃ (y6 : Option V) (sd : Int) (es : List Int), σ3 = [some (.ref l), some (.int a), some (.int b), some (.ref p), some (.int (a + (i : Int))), some (.int c), y6, some (.int sd)] ∧ 0 ≤ sd ∧ sd < 2147483647 ∧ Stp [] H H3 ∧ H3 p = some (.lst (es.map V.int)) ∧ es.length ≤ 60 * i + j)
            ⟨y6, _, ds, rfl, Int.emod_nonneg _ (by decide), Int.emod_lt_of_pos _ (by decide), s', hd, by omega⟩ ?_ ?_
          · rintro j σ3 H3 hj ⟨z6, sd, es, rfl, hs0, hs1, s3, h3, hl3⟩
            refine ⟨_, rfl, _, _, rfl, rfl, .inl ⟨by omega, by omega⟩, _, rfl, _, _, rfl, rfl, .inl ⟨by decide, by decide⟩, _, _, rfl, rfl, _, _, rfl, rfl, .inl ⟨_, rfl, _, _, rfl, rfl, (by show (0 : Int) < 2147483647; decide), ?_⟩⟩
            refine ⟨_, rfl, .inl ⟨rfl, _, SqL.of h3⟩, _, rfl, _, _, rfl, rfl, ⟨by decide, by decide⟩, .inl ⟨_, rfl, _, _, rfl, rfl, (by show (0 : Int) < 1000; decide), _, _, _, rfl, rfl, h3, ?_, ?_⟩⟩
            · rw [List.length_map]; exact Nat.lt_of_le_of_lt (show es.length ≤ 70000 by omega) (by decide)
            · refine ⟨_, _, es ++ [(sd * 16807 + 7 * (0 + (j : Int)) + 1) % 2147483647 / 997 % 1000], rfl, Int.emod_nonneg _ (by decide), Int.emod_lt_of_pos _ (by decide), s3.mut hp, ?_, ?_⟩
              · rw [upd_same, map_snoc]
              · rw [List.length_append, List.length_singleton]; omega
          · rintro σ3 H3 ⟨z6, sd, es, rfl, hs0, hs1, s3, h3, hl3⟩
            exact ⟨_, _, _, _, es, rfl, s3, h3, by omega⟩
    · rintro σ H' ⟨y4, y5, y6, y7, ds, rfl, s', hd, hl⟩
      exact ⟨_, rfl, q p ds H' hp hd s'⟩
end

/-! ### names, values -/
abbrev Nm := Int × Int
abbrev nmD (n : Nm) : Dt := .tup [.num n.1, .num n.2]
theorem nmAt {K : PySem.W.Frag} {H : Hp} {v : V} {n : Nm} (h : DtAt K H v (nmD n)) : ∃ a, v = .ref a ∧ TupAt K H a [.int n.1, .int n.2] := by
  cases h with
  | @tup a xs _ h1 h2 =>
    cases h2 with
    | cons r1 t =>
      cases t with
      | cons r2 t =>
        cases t
        cases r1
        cases r2
        exact ⟨a, rfl, h1⟩
theorem nm_mk {K : PySem.W.Frag} {H : Hp} {a : Addr} {n : Nm} (h : H a = some (.tup [.int n.1, .int n.2])) : DtAt K H (.ref a) (nmD n) := .tup (.inl h) (.cons (.num _) (.cons (.num _) .nil))
def okPeer (p : Int) : Bool := decide (0 ≤ p) && decide (p ≤ 7)
def okName (n : Nm) : Bool := okPeer n.1 && (decide (0 ≤ n.2) && decide (n.2 ≤ 4294967295))
structure Con0 (mg : Str → Option Value) : Prop where
  GREATEST_PEER : ∃ t, mg "GREATEST_PEER" = some (.int 7 t)
  GREATEST_COUNT : ∃ t, mg "GREATEST_COUNT" = some (.int 4294967295 t)
  LONGEST_FIELD : ∃ t, mg "LONGEST_FIELD" = some (.int 8 t)
  LONGEST_TEXT : ∃ t, mg "LONGEST_TEXT" = some (.int 20 t)
  LEAST_INTEGER : ∃ t, mg "LEAST_INTEGER" = some (.int (-1000000) t)
  GREATEST_INTEGER : ∃ t, mg "GREATEST_INTEGER" = some (.int 1000000 t)
section
variable {P : Program} {w : World} {K : PySem.W.Frag} {mg : Str → Option Value} {base : Heap}
def spIsPeer : Sp := fun vs H Q _ => ∃ n : Int, vs = [.int n] ∧ Q (.bl (okPeer n)) H
theorem cal_is_peer (F : Df K mg d_is_peer) (N : Con0 mg) : Cal P w K mg base lv_is_peer "is_peer" ["number"] spIsPeer := by
  obtain ⟨f, fd, F, g⟩ := F
  refine ⟨f, fd, F.ok sc_is_peer (fun vs H Q E h => ?_) (fun cdv A outer s H vs Q E hr h => ⟨_, PSs.nox
    (pss_one (ps_ret (pe_chain op_le op_le pe_int (pv 0) (pe_gi rfl N.GREATEST_PEER)))), ?_⟩), g, F.kp, F.bindsN fun _ _ _ _ _ _ us hl => match us, hl with | [_], _ => rfl⟩
  · obtain ⟨n, rfl, _⟩ := h
    rfl
  · obtain ⟨n, rfl, q⟩ := h
    repeat walk_at "g"
    exact q
def spIsName (K : PySem.W.Frag) : Sp := fun vs H Q _ => ∃ (v : V) (n : Nm), vs = [v] ∧ DtAt K H v (nmD n) ∧ Q (.bl (okName n)) H
theorem cal_is_name (F : Df K mg d_is_name) (N : Con0 mg) (C_is_peer : Cal P w K mg base lv_is_peer "is_peer" ["number"] spIsPeer) : Cal P w K mg base lv_is_name "is_name" ["name"] (spIsName K) := by
  obtain ⟨f, fd, F, g⟩ := F
  refine ⟨f, fd, F.ok sc_is_name (fun vs H Q E h => ?_) (fun cdv A outer s H vs Q E hr h => ⟨_, PSs.nox
    (pss_cons (ps_asg (pv 0) (pg_tup (by rfl) (pgs_cons (pg_name (i := 1) sc_is_name.nd rfl (Or.inl rfl)) (pgs_cons (pg_name (i := 2) sc_is_name.nd rfl (Or.inl rfl)) pgs_nil))))
    (pss_one (ps_ret (pe_and (pc_call C_is_peer (hr.mono (by decide)) (by rfl) (pa_cons (pv 1) pa_nil)) (pe_one (pe_chain op_le op_le pe_int (pv 2) (pe_gi rfl N.GREATEST_COUNT))))))), ?_⟩), g, F.kp, F.bindsN fun _ _ _ _ _ _ us hl => match us, hl with | [_], _ => rfl⟩
  · obtain ⟨v, n, rfl, _⟩ := h
    rfl
  · obtain ⟨v, n, rfl, hn, q⟩ := h
    obtain ⟨a, rfl, ha⟩ := nmAt hn
    repeat walk_at "g"
    refine i_gTup ha.sqt rfl ?_
    repeat walk_at "g"
    refine ⟨_, rfl, ?_⟩
    repeat walk_at "g"
    exact q
def plainC (c : Nat) : Bool := decide (97 ≤ c) && decide (c ≤ 122)
def plain (z : Str) : Bool := z.cps.toList.all plainC
def spPlain : Sp := fun vs H Q _ => ∃ z : Str, vs = [.str z] ∧ z.length ≤ 1000 ∧ ∀ H1, Stp [] H H1 → Q (.bl (plain z)) H1
theorem cal_plain (F : Df K mg d_has_plain_letters) (B : Blt mg) : Cal P w K mg base lv_has_plain_letters "_has_plain_letters" ["text"] spPlain := by
  obtain ⟨f, fd, F, g⟩ := F
  refine ⟨f, fd, F.ok sc_has_plain_letters (fun vs H Q E h => ?_) (fun cdv A outer s H vs Q E hr h => ⟨_, PSs.nox
    (pss_one (ps_ret (pe_callB (cr_all rfl) (by rfl) B.all (by decide +kernel) (pa_cons (pe_lc (own := [("letter", 1)]) (g := gName 1) (by rfl) sc_has_plain_letters.nd (pi_str (pv 0)) (blkOk_by (N := ["text", "letter"]) (own := [("letter", 1)]) (sc := defScope s_has_plain_letters) (by decide +kernel)) (fun _ _ _ _ _ => (pg_name (i := 1) sc_has_plain_letters.nd rfl (Or.inl rfl))) (fun _ _ _ _ _ => pts_nil) (fun _ _ _ _ _ => (pe_chain op_le_str op_le_str pe_str (pv 1) pe_str))) pa_nil)))), ?_⟩), g, F.kp, F.bindsN fun _ _ _ _ _ _ us hl => match us, hl with | [_], _ => rfl⟩
  · obtain ⟨z, rfl, _⟩ := h
    rfl
  · obtain ⟨z, rfl, hz, q⟩ := h
    refine ⟨_, rfl, z, rfl, fun D hD => ?_⟩
    refine lc_it (walk_str (z := z)) (fun i H' => Stp [] H H' ∧ H' D = some (.lst (((z.cps.toList.take i).map plainC).map V.bl))) ⟨.new hD, upd_same⟩ (fun _ _ _ _ => trivial) ?_ ?_
    · rintro i x H1 H2 hi ⟨s1, h1⟩ ⟨rfl, c, hc, rfl⟩
      have hi' : i < z.cps.toList.length := by simpa using hi
      have ec : z.cps.toList[i]? = some c := by simpa using hc
      have key : Stp [] H (upd H2 D (.lst (((z.cps.toList.take i).map plainC).map V.bl ++ [V.bl (plainC c)]))) ∧ (upd H2 D (.lst (((z.cps.toList.take i).map plainC).map V.bl ++ [V.bl (plainC c)]))) D = some (.lst (((z.cps.toList.take (i + 1)).map plainC).map V.bl)) := by
        refine ⟨s1.mut hD, ?_⟩
        rw [upd_same, List.take_add_one, ec]
        simp
      have hlen : (((z.cps.toList.take i).map plainC).map V.bl).length < sizeLine := by
        have : (((z.cps.toList.take i).map plainC).map V.bl).length ≤ 1000 := by simp; exact Nat.le_trans (Nat.min_le_right _ _) hz
        exact small1000 this
      refine ⟨rfl, ?_⟩
      refine i_Yes ?_
      refine iteT ?_
      refine ⟨_, rfl, _, _, rfl, rfl, _, rfl, ?_⟩
      have e1 : (!decide ((⟨#[c]⟩ : Str).cps.toList < (Str.ofString "a").cps.toList)) = decide (97 ≤ c) := by
        rw [show (Str.ofString "a").cps = #[97] by decide +kernel, Bool.eq_iff_iff]
        simp [List.cons_lt_cons_iff]
      have e2 : (!decide ((Str.ofString "z").cps.toList < (⟨#[c]⟩ : Str).cps.toList)) = decide (c ≤ 122) := by
        rw [show (Str.ofString "z").cps = #[122] by decide +kernel, Bool.eq_iff_iff]
        simp [List.cons_lt_cons_iff]
      rw [e1]
      refine i_ite (fun a1 => ?_) (fun a1 => ?_)
      · refine ⟨_, _, rfl, rfl, _, h1, hlen, ?_⟩
        rw [e2, show decide (c ≤ 122) = plainC c by simp [plainC, a1]]
        exact key
      · refine ⟨_, h1, hlen, ?_⟩
        rw [show false = plainC c by simp [plainC, a1]]
        exact key
    · rintro H1 ⟨s1, h1⟩
      refine ⟨D, _, rfl, SqL.of h1, ?_⟩
      refine qbl (q H1 s1) ?_
      rw [List.take_of_length_le (by simp)]
      simp [plain, List.all_map, Function.comp_def]
end

/-! ### values -/
inductive Va where
  | non
  | num (i : Int)
  | txt (x : Str)
  | tg (s : Str) (n : Nm)
  deriving DecidableEq
def vaD : Va → Dt
  | .non => .non
  | .num i => .num i
  | .txt x => .txt x
  | .tg s n => .tup [.txt s, nmD n]
theorem vaD_flat (x : Va) : (vaD x).flat = true := by cases x <;> simp [vaD, Dt.flat, Dt.flatAll]
theorem vaD_depth (x : Va) : (vaD x).depth ≤ 2 := by cases x <;> simp [vaD, Dt.depth, Dt.depthAll]
theorem vaD_pure (x : Va) : (vaD x).pure = true := by cases x <;> simp [vaD, Dt.pure, Dt.pureAll]
theorem nmD_inj {a b : Nm} (h : nmD a = nmD b) : a = b := by
  injection h with h; injection h with h1 h; injection h with h2 _; injection h1 with h1; injection h2 with h2
  exact Prod.ext h1 h2
theorem vaD_inj {a b : Va} (h : vaD a = vaD b) : a = b := by
  cases a <;> cases b <;> simp only [vaD, Dt.num.injEq, Dt.txt.injEq, Dt.tup.injEq, List.cons.injEq, and_true, reduceCtorEq, Prod.mk.injEq, Va.num.injEq, Va.txt.injEq, Va.tg.injEq] at h ⊢
  · exact h
  · exact h
  · exact ⟨h.1, Prod.ext h.2.1 h.2.2⟩
theorem tgAt {K : PySem.W.Frag} {H : Hp} {v : V} {s : Str} {n : Nm} (h : DtAt K H v (vaD (.tg s n))) : ∃ a b, v = .ref a ∧ TupAt K H a [.str s, .ref b] ∧ DtAt K H (.ref b) (nmD n) := by
  cases h with
  | @tup a xs _ h1 h2 =>
    cases h2 with
    | cons r1 t =>
      cases t with
      | @cons v2 _ _ _ r2 t =>
        cases t
        cases r1
        obtain ⟨b, rfl, hb⟩ := nmAt r2
        exact ⟨a, b, rfl, h1, r2⟩
theorem nonAt {K : PySem.W.Frag} {H : Hp} {v : V} (h : DtAt K H v .non) : v = .non := by cases h; rfl
theorem numAt {K : PySem.W.Frag} {H : Hp} {v : V} {i : Int} (h : DtAt K H v (.num i)) : v = .int i := by cases h; rfl
theorem txtAt {K : PySem.W.Frag} {H : Hp} {v : V} {x : Str} (h : DtAt K H v (.txt x)) : v = .str x := by cases h; rfl
abbrev strRef : Str := Str.ofString "ref"
def okField (z : Str) : Bool := (decide ((1 : Int) ≤ (z.length : Int)) && decide ((z.length : Int) ≤ 8)) && plain z
def okRef : Va → Bool
  | .tg s n => decide (s = strRef) && okName n
  | _ => false
def okVa : Va → Bool
  | .non => true
  | .num i => decide (-1000000 ≤ i) && decide (i ≤ 1000000)
  | .txt z => decide ((z.length : Int) ≤ 20) && plain z
  | .tg s n => decide (s = strRef) && okName n
/-- texts that can be measured -/
def smallVa : Va → Prop
  | .txt z => z.length ≤ 1000
  | _ => True
section
variable {P : Program} {w : World} {K : PySem.W.Frag} {mg : Str → Option Value} {base : Heap}
def spIsField : Sp := fun vs H Q _ => ∃ z : Str, vs = [.str z] ∧ z.length ≤ 1000 ∧ ∀ H1, Stp [] H H1 → Q (.bl (okField z)) H1
theorem cal_is_field (F : Df K mg d_is_field) (B : Blt mg) (N : Con0 mg) (C_has_plain_letters : Cal P w K mg base lv_has_plain_letters "_has_plain_letters" ["text"] spPlain) : Cal P w K mg base lv_is_field "is_field" ["text"] spIsField := by
  obtain ⟨f, fd, F, g⟩ := F
  refine ⟨f, fd, F.ok sc_is_field (fun vs H Q E h => ?_) (fun cdv A outer s H vs Q E hr h => ⟨_, PSs.nox
    (pss_one (ps_ret (pe_and (pe_chain op_le op_le pe_int (pe_callB call_len_str (by rfl) B.len boot_len (pa_cons (pv 0) pa_nil)) (pe_gi rfl N.LONGEST_FIELD)) (pe_one (pc_call C_has_plain_letters (hr.mono (by decide)) (by rfl) (pa_cons (pv 0) pa_nil)))))), ?_⟩), g, F.kp, F.bindsN fun _ _ _ _ _ _ us hl => match us, hl with | [_], _ => rfl⟩
  · obtain ⟨z, rfl, _⟩ := h
    rfl
  · obtain ⟨z, rfl, hz, q⟩ := h
    repeat walk_at "g"
    refine ⟨z, rfl, Nat.le_of_lt (small1000 hz), ?_⟩
    repeat walk_at "g"
    refine i_ite (fun h1 => ?_) (fun h1 => ?_)
    · repeat walk_at "g"
      refine i_ite (fun h2 => ?_) (fun h2 => ?_)
      · repeat walk_at "g"
        refine ⟨z, rfl, hz, fun H1 s1 => ?_⟩
        exact qbl (q H1 s1) (by simp only [okField, h1, h2, Bool.true_and])
      · exact qbl (q H (.refl H)) (by simp only [okField, h1, h2, Bool.and_false, Bool.false_and])
    · repeat walk_at "g"
      exact qbl (q H (.refl H)) (by simp only [okField, h1, Bool.false_and])
def spReference (K : PySem.W.Frag) : Sp := fun vs H Q _ => ∃ (v : V) (n : Nm), vs = [v] ∧ DtAt K H v (nmD n) ∧ ∀ u H1, Stp [] H H1 → DtAt K H1 u (vaD (.tg strRef n)) → Q u H1
theorem cal_reference (F : Df K mg d_reference) : Cal P w K mg base lv_reference "reference" ["name"] (spReference K) := by
  obtain ⟨f, fd, F, g⟩ := F
  refine ⟨f, fd, F.ok sc_reference (fun vs H Q E h => ?_) (fun cdv A outer s H vs Q E hr h => ⟨_, PSs.nox
    (pss_one (ps_ret (pe_tup (pa_cons pe_str (pa_cons (pv 0) pa_nil))))), ?_⟩), g, F.kp, F.bindsN fun _ _ _ _ _ _ us hl => match us, hl with | [_], _ => rfl⟩
  · obtain ⟨v, n, rfl, _⟩ := h
    rfl
  · obtain ⟨v, n, rfl, hn, q⟩ := h
    repeat walk_at "g"
    refine ⟨(by decide : 2 ≤ sizeLine), fun p hp => ?_⟩
    have s1 : Stp [] H (upd H p (.tup [.str strRef, v])) := .new hp
    exact q _ _ s1 (.tup (.inl upd_same) (.cons (.txt _) (.cons (DtAt.stp s1 _ _ rfl hn) .nil)))
def spIsRef (K : PySem.W.Frag) : Sp := fun vs H Q _ => ∃ (v : V) (x : Va), vs = [v] ∧ DtAt K H v (vaD x) ∧ Q (.bl (okRef x)) H
theorem cal_is_reference (F : Df K mg d_is_reference) (B : Blt mg) (C_is_name : Cal P w K mg base lv_is_name "is_name" ["name"] (spIsName K)) : Cal P w K mg base lv_is_reference "is_reference" ["value"] (spIsRef K) := by
  obtain ⟨f, fd, F, g⟩ := F
  refine ⟨f, fd, F.ok sc_is_reference (fun vs H Q E h => ?_) (fun cdv A outer s H vs Q E hr h => ⟨_, PSs.nox
    (pss_one (ps_ret (pe_and (pe_callB call_isi (by rfl) B.isinstance (by decide +kernel) (pa_cons (pv 0) (pa_cons (pe_bltn (v := .ty "tuple") (by rfl) B.tuple (by decide +kernel) rfl) pa_nil))) (pe_and (pe_cmpR (op_eqT hr.units) (pe_ix ix_tup (pv 0) pe_int (fun _ _ => rfl)) pe_str (nomark _)) (pe_one (pc_call C_is_name (hr.mono (by decide)) (by rfl) (pa_cons (pe_ix ix_tup (pv 0) pe_int (fun _ _ => rfl)) pa_nil))))))), ?_⟩), g, F.kp, F.bindsN fun _ _ _ _ _ _ us hl => match us, hl with | [_], _ => rfl⟩
  · obtain ⟨v, n, rfl, _⟩ := h
    rfl
  · obtain ⟨v, x, rfl, hx, q⟩ := h
    repeat walk_at "g"
    cases x with
    | tg s n =>
      refine i_Isi "tuple" true hx ?_
      obtain ⟨a, b, rfl, ha, hb⟩ := tgAt hx
      repeat walk_at "g"
      refine iteT ?_
      repeat walk_at "g"
      refine i_IxT ha.sqt (atI_nat (j := 0) rfl) ?_
      repeat walk_at "g"
      refine i_EqT (.txt s) (.txt strRef) ?_
      refine i_blV ?_
      refine i_iteD (fun h1 => ?_) (fun h1 => ?_)
      · repeat walk_at "g"
        refine i_IxT ha.sqt (atI_nat (j := 1) rfl) ?_
        repeat walk_at "g"
        refine ⟨_, n, rfl, hb, ?_⟩
        exact qbl q (by simp [okRef, h1])
      · exact qbl q (by simp [okRef, h1])
    | non =>
      refine i_Isi "NoneType" false hx ?_
      repeat walk_at "g"
      exact qbl q rfl
    | num i =>
      refine i_Isi "int" false hx ?_
      repeat walk_at "g"
      exact qbl q rfl
    | txt z =>
      refine i_Isi "str" false hx ?_
      repeat walk_at "g"
      exact qbl q rfl
def spTarget (K : PySem.W.Frag) : Sp := fun vs H Q _ => ∃ (v : V) (x : Va), vs = [v] ∧ DtAt K H v (vaD x) ∧ ∀ u, (okRef x = false → u = .non) → (∀ s n, x = .tg s n → okRef x = true → DtAt K H u (nmD n)) → Q u H
theorem cal_target_of (F : Df K mg d_target_of) (C_is_reference : Cal P w K mg base lv_is_reference "is_reference" ["value"] (spIsRef K)) : Cal P w K mg base lv_target_of "target_of" ["value"] (spTarget K) := by
  obtain ⟨f, fd, F, g⟩ := F
  refine ⟨f, fd, F.ok sc_target_of (fun vs H Q E h => ?_) (fun cdv A outer s H vs Q E hr h => ⟨_, PSs.nox
    (pss_cons (ps_if (pt_val (pc_call C_is_reference (hr.mono (by decide)) (by rfl) (pa_cons (pv 0) pa_nil)))
      (pss_one (ps_ret (pe_ix ix_tup (pv 0) pe_int (fun _ _ => rfl))))
      pss_nil)
    (pss_one (ps_ret pe_non))), ?_⟩), g, F.kp, F.bindsN fun _ _ _ _ _ _ us hl => match us, hl with | [_], _ => rfl⟩
  · obtain ⟨v, n, rfl, _⟩ := h
    rfl
  · obtain ⟨v, x, rfl, hx, q⟩ := h
    repeat walk_at "g"
    refine ⟨_, x, rfl, hx, ?_⟩
    repeat walk_at "g"
    refine i_ite (fun h1 => ?_) (fun h1 => ?_)
    · cases x with
      | tg s n =>
        obtain ⟨a, b, rfl, ha, hb⟩ := tgAt hx
        repeat walk_at "g"
        refine i_IxT ha.sqt (atI_nat (j := 1) rfl) ?_
        exact q _ (fun z => by rw [h1] at z; cases z) fun s' n' e _ => by cases e; exact hb
      | _ => simp [okRef] at h1
    · repeat walk_at "g"
      exact q _ (fun _ => rfl) fun s n e z => by rw [h1] at z; cases z
def spIsValue (K : PySem.W.Frag) : Sp := fun vs H Q _ => ∃ (v : V) (x : Va), vs = [v] ∧ DtAt K H v (vaD x) ∧ smallVa x ∧ ∀ H1, Stp [] H H1 → Q (.bl (okVa x)) H1
theorem cal_is_value (F : Df K mg d_is_value) (B : Blt mg) (N : Con0 mg) (C_has_plain_letters : Cal P w K mg base lv_has_plain_letters "_has_plain_letters" ["text"] spPlain) (C_is_reference : Cal P w K mg base lv_is_reference "is_reference" ["value"] (spIsRef K)) : Cal P w K mg base lv_is_value "is_value" ["value"] (spIsValue K) := by
  obtain ⟨f, fd, F, g⟩ := F
  refine ⟨f, fd, F.ok sc_is_value (fun vs H Q E h => ?_) (fun cdv A outer s H vs Q E hr h => ⟨_, PSs.nox
    (pss_cons (ps_if (pt_cmpR op_isN (pv 0) pe_non (nomark _))
      (pss_one (ps_ret pe_bl))
      pss_nil)
    (pss_cons (ps_if (pt_val (pe_callB call_isi (by rfl) B.isinstance (by decide +kernel) (pa_cons (pv 0) (pa_cons (pe_bltn (v := .ty "int") (by rfl) B.int (by decide +kernel) rfl) pa_nil))))
      (pss_one (ps_ret (pe_chain op_le op_le (pe_gi rfl N.LEAST_INTEGER) (pv 0) (pe_gi rfl N.GREATEST_INTEGER))))
      pss_nil)
    (pss_cons (ps_if (pt_val (pe_callB call_isi (by rfl) B.isinstance (by decide +kernel) (pa_cons (pv 0) (pa_cons (pe_bltn (v := .ty "str") (by rfl) B.str (by decide +kernel) rfl) pa_nil))))
      (pss_one (ps_ret (pe_and (pe_cmpR op_le (pe_callB call_len_str (by rfl) B.len boot_len (pa_cons (pv 0) pa_nil)) (pe_gi rfl N.LONGEST_TEXT) (nomark _)) (pe_one (pc_call C_has_plain_letters (hr.mono (by decide)) (by rfl) (pa_cons (pv 0) pa_nil))))))
      pss_nil)
    (pss_one (ps_ret (pc_call C_is_reference (hr.mono (by decide)) (by rfl) (pa_cons (pv 0) pa_nil))))))), ?_⟩), g, F.kp, F.bindsN fun _ _ _ _ _ _ us hl => match us, hl with | [_], _ => rfl⟩
  · obtain ⟨v, n, rfl, _⟩ := h
    rfl
  · obtain ⟨v, x, rfl, hx, hsm, q⟩ := h
    repeat walk_at "g"
    refine ⟨rfl, ?_⟩
    repeat walk_at "g"
    cases x with
    | non =>
      obtain rfl := nonAt hx
      refine iteT ?_
      exact q H (.refl H)
    | num i =>
      obtain rfl := numAt hx
      refine iteF ?_
      repeat walk_at "g"
      refine i_Isi "int" true hx ?_
      repeat walk_at "g"
      refine iteT ?_
      repeat walk_at "g"
      exact q H (.refl H)
    | txt z =>
      obtain rfl := txtAt hx
      refine iteF ?_
      repeat walk_at "g"
      refine i_Isi "str" false hx ?_
      repeat walk_at "g"
      refine iteF ?_
      repeat walk_at "g"
      refine i_Isi "str" true hx ?_
      repeat walk_at "g"
      refine iteT ?_
      repeat walk_at "g"
      refine ⟨z, rfl, Nat.le_of_lt (small1000 hsm), ?_⟩
      repeat walk_at "g"
      refine i_ite (fun h1 => ?_) (fun h1 => ?_)
      · repeat walk_at "g"
        refine ⟨z, rfl, hsm, fun H1 s1 => ?_⟩
        exact qbl (q H1 s1) (by simp only [okVa, h1, Bool.true_and])
      · exact qbl (q H (.refl H)) (by simp only [okVa, h1, Bool.false_and])
    | tg s n =>
      obtain ⟨a, b, rfl, ha, hb⟩ := tgAt hx
      refine iteF ?_
      repeat walk_at "g"
      refine i_Isi "tuple" false hx ?_
      repeat walk_at "g"
      refine iteF ?_
      repeat walk_at "g"
      refine i_Isi "tuple" false hx ?_
      repeat walk_at "g"
      refine iteF ?_
      repeat walk_at "g"
      refine ⟨_, _, rfl, hx, ?_⟩
      exact q H (.refl H)
end

/-! ### stamps, changes -/
structure Con1 (mg : Str → Option Value) : Prop where
  GREATEST_CLOCK : ∃ t, mg "GREATEST_CLOCK" = some (.int 4294967295 t)
def okStamp (n : Nm) : Bool := (decide (1 ≤ n.1) && decide (n.1 ≤ 4294967295)) && okPeer n.2
structure Ch where
  st : Nm
  nm : Nm
  fd : Str
  va : Va
  deriving DecidableEq
def chD (c : Ch) : Dt := .tup [nmD c.st, nmD c.nm, .txt c.fd, vaD c.va]
theorem chD_flat (c : Ch) : (chD c).flat = true := by simp [chD, Dt.flat, Dt.flatAll, vaD_flat]
theorem chD_pure (c : Ch) : (chD c).pure = true := by simp [chD, Dt.pure, Dt.pureAll, vaD_pure]
theorem chD_depth (c : Ch) : (chD c).depth ≤ 3 := by
  have := vaD_depth c.va
  simp [chD, Dt.depth, Dt.depthAll]; omega
theorem chD_inj {a b : Ch} (h : chD a = chD b) : a = b := by
  obtain ⟨s1, n1, f1, v1⟩ := a
  obtain ⟨s2, n2, f2, v2⟩ := b
  simp only [chD, Dt.tup.injEq, List.cons.injEq, and_true, Dt.num.injEq, Dt.txt.injEq] at h
  obtain ⟨⟨h1, h2⟩, ⟨h3, h4⟩, h5, h6⟩ := h
  have e1 : s1 = s2 := Prod.ext h1 h2
  have e2 : n1 = n2 := Prod.ext h3 h4
  rw [e1, e2, h5, vaD_inj h6]
theorem chAt {K : PySem.W.Frag} {H : Hp} {v : V} {c : Ch} (h : DtAt K H v (chD c)) : ∃ a s n x, v = .ref a ∧ TupAt K H a [s, n, .str c.fd, x] ∧ DtAt K H s (nmD c.st) ∧ DtAt K H n (nmD c.nm) ∧ DtAt K H x (vaD c.va) := by
  cases h with
  | @tup a xs _ h1 h2 =>
    cases h2 with
    | cons r1 t =>
      cases t with
      | cons r2 t =>
        cases t with
        | cons r3 t =>
          cases t with
          | cons r4 t =>
            cases t
            cases r3
            exact ⟨a, _, _, _, rfl, h1, r1, r2, r4⟩
theorem ch_mk {K : PySem.W.Frag} {H : Hp} {a : Addr} {s n x : V} {c : Ch} (h : TupAt K H a [s, n, .str c.fd, x]) (h1 : DtAt K H s (nmD c.st)) (h2 : DtAt K H n (nmD c.nm)) (h3 : DtAt K H x (vaD c.va)) : DtAt K H (.ref a) (chD c) :=
  .tup h (.cons h1 (.cons h2 (.cons (.txt _) (.cons h3 .nil))))
def okChange (c : Ch) : Bool := okStamp c.st && (okName c.nm && (okField c.fd && okVa c.va))
section
variable {P : Program} {w : World} {K : PySem.W.Frag} {mg : Str → Option Value} {base : Heap}
def spIsStamp (K : PySem.W.Frag) : Sp := fun vs H Q _ => ∃ (v : V) (n : Nm), vs = [v] ∧ DtAt K H v (nmD n) ∧ Q (.bl (okStamp n)) H
theorem cal_is_stamp (F : Df K mg d_is_stamp) (N : Con1 mg) (C_is_peer : Cal P w K mg base lv_is_peer "is_peer" ["number"] spIsPeer) : Cal P w K mg base lv_is_stamp "is_stamp" ["stamp"] (spIsStamp K) := by
  obtain ⟨f, fd, F, g⟩ := F
  refine ⟨f, fd, F.ok sc_is_stamp (fun vs H Q E h => ?_) (fun cdv A outer s H vs Q E hr h => ⟨_, PSs.nox
    (pss_cons (ps_asg (pv 0) (pg_tup (by rfl) (pgs_cons (pg_name (i := 1) sc_is_stamp.nd rfl (Or.inl rfl)) (pgs_cons (pg_name (i := 2) sc_is_stamp.nd rfl (Or.inl rfl)) pgs_nil))))
    (pss_one (ps_ret (pe_and (pe_chain op_le op_le pe_int (pv 1) (pe_gi rfl N.GREATEST_CLOCK)) (pe_one (pc_call C_is_peer (hr.mono (by decide)) (by rfl) (pa_cons (pv 2) pa_nil))))))), ?_⟩), g, F.kp, F.bindsN fun _ _ _ _ _ _ us hl => match us, hl with | [_], _ => rfl⟩
  · obtain ⟨v, n, rfl, _⟩ := h
    rfl
  · obtain ⟨v, n, rfl, hn, q⟩ := h
    obtain ⟨a, rfl, ha⟩ := nmAt hn
    repeat walk_at "g"
    refine i_gTup ha.sqt rfl ?_
    repeat walk_at "g"
    refine i_ite (fun h1 => ?_) (fun h1 => ?_)
    · repeat walk_at "g"
      exact ⟨_, rfl, qbl q (by simp only [okStamp, h1, Bool.true_and])⟩
    · exact qbl q (by simp only [okStamp, h1, Bool.false_and])
def spIsChange (K : PySem.W.Frag) : Sp := fun vs H Q _ => ∃ (v : V) (c : Ch), vs = [v] ∧ DtAt K H v (chD c) ∧ c.fd.length ≤ 1000 ∧ smallVa c.va ∧ ∀ H1, Stp [] H H1 → Q (.bl (okChange c)) H1
theorem cal_is_change (F : Df K mg d_is_change) (C_is_stamp : Cal P w K mg base lv_is_stamp "is_stamp" ["stamp"] (spIsStamp K)) (C_is_name : Cal P w K mg base lv_is_name "is_name" ["name"] (spIsName K)) (C_is_field : Cal P w K mg base lv_is_field "is_field" ["text"] spIsField) (C_is_value : Cal P w K mg base lv_is_value "is_value" ["value"] (spIsValue K)) : Cal P w K mg base lv_is_change "is_change" ["change"] (spIsChange K) := by
  obtain ⟨f, fd, F, g⟩ := F
  refine ⟨f, fd, F.ok sc_is_change (fun vs H Q E h => ?_) (fun cdv A outer s H vs Q E hr h => ⟨_, PSs.nox
    (pss_cons (ps_asg (pv 0) (pg_tup (by rfl) (pgs_cons (pg_name (i := 1) sc_is_change.nd rfl (Or.inl rfl)) (pgs_cons (pg_name (i := 2) sc_is_change.nd rfl (Or.inl rfl)) (pgs_cons (pg_name (i := 3) sc_is_change.nd rfl (Or.inl rfl)) (pgs_cons (pg_name (i := 4) sc_is_change.nd rfl (Or.inl rfl)) pgs_nil))))))
    (pss_one (ps_ret (pe_and (pc_call C_is_stamp (hr.mono (by decide)) (by rfl) (pa_cons (pv 1) pa_nil)) (pe_and (pc_call C_is_name (hr.mono (by decide)) (by rfl) (pa_cons (pv 2) pa_nil)) (pe_and (pc_call C_is_field (hr.mono (by decide)) (by rfl) (pa_cons (pv 3) pa_nil)) (pe_one (pc_call C_is_value (hr.mono (by decide)) (by rfl) (pa_cons (pv 4) pa_nil))))))))), ?_⟩), g, F.kp, F.bindsN fun _ _ _ _ _ _ us hl => match us, hl with | [_], _ => rfl⟩
  · obtain ⟨v, n, rfl, _⟩ := h
    rfl
  · obtain ⟨v, c, rfl, hc, hf, hv, q⟩ := h
    obtain ⟨a, s, n, x, rfl, ha, hs, hn, hx⟩ := chAt hc
    repeat walk_at "g"
    refine i_gTup ha.sqt rfl ?_
    repeat walk_at "g"
    refine ⟨_, _, rfl, hs, ?_⟩
    refine i_blV (i_ite (fun h1 => ?_) (fun h1 => ?_))
    · repeat walk_at "g"
      refine ⟨_, _, rfl, hn, ?_⟩
      refine i_blV (i_ite (fun h2 => ?_) (fun h2 => ?_))
      · repeat walk_at "g"
        refine ⟨_, rfl, hf, fun H1 s1 => ?_⟩
        refine i_blV (i_ite (fun h3 => ?_) (fun h3 => ?_))
        · repeat walk_at "g"
          refine ⟨_, _, rfl, DtAt.stp s1 _ _ (vaD_flat _) hx, hv, fun H2 s2 => ?_⟩
          exact qbl (q H2 (s1.trans s2)) (by simp only [okChange, h1, h2, h3, Bool.true_and])
        · exact qbl (q H1 s1) (by simp only [okChange, h1, h2, h3, Bool.true_and, Bool.false_and])
      · exact qbl (q H (.refl H)) (by simp only [okChange, h1, h2, Bool.true_and, Bool.false_and])
    · exact qbl (q H (.refl H)) (by simp only [okChange, h1, Bool.false_and])
end

/-! ### drawn names, fields, values -/
section
variable {P : Program} {w : World} {K : PySem.W.Frag} {mg : Str → Option Value} {base : Heap}
/-- the names that are drawn -/
def drawnNm (n : Nm) : Prop := (0 ≤ n.1 ∧ n.1 < 3) ∧ (0 ≤ n.2 ∧ n.2 < 3)
def spName (K : PySem.W.Frag) : Sp := fun vs H Q _ => ∃ (b dg : Addr), vs = [.ref b] ∧ Box K b dg H ∧
  ∀ (v : V) (n : Nm) (H1 : Hp), drawnNm n → DtAt K H1 v (nmD n) → Stp [b] H H1 → Box K b dg H1 → Q v H1
theorem cal_name (F : Df K mg d_law_name) (C_law_draw : Cal P w K mg base lv_law_draw "_law_draw" ["box", "many"] (spDraw K)) : Cal P w K mg base lv_law_name "_law_name" ["box"] (spName K) := by
  obtain ⟨f, fd, F, g⟩ := F
  refine ⟨f, fd, F.ok sc_law_name (fun vs H Q E h => ?_) (fun cdv A outer s H vs Q E hr h => ⟨_, PSs.nox
    (pss_one (ps_ret (pe_tup (pa_cons (pc_call C_law_draw (hr.mono (by decide)) (by rfl) (pa_cons (pv 0) (pa_cons pe_int pa_nil))) (pa_cons (pc_call C_law_draw (hr.mono (by decide)) (by rfl) (pa_cons (pv 0) (pa_cons pe_int pa_nil))) pa_nil))))), ?_⟩), g, F.kp, F.bindsN fun _ _ _ _ _ _ us hl => match us, hl with | [_], _ => rfl⟩
  · obtain ⟨b, dg, rfl, _⟩ := h
    rfl
  · obtain ⟨b, dg, rfl, hb, q⟩ := h
    repeat walk_at "g"
    refine ⟨b, dg, 3, rfl, by decide, hb, fun x H1 x0 x1 s1 b1 => ?_⟩
    repeat walk_at "g"
    refine ⟨b, dg, 3, rfl, by decide, b1, fun y H2 y0 y1 s2 b2 => ?_⟩
    repeat walk_at "g"
    refine ⟨(by decide : 2 ≤ sizeLine), fun p hp => ?_⟩
    have s3 : Stp [] H2 (upd H2 p (.tup [.int x, .int y])) := .new hp
    exact q _ (x, y) _ ⟨⟨x0, x1⟩, y0, y1⟩ (nm_mk upd_same) ((s1.trans s2).trans (s3.mono (by simp))) (b2.grow s3)
/-- an item of a written list at a drawn place -/
theorem pick {xs : List V} {d : Int} (h0 : 0 ≤ d) (h1 : d < (xs.length : Int)) : ∃ v, atI xs d = some v ∧ v ∈ xs := by
  have hl : d.toNat < xs.length := by omega
  exact ⟨xs[d.toNat], at_of (j := d.toNat) (by omega) (List.getElem?_eq_getElem hl), List.getElem_mem hl⟩
def fieldsV : List Str := [Str.ofString "a", Str.ofString "b", Str.ofString "ab", Str.ofString "next", Str.ofString "zzzzzzzz"]
def spField (K : PySem.W.Frag) : Sp := fun vs H Q _ => ∃ (b dg : Addr), vs = [.ref b] ∧ Box K b dg H ∧
  ∀ (z : Str) (H1 : Hp), z ∈ fieldsV → Stp [b] H H1 → Box K b dg H1 → Q (.str z) H1
theorem cal_field (F : Df K mg d_law_field) (C_law_draw : Cal P w K mg base lv_law_draw "_law_draw" ["box", "many"] (spDraw K)) : Cal P w K mg base lv_law_field "_law_field" ["box"] (spField K) := by
  obtain ⟨f, fd, F, g⟩ := F
  refine ⟨f, fd, F.ok sc_law_field (fun vs H Q E h => ?_) (fun cdv A outer s H vs Q E hr h => ⟨_, PSs.nox
    (pss_one (ps_ret (pe_ix ix_list (pe_lst (pa_cons pe_str (pa_cons pe_str (pa_cons pe_str (pa_cons pe_str (pa_cons pe_str pa_nil)))))) (pc_call C_law_draw (hr.mono (by decide)) (by rfl) (pa_cons (pv 0) (pa_cons pe_int pa_nil))) (fun _ _ => rfl)))), ?_⟩), g, F.kp, F.bindsN fun _ _ _ _ _ _ us hl => match us, hl with | [_], _ => rfl⟩
  · obtain ⟨b, dg, rfl, _⟩ := h
    rfl
  · obtain ⟨b, dg, rfl, hb, q⟩ := h
    repeat walk_at "g"
    refine ⟨(by decide : 5 ≤ sizeLine), fun p hp => ?_⟩
    have s0 : Stp [] H (upd H p (.lst (fieldsV.map V.str))) := .new hp
    repeat walk_at "g"
    refine ⟨b, dg, 5, rfl, by decide, hb.grow s0, fun x H1 x0 x1 s1 b1 => ?_⟩
    have pb : p ∉ [b] := by
      obtain ⟨⟨z, e, _⟩, _, _⟩ := hb
      simp
      exact fun z => by rw [z, e] at hp; cases hp
    have hl : H1 p = some (.lst (fieldsV.map V.str)) := s1.keep _ _ upd_same pb
    obtain ⟨v, hv, hm⟩ := pick (xs := fieldsV.map V.str) x0 (by simpa [fieldsV] using x1)
    obtain ⟨z, hz, rfl⟩ := List.mem_map.mp hm
    refine i_IxL (SqL.of hl) hv ?_
    exact q z H1 hz ((s0.mono (by simp)).trans s1) b1
def numsV : List Int := [0, -1, 7, 1000000, -1000000, 255, 256]
def textsV : List Str := [Str.ofString "", Str.ofString "x", Str.ofString "abz", Str.ofString "abcdefghijklmnopqrst"]
/-- the values that are drawn -/
def drawnVa : Va → Prop
  | .non => True
  | .num i => i ∈ numsV
  | .txt z => z ∈ textsV
  | .tg s n => s = strRef ∧ drawnNm n
def spWorth (K : PySem.W.Frag) : Sp := fun vs H Q _ => ∃ (b dg : Addr), vs = [.ref b] ∧ Box K b dg H ∧
  ∀ (v : V) (x : Va) (H1 : Hp), drawnVa x → DtAt K H1 v (vaD x) → Stp [b] H H1 → Box K b dg H1 → Q v H1
theorem cal_worth (F : Df K mg d_law_worth) (C_law_draw : Cal P w K mg base lv_law_draw "_law_draw" ["box", "many"] (spDraw K)) (C_law_name : Cal P w K mg base lv_law_name "_law_name" ["box"] (spName K)) : Cal P w K mg base lv_law_worth "_law_worth" ["box"] (spWorth K) := by
  obtain ⟨f, fd, F, g⟩ := F
  refine ⟨f, fd, F.ok sc_law_worth (fun vs H Q E h => ?_) (fun cdv A outer s H vs Q E hr h => ⟨_, PSs.nox
    (pss_cons (ps_set (i := 1) sc_law_worth.nd rfl (Or.inl rfl) (pc_call C_law_draw (hr.mono (by decide)) (by rfl) (pa_cons (pv 0) (pa_cons pe_int pa_nil))))
    (pss_cons (ps_if (pt_cmpR op_eq (pv 1) pe_int (nomark _))
      (pss_one (ps_ret pe_non))
      pss_nil)
    (pss_cons (ps_if (pt_cmpR op_eq (pv 1) pe_int (nomark _))
      (pss_one (ps_ret (pe_ix ix_list (pe_lst (pa_cons pe_int (pa_cons (pe_un un_neg pe_int) (pa_cons pe_int (pa_cons pe_int (pa_cons (pe_un un_neg pe_int) (pa_cons pe_int (pa_cons pe_int pa_nil)))))))) (pc_call C_law_draw (hr.mono (by decide)) (by rfl) (pa_cons (pv 0) (pa_cons pe_int pa_nil))) (fun _ _ => rfl))))
      pss_nil)
    (pss_cons (ps_if (pt_cmpR op_eq (pv 1) pe_int (nomark _))
      (pss_one (ps_ret (pe_ix ix_list (pe_lst (pa_cons pe_str (pa_cons pe_str (pa_cons pe_str (pa_cons pe_str pa_nil))))) (pc_call C_law_draw (hr.mono (by decide)) (by rfl) (pa_cons (pv 0) (pa_cons pe_int pa_nil))) (fun _ _ => rfl))))
      pss_nil)
    (pss_one (ps_ret (pe_tup (pa_cons pe_str (pa_cons (pc_call C_law_name (hr.mono (by decide)) (by rfl) (pa_cons (pv 0) pa_nil)) pa_nil))))))))), ?_⟩), g, F.kp, F.bindsN fun _ _ _ _ _ _ us hl => match us, hl with | [_], _ => rfl⟩
  · obtain ⟨b, dg, rfl, _⟩ := h
    rfl
  · obtain ⟨b, dg, rfl, hb, q⟩ := h
    have nb : ∀ {p : Addr}, H p = none → p ∉ [b] := fun {p} hp => by
      obtain ⟨⟨z, e, _⟩, _, _⟩ := hb
      simp
      exact fun z => by rw [z, e] at hp; cases hp
    repeat walk_at "g"
    refine ⟨b, dg, 6, rfl, by decide, hb, fun k H1 k0 k1 s1 b1 => ?_⟩
    have nb1 : ∀ {p : Addr}, H1 p = none → p ∉ [b] := fun {p} hp => by
      obtain ⟨⟨z, e, _⟩, _, _⟩ := b1
      simp
      exact fun z => by rw [z, e] at hp; cases hp
    repeat walk_at "g"
    refine i_iteD (fun h1 => ?_) (fun h1 => ?_)
    · repeat walk_at "g"
      exact q _ .non H1 trivial .non s1 b1
    · repeat walk_at "g"
      refine i_iteD (fun h2 => ?_) (fun h2 => ?_)
      · repeat walk_at "g"
        refine ⟨(by decide : 7 ≤ sizeLine), fun p hp => ?_⟩
        have s2 : Stp [] H1 (upd H1 p (.lst (numsV.map V.int))) := .new hp
        repeat walk_at "g"
        refine ⟨b, dg, 7, rfl, by decide, b1.grow s2, fun x H2 x0 x1 s3 b3 => ?_⟩
        have hl : H2 p = some (.lst (numsV.map V.int)) := s3.keep _ _ upd_same (nb1 hp)
        obtain ⟨v, hv, hm⟩ := pick (xs := numsV.map V.int) x0 (by simpa [numsV] using x1)
        obtain ⟨i, hi, rfl⟩ := List.mem_map.mp hm
        refine i_IxL (SqL.of hl) hv ?_
        exact q _ (.num i) H2 hi (.num _) ((s1.trans (s2.mono (by simp))).trans s3) b3
      · repeat walk_at "g"
        refine i_iteD (fun h3 => ?_) (fun h3 => ?_)
        · repeat walk_at "g"
          refine ⟨(by decide : 4 ≤ sizeLine), fun p hp => ?_⟩
          have s2 : Stp [] H1 (upd H1 p (.lst (textsV.map V.str))) := .new hp
          repeat walk_at "g"
          refine ⟨b, dg, 4, rfl, by decide, b1.grow s2, fun x H2 x0 x1 s3 b3 => ?_⟩
          have hl : H2 p = some (.lst (textsV.map V.str)) := s3.keep _ _ upd_same (nb1 hp)
          obtain ⟨v, hv, hm⟩ := pick (xs := textsV.map V.str) x0 (by simpa [textsV] using x1)
          obtain ⟨z, hz, rfl⟩ := List.mem_map.mp hm
          refine i_IxL (SqL.of hl) hv ?_
          exact q _ (.txt z) H2 hz (.txt _) ((s1.trans (s2.mono (by simp))).trans s3) b3
        · repeat walk_at "g"
          refine ⟨b, dg, rfl, b1, fun v n H2 hn hv s2 b2 => ?_⟩
          repeat walk_at "g"
          refine ⟨(by decide : 2 ≤ sizeLine), fun p hp => ?_⟩
          have s3 : Stp [] H2 (upd H2 p (.tup [.str strRef, v])) := .new hp
          exact q _ (.tg strRef n) _ ⟨rfl, hn⟩ (.tup (.inl upd_same) (.cons (.txt _) (.cons (DtAt.stp s3 _ _ rfl hv) .nil))) ((s1.trans s2).trans (s3.mono (by simp))) (b2.grow s3)
end

/-! ### the law -/
theorem cutS_pre {z : Str} {l : List Nat} {m : Int} (e : z.cps.toList = l) (h0 : 0 ≤ m) (h1 : m ≤ (l.length : Int)) : (cutS z none (some m)).cps.toList = l.take m.toNat := by
  have hl : z.length = l.length := by rw [← e]; simp [Str.length]
  obtain ⟨k, rfl⟩ : ∃ k : Nat, m = (k : Int) := ⟨m.toNat, by omega⟩
  have hk : k ≤ l.length := by omega
  unfold cutS
  simp only [HT.sIx_none, HT.sIx_nat, hl, e, List.drop_zero, Nat.sub_zero, Int.toNat_natCast, Nat.min_eq_left hk]
theorem cutS_suf {z : Str} {l : List Nat} {m : Int} (e : z.cps.toList = l) (h0 : 0 ≤ m) (h1 : m ≤ (l.length : Int)) : (cutS z (some m) none).cps.toList = l.drop m.toNat := by
  have hl : z.length = l.length := by rw [← e]; simp [Str.length]
  obtain ⟨k, rfl⟩ : ∃ k : Nat, m = (k : Int) := ⟨m.toNat, by omega⟩
  have hk : k ≤ l.length := by omega
  unfold cutS
  simp only [HT.sIx_none, HT.sIx_nat, hl, e, Int.toNat_natCast, Nat.min_eq_left hk]
  rw [List.take_of_length_le (by simp)]
def baseL : List Nat := (List.range 24).map (· + 97)
theorem base_eq : (Str.ofString "abcdefghijklmnopqrstuvwx").cps.toList = baseL := by decide +kernel
theorem base_plain (m : Nat) : (baseL.take m).all plainC = true :=
  List.all_eq_true.mpr fun c hc => (show ∀ c ∈ baseL, plainC c = true by decide) c (List.mem_of_mem_take hc)
theorem len_list (z : Str) : (z.length : Int) = (z.cps.toList.length : Int) := by simp [Str.length]
def dueD : Va → Dt
  | .tg _ n => nmD n
  | _ => .non
section
variable {P : Program} {w : World} {K : PySem.W.Frag} {mg : Str → Option Value} {base : Heap}
theorem Box.nin {b dg p : Addr} {H : Hp} (B : Box K b dg H) (hp : H p = none) : p ∉ [b] := by
  obtain ⟨⟨z, e, _⟩, _, _⟩ := B
  simp
  exact fun z => by rw [z, e] at hp; cases hp
def spLaw (K : PySem.W.Frag) : Sp := fun vs H Q _ => ∃ (a : Addr) (ns : List Int), vs = [.ref a] ∧ SqL K H a (ns.map V.int) ∧ ∀ H', Q (.bl true) H'
theorem ok_law {f : Addr} {fd : FuncData} (F : FunD K d_law.name d_law.qual d_law.params d_law.body d_law.scope [] [] f fd) (B : Blt mg) (C_law_digits : Cal P w K mg base lv_law_digits "_law_digits" ["script", "first", "last"] (spDigits K)) (C_law_draw : Cal P w K mg base lv_law_draw "_law_draw" ["box", "many"] (spDraw K)) (C_law_name : Cal P w K mg base lv_law_name "_law_name" ["box"] (spName K)) (C_law_worth : Cal P w K mg base lv_law_worth "_law_worth" ["box"] (spWorth K))
    (C_is_name : Cal P w K mg base lv_is_name "is_name" ["name"] (spIsName K)) (C_is_stamp : Cal P w K mg base lv_is_stamp "is_stamp" ["stamp"] (spIsStamp K)) (C_is_field : Cal P w K mg base lv_is_field "is_field" ["text"] spIsField) (C_is_value : Cal P w K mg base lv_is_value "is_value" ["value"] (spIsValue K)) (C_is_change : Cal P w K mg base lv_is_change "is_change" ["change"] (spIsChange K))
    (C_reference : Cal P w K mg base lv_reference "reference" ["name"] (spReference K)) (C_target_of : Cal P w K mg base lv_target_of "target_of" ["value"] (spTarget K)) (C_is_reference : Cal P w K mg base lv_is_reference "is_reference" ["value"] (spIsRef K))
    (ro : Addr) (hROOT : mg "ROOT" = some (.ref ro)) (tro : ∀ H, TupAt K H ro [.int 0, .int 0]) : FnOk P w K mg base CX0 lv_law f fd ["script"] (spLaw K) := by
  refine F.ok sc_law (fun vs H Q E h => ?_) (fun cdv A outer s H vs Q E hr h => ⟨_, PSs.nox
    (pss_cons (ps_set (i := 1) sc_law.nd rfl (Or.inl rfl) (pe_lst (pa_cons (pc_call C_law_digits (hr.mono (by decide)) (by rfl) (pa_cons (pv 0) (pa_cons pe_int (pa_cons pe_int pa_nil)))) (pa_cons pe_int pa_nil))))
    (pss_cons (ps_for PassesOwn.never rfl (pi_range1 rfl B.range (pa_cons pe_int pa_nil)) (pg_name (i := 2) sc_law.nd rfl (Or.inl rfl))
      (pss_cons (ps_set (i := 3) sc_law.nd rfl (Or.inl rfl) (pe_op op_sub (pc_call C_law_draw (hr.mono (by decide)) (by rfl) (pa_cons (pv 1) (pa_cons pe_int pa_nil))) pe_int))
        (pss_cons (ps_set (i := 4) sc_law.nd rfl (Or.inl rfl) (pe_ix ix_list (pe_lst (pa_cons (pe_un un_neg pe_int) (pa_cons pe_int (pa_cons pe_int (pa_cons pe_int (pa_cons pe_int pa_nil)))))) (pc_call C_law_draw (hr.mono (by decide)) (by rfl) (pa_cons (pv 1) (pa_cons pe_int pa_nil))) (fun _ _ => rfl)))
        (pss_cons (ps_set (i := 5) sc_law.nd rfl (Or.inl rfl) (pe_and (pe_chain op_le op_lt pe_int (pv 3) pe_int) (pe_one (pe_chain op_le op_lt pe_int (pv 4) pe_int))))
        (pss_cons (ps_if (pt_cmpR op_ne (pc_call C_is_name (hr.mono (by decide)) (by rfl) (pa_cons (pe_tup (pa_cons (pv 3) (pa_cons (pv 4) pa_nil))) pa_nil)) (pv 5) (nomark _))
          (pss_one (ps_ret pe_bl))
          pss_nil)
        (pss_cons (ps_set (i := 6) sc_law.nd rfl (Or.inl rfl) (pe_ix ix_list (pe_lst (pa_cons pe_int (pa_cons pe_int (pa_cons pe_int (pa_cons pe_int (pa_cons pe_int pa_nil)))))) (pc_call C_law_draw (hr.mono (by decide)) (by rfl) (pa_cons (pv 1) (pa_cons pe_int pa_nil))) (fun _ _ => rfl)))
        (pss_cons (ps_set (i := 7) sc_law.nd rfl (Or.inl rfl) (pe_and (pe_chain op_le op_lt pe_int (pv 6) pe_int) (pe_one (pe_chain op_le op_lt pe_int (pv 3) pe_int))))
        (pss_cons (ps_if (pt_cmpR op_ne (pc_call C_is_stamp (hr.mono (by decide)) (by rfl) (pa_cons (pe_tup (pa_cons (pv 6) (pa_cons (pv 3) pa_nil))) pa_nil)) (pv 7) (nomark _))
          (pss_one (ps_ret pe_bl))
          pss_nil)
        (pss_cons (ps_set (i := 8) sc_law.nd rfl (Or.inl rfl) (pc_call C_law_draw (hr.mono (by decide)) (by rfl) (pa_cons (pv 1) (pa_cons pe_int pa_nil))))
        (pss_cons (ps_set (i := 9) sc_law.nd rfl (Or.inl rfl) (pe_slice sl_str pe_str po_none (po_some (pv 8))))
        (pss_cons (ps_set (i := 10) sc_law.nd rfl (Or.inl rfl) (pe_or (pe_cmpR op_gt (pc_call C_law_draw (hr.mono (by decide)) (by rfl) (pa_cons (pv 1) (pa_cons pe_int pa_nil))) pe_int (nomark _)) (pe_one (pe_cmpR op_eq (pv 8) pe_int (nomark _)))))
        (C8.pss_cut (ps_if (pt_not (pt_val (pv 10)))
          (pss_cons (ps_set (i := 11) sc_law.nd rfl (Or.inl rfl) (pc_call C_law_draw (hr.mono (by decide)) (by rfl) (pa_cons (pv 1) (pa_cons (pv 8) pa_nil))))
            (pss_one (ps_set (i := 9) sc_law.nd rfl (Or.inl rfl) (pe_op op_add_str (pe_op op_add_str (pe_slice sl_str (pv 9) po_none (po_some (pv 11))) (pe_ix ix_str pe_str (pc_call C_law_draw (hr.mono (by decide)) (by rfl) (pa_cons (pv 1) (pa_cons pe_int pa_nil))) (fun _ _ => rfl))) (pe_slice sl_str (pv 9) (po_some (pe_op op_add (pv 11) pe_int)) po_none)))))
          pss_nil)
        (pss_cons (ps_if (PW.pt (pw_or (pt_cmpR op_ne (pc_call C_is_field (hr.mono (by decide)) (by rfl) (pa_cons (pv 9) pa_nil)) (pe_and (pv 10) (pe_one (pe_chain op_le op_le pe_int (pv 8) pe_int))) (nomark _)) (pw_or1 (pt_cmpR op_ne (pc_call C_is_value (hr.mono (by decide)) (by rfl) (pa_cons (pv 9) pa_nil)) (pe_and (pv 10) (pe_one (pe_cmpR op_le (pv 8) pe_int (nomark _)))) (nomark _)))))
          (pss_one (ps_ret pe_bl))
          pss_nil)
        (pss_cons (ps_set (i := 12) sc_law.nd rfl (Or.inl rfl) (pe_ix ix_list (pe_lst (pa_cons (pe_un un_neg pe_int) (pa_cons (pe_un un_neg pe_int) (pa_cons pe_int (pa_cons pe_int (pa_cons pe_int pa_nil)))))) (pc_call C_law_draw (hr.mono (by decide)) (by rfl) (pa_cons (pv 1) (pa_cons pe_int pa_nil))) (fun _ _ => rfl)))
        (pss_cons (ps_if (PW.pt (pw_or (pt_cmpR op_ne (pc_call C_is_value (hr.mono (by decide)) (by rfl) (pa_cons (pv 12) pa_nil)) (pe_chain op_le op_le (pe_un un_neg pe_int) (pv 12) pe_int) (nomark _)) (pw_or1 (pt_cmpR op_ne (pc_call C_is_value (hr.mono (by decide)) (by rfl) (pa_cons (pe_tup (pa_cons pe_str (pa_cons (pe_tup (pa_cons (pv 3) (pa_cons (pv 4) pa_nil))) pa_nil))) pa_nil)) (pv 5) (nomark _)))))
          (pss_one (ps_ret pe_bl))
          pss_nil)
        (pss_cons (ps_if (PW.pt (pw_or (pt_val (pc_call C_is_value (hr.mono (by decide)) (by rfl) (pa_cons (pe_tup (pa_cons pe_str (pa_cons (pe_tup (pa_cons pe_int (pa_cons pe_int pa_nil))) pa_nil))) pa_nil))) (pw_or1 (pt_not (pt_val (pc_call C_is_value (hr.mono (by decide)) (by rfl) (pa_cons pe_non pa_nil)))))))
          (pss_one (ps_ret pe_bl))
          pss_nil)
        (pss_cons (ps_set (i := 13) sc_law.nd rfl (Or.inl rfl) (pe_tup (pa_cons (pe_tup (pa_cons (pv 6) (pa_cons (pv 3) pa_nil))) (pa_cons (pe_tup (pa_cons pe_int (pa_cons pe_int pa_nil))) (pa_cons (pv 9) (pa_cons (pv 12) pa_nil))))))
        (pss_one (ps_if (pt_cmpR op_ne (pc_call C_is_change (hr.mono (by decide)) (by rfl) (pa_cons (pv 13) pa_nil)) (pe_and (pv 7) (pe_and (pv 10) (pe_and (pe_chain op_le op_le pe_int (pv 8) pe_int) (pe_one (pe_chain op_le op_le (pe_un un_neg pe_int) (pv 12) pe_int))))) (nomark _))
          (pss_one (ps_ret pe_bl))
          pss_nil)))))))))))))))))))
    (pss_cons (ps_set (i := 14) sc_law.nd rfl (Or.inl rfl) (pc_call C_law_name (hr.mono (by decide)) (by rfl) (pa_cons (pv 1) pa_nil)))
    (pss_cons (ps_set (i := 15) sc_law.nd rfl (Or.inl rfl) (pc_call C_law_worth (hr.mono (by decide)) (by rfl) (pa_cons (pv 1) pa_nil)))
    (pss_cons (ps_set (i := 16) sc_law.nd rfl (Or.inl rfl) pe_non)
    (C8.pss_cut (ps_if (pt_val (pe_callB call_isi (by rfl) B.isinstance (by decide +kernel) (pa_cons (pv 15) (pa_cons (pe_bltn (v := .ty "tuple") (by rfl) B.tuple (by decide +kernel) rfl) pa_nil))))
      (pss_one (ps_set (i := 16) sc_law.nd rfl (Or.inl rfl) (pe_ix ix_tup (pv 15) pe_int (fun _ _ => rfl))))
      pss_nil)
    (pss_cons (ps_if (PW.pt (pw_or (pt_cmpR (op_neT hr.units) (pc_call C_reference (hr.mono (by decide)) (by rfl) (pa_cons (pv 14) pa_nil)) (pe_tup (pa_cons pe_str (pa_cons (pv 14) pa_nil))) (nomark _)) (pw_or (pt_cmpR (op_neT hr.units) (pc_call C_target_of (hr.mono (by decide)) (by rfl) (pa_cons (pc_call C_reference (hr.mono (by decide)) (by rfl) (pa_cons (pv 14) pa_nil)) pa_nil)) (pv 14) (nomark _)) (pw_or1 (pt_cmpR (op_neT hr.units) (pe_gt rfl hROOT) (pe_tup (pa_cons pe_int (pa_cons pe_int pa_nil))) (nomark _))))))
      (pss_one (ps_ret pe_bl))
      pss_nil)
    (pss_one (ps_ret (pe_and (pe_cmpR (op_eqT hr.units) (pc_call C_target_of (hr.mono (by decide)) (by rfl) (pa_cons (pv 15) pa_nil)) (pv 16) (nomark _)) (pe_one (pe_cmpR op_eq (pc_call C_is_reference (hr.mono (by decide)) (by rfl) (pa_cons (pv 15) pa_nil)) (pe_cmpR op_notN (pv 16) pe_non (nomark _)) (nomark _))))))))))))), ?_⟩)
  · obtain ⟨a, ns, rfl, _⟩ := h
    rfl
  · obtain ⟨a, ns, rfl, hs, q⟩ := h
    repeat walk_at "g"
    refine ⟨a, ns, 0, 63, rfl, by decide, by decide, by decide, by decide, hs, fun dg ds H1 n1 h1 s1 => ?_⟩
    repeat walk_at "g"
    refine ⟨(by decide : 2 ≤ sizeLine), fun b hb => ?_⟩
    have B0 : Box K b dg (upd H1 b (.lst [.ref dg, .int 0])) := ⟨⟨0, upd_same, by decide⟩, ⟨ds, (Stp.new (M := []) hb).seq (SqL.of h1) (by simp)⟩, ne_of_none h1 hb⟩
    repeat walk_at "g"
    refine ⟨6, rfl, by decide, by decide, ?_⟩
    refine for_range (lo := 0) (n := 6) (fun i σ H' => (∃ (y2 y3 y4 y5 y6 y7 y8 y9 y10 y11 y12 y13 y14 y15 y16 : Option V), σ = [some (.ref a), some (.ref b), y2, y3, y4, y5, y6, y7, y8, y9, y10, y11, y12, y13, y14, y15, y16]) ∧ Box K b dg H')
      ⟨⟨none, none, none, none, none, none, none, none, none, none, none, none, none, none, none, rfl⟩, B0⟩ ?_ ?_
    · rintro i σ H2 hi ⟨⟨y2, y3, y4, y5, y6, y7, y8, y9, y10, y11, y12, y13, y14, y15, y16, rfl⟩, B2⟩
      repeat walk_at "g"
      refine ⟨b, dg, 11, rfl, by decide, B2, fun d1 H3 l1 u1 _ B3 => ?_⟩
      repeat walk_at "g"
      refine ⟨(by decide : 5 ≤ sizeLine), fun p1 hp1 => ?_⟩
      repeat walk_at "g"
      refine ⟨b, dg, 5, rfl, by decide, B3.grow (.new hp1), fun d2 H4 l2 u2 s4 B4 => ?_⟩
      obtain ⟨v2, hv2, hm2⟩ := pick (xs := ([-1, 0, 5, 4294967295, 4294967296] : List Int).map V.int) l2 (by simpa using u2)
      obtain ⟨ct, hct, rfl⟩ := List.mem_map.mp hm2
      refine i_IxL (SqL.of (s4.keep _ _ upd_same (B3.nin hp1))) hv2 ?_
      repeat walk_at "g"
      refine ⟨(by decide : 2 ≤ sizeLine), fun p2 hp2 => ?_⟩
      have B5 := B4.grow (.new (o := .tup [.int (d1 - 1), .int ct]) hp2)
      repeat walk_at "g"
      refine ⟨_, (d1 - 1, ct), rfl, nm_mk upd_same, ?_⟩
      repeat walk_at "g"
      refine i_iteN (fun hh => absurd (congrArg V.bl ?_) hh) (fun _ => ?_)
      · rw [Bool.eq_iff_iff]; simp [okName, okPeer]; omega
      generalize upd H4 p2 (.tup [.int (d1 - 1), .int ct]) = H5 at B5 ⊢
      -- clock, stamp
      repeat walk_at "g"
      refine ⟨(by decide : 5 ≤ sizeLine), fun p3 hp3 => ?_⟩
      repeat walk_at "g"
      refine ⟨b, dg, 5, rfl, by decide, B5.grow (.new hp3), fun d3 H6 l3 u3 s6 B6 => ?_⟩
      obtain ⟨v3, hv3, hm3⟩ := pick (xs := ([0, 1, 77, 4294967295, 4294967296] : List Int).map V.int) l3 (by simpa using u3)
      obtain ⟨ck, hck, rfl⟩ := List.mem_map.mp hm3
      refine i_IxL (SqL.of (s6.keep _ _ upd_same (B5.nin hp3))) hv3 ?_
      repeat walk_at "g"
      refine ⟨(by decide : 2 ≤ sizeLine), fun p4 hp4 => ?_⟩
      have B7 := B6.grow (.new (o := .tup [.int ck, .int (d1 - 1)]) hp4)
      repeat walk_at "g"
      refine ⟨_, (ck, d1 - 1), rfl, nm_mk upd_same, ?_⟩
      repeat walk_at "g"
      refine i_iteN (fun hh => absurd (congrArg V.bl ?_) hh) (fun _ => ?_)
      · rw [Bool.eq_iff_iff]; simp [okStamp, okPeer]; omega
      generalize upd H6 p4 (.tup [.int ck, .int (d1 - 1)]) = H7 at B7 ⊢
      -- many, text, clean
      repeat walk_at "g"
      refine ⟨b, dg, 24, rfl, by decide, B7, fun m H8 lm um s8 B8 => ?_⟩
      repeat walk_at "g"
      refine i_SlS (by rw [show (Str.ofString "abcdefghijklmnopqrstuvwx").length = 24 by decide +kernel]; decide) ?_
      have eT : (cutS (Str.ofString "abcdefghijklmnopqrstuvwx") none (some m)).cps.toList = baseL.take m.toNat := cutS_pre base_eq lm (by rw [show baseL.length = 24 by decide]; omega)
      generalize cutS (Str.ofString "abcdefghijklmnopqrstuvwx") none (some m) = T0 at eT ⊢
      have lT : (T0.length : Int) = m := by rw [len_list, eT, List.length_take, show baseL.length = 24 by decide]; omega
      repeat walk_at "g"
      refine ⟨b, dg, 3, rfl, by decide, B8, fun d4 H9 l4 u4 s9 B9 => ?_⟩
      repeat walk_at "g"
      generalize hgd : (decide (0 ≤ d1 - 1) && decide (d1 - 1 < 8) && (decide (0 ≤ ct) && decide (ct < 4294967296))) = gd
      generalize hsd : (decide (1 ≤ ck) && decide (ck < 4294967296) && (decide (0 ≤ d1 - 1) && decide (d1 - 1 < 8))) = sd
      generalize hcl : (decide (0 < d4) || decide (V.int m = V.int 0)) = cl
      refine ⟨fun σ' H' => ∃ (y11 : Option V) (T : Str), σ' = [some (.ref a), some (.ref b), some (.int (0 + (i : Int))), some (.int (d1 - 1)), some (.int ct), some (.bl gd), some (.int ck), some (.bl sd), some (.int m), some (.str T), some (.bl cl), y11, y12, y13, y14, y15, y16] ∧
        (T.length : Int) = m ∧ plain T = cl ∧ Box K b dg H', ?_, ?_⟩
      · repeat walk_at "g"
        refine i_ite (fun hc => ?_) (fun hc => ?_)
        · have hm0 : 0 < m := by
            rw [← hcl] at hc
            have h2 : ¬ m = 0 := fun z => by rw [z] at hc; simp at hc
            omega
          repeat walk_at "g"
          refine ⟨b, dg, m, rfl, hm0, B9, fun d5 H10 l5 u5 s10 B10 => ?_⟩
          repeat walk_at "g"
          have hsl : T0.length ≤ sizeLine := Nat.le_of_lt (small1000 (by omega))
          have eL : (T0.cps.toList.length : Int) = m := by rw [← len_list]; exact lT
          refine i_SlS hsl ?_
          have e1 := cutS_pre (z := T0) rfl l5 (by omega)
          repeat walk_at "g"
          refine ⟨b, dg, 4, rfl, by decide, B10, fun d6 H11 l6 u6 s11 B11 => ?_⟩
          have hbad : ∃ c, atI (Str.ofString "A0 _").cps.toList d6 = some c ∧ plainC c = false := by
            have e : (Str.ofString "A0 _").cps.toList = [65, 48, 32, 95] := by decide +kernel
            have hd : d6 = 0 ∨ d6 = 1 ∨ d6 = 2 ∨ d6 = 3 := by omega
            rcases hd with rfl | rfl | rfl | rfl
            · exact ⟨65, by rw [e]; rfl, by decide⟩
            · exact ⟨48, by rw [e]; rfl, by decide⟩
            · exact ⟨32, by rw [e]; rfl, by decide⟩
            · exact ⟨95, by rw [e]; rfl, by decide⟩
          obtain ⟨c, hc6, hbadc⟩ := hbad
          refine i_IxS (by rw [show (Str.ofString "A0 _").length = 4 by decide +kernel]; decide) hc6 ?_
          have e2 := cutS_suf (z := T0) (m := d5 + 1) rfl (by omega) (by omega)
          have n1 : (cutS T0 none (some d5)).length = d5.toNat := by
            have h := len_list (cutS T0 none (some d5))
            rw [e1, List.length_take] at h; omega
          have n2 : (cutS T0 (some (d5 + 1)) none).length = T0.cps.toList.length - (d5 + 1).toNat := by
            have h := len_list (cutS T0 (some (d5 + 1)) none)
            rw [e2, List.length_drop] at h; omega
          have n3 : (⟨#[c]⟩ : Str).length = 1 := rfl
          obtain ⟨LL, hLL⟩ : ∃ LL, T0.cps.toList.length = LL := ⟨_, rfl⟩
          rw [hLL] at eL n2
          refine ⟨_, _, rfl, rfl, Nat.le_of_lt (small1000 (by rw [n1, n3]; omega)), ?_⟩
          repeat walk_at "g"
          refine i_SlS hsl ?_
          have n4 : (cutS T0 none (some d5) ++ (⟨#[c]⟩ : Str)).length = d5.toNat + 1 := by
            have h : (cutS T0 none (some d5) ++ (⟨#[c]⟩ : Str)).length = (cutS T0 none (some d5)).length + (⟨#[c]⟩ : Str).length := Array.size_append
            rw [h, n1, n3]
          refine ⟨_, _, rfl, rfl, Nat.le_of_lt (small1000 (by rw [n4, n2]; omega)), ?_⟩
          have eF : ((cutS T0 none (some d5) ++ (⟨#[c]⟩ : Str)) ++ cutS T0 (some (d5 + 1)) none).cps.toList = (T0.cps.toList.take d5.toNat ++ [c]) ++ T0.cps.toList.drop (d5 + 1).toNat := by
            show ((cutS T0 none (some d5)).cps ++ #[c] ++ (cutS T0 (some (d5 + 1)) none).cps).toList = _
            rw [Array.toList_append, Array.toList_append, e1, e2]
          refine ⟨_, _, rfl, ?_, ?_, B11⟩
          · rw [len_list, eF, List.length_append, List.length_append, List.length_take, List.length_drop, hLL, List.length_singleton]; omega
          · have hc' : cl = false := by simpa using hc
            rw [hc']
            show (List.all _ plainC) = false
            rw [eF]
            simp [hbadc]
        · have hc' : cl = true := by simpa using hc
          refine ⟨_, T0, rfl, lT, ?_, B9⟩
          rw [hc']
          show (T0.cps.toList.all plainC) = true
          rw [eT]
          exact base_plain _
      · rintro σ' H12 ⟨y11', T, rfl, lenT, hT, B12⟩
        repeat walk_at "g"
        have hT1000 : T.length ≤ 1000 := by omega
        refine ⟨T, rfl, hT1000, fun H13 s13 => ?_⟩
        have B13 := B12.grow s13
        repeat walk_at "g"
        refine i_iteN (fun hh => absurd (congrArg V.bl ?_) hh) (fun _ => ?_)
        · rw [okField, hT, lenT]
          cases cl <;> simp
        repeat walk_at "g"
        refine ⟨_, .txt T, rfl, .txt T, hT1000, fun H14 s14 => ?_⟩
        have B14 := B13.grow s14
        repeat walk_at "g"
        refine i_iteN (fun hh => absurd (congrArg V.bl ?_) hh) (fun _ => ?_)
        · rw [okVa, hT, lenT]
          cases cl <;> simp
        -- number
        repeat walk_at "g"
        refine ⟨(by decide : 5 ≤ sizeLine), fun p5 hp5 => ?_⟩
        repeat walk_at "g"
        refine ⟨b, dg, 5, rfl, by decide, B14.grow (.new hp5), fun d7 H15 l7 u7 s15 B15 => ?_⟩
        obtain ⟨v7, hv7, hm7⟩ := pick (xs := ([-1000001, -1000000, 0, 1000000, 1000001] : List Int).map V.int) l7 (by simpa using u7)
        obtain ⟨nb, hnb, rfl⟩ := List.mem_map.mp hm7
        refine i_IxL (SqL.of (s15.keep _ _ upd_same (B14.nin hp5))) hv7 ?_
        repeat walk_at "g"
        refine ⟨_, .num nb, rfl, .num nb, trivial, fun H16 s16 => ?_⟩
        have B16 := B15.grow s16
        repeat walk_at "g"
        refine i_iteN (fun hh => absurd rfl hh) (fun _ => ?_)
        repeat walk_at "g"
        refine ⟨(by decide : 2 ≤ sizeLine), fun p6 hp6 => ?_⟩
        repeat walk_at "g"
        refine ⟨(by decide : 2 ≤ sizeLine), fun p7 hp7 => ?_⟩
        repeat walk_at "g"
        have e6 : (upd (upd H16 p6 (.tup [.int (d1 - 1), .int ct])) p7 (.tup [.str strRef, .ref p6])) p6 = some (.tup [.int (d1 - 1), .int ct]) := by
          rw [upd_ne (ne_of_none upd_same hp7)]; exact upd_same
        refine ⟨_, .tg strRef (d1 - 1, ct), rfl, .tup (.inl upd_same) (.cons (.txt _) (.cons (nm_mk e6) .nil)), trivial, fun H17 s17 => ?_⟩
        have B17 := ((B16.grow (.new hp6)).grow (.new hp7)).grow s17
        repeat walk_at "g"
        refine i_iteN (fun hh => absurd (congrArg V.bl ?_) hh) (fun _ => ?_)
        · rw [← hgd, Bool.eq_iff_iff]; simp [okVa, okName, okPeer]; omega
        repeat walk_at "g"
        refine ⟨(by decide : 2 ≤ sizeLine), fun p8 hp8 => ?_⟩
        repeat walk_at "g"
        refine ⟨(by decide : 2 ≤ sizeLine), fun p9 hp9 => ?_⟩
        repeat walk_at "g"
        have e8 : (upd (upd H17 p8 (.tup [.int 0, .int 0])) p9 (.tup [.str (Str.ofString "rex"), .ref p8])) p8 = some (.tup [.int 0, .int 0]) := by
          rw [upd_ne (ne_of_none upd_same hp9)]; exact upd_same
        refine ⟨_, .tg (Str.ofString "rex") (0, 0), rfl, .tup (.inl upd_same) (.cons (.txt _) (.cons (nm_mk e8) .nil)), trivial, fun H18 s18 => ?_⟩
        have B18 := ((B17.grow (.new hp8)).grow (.new hp9)).grow s18
        rw [show okVa (.tg (Str.ofString "rex") (0, 0)) = false by decide +kernel]
        repeat walk_at "g"
        refine iteF ?_
        repeat walk_at "g"
        refine ⟨_, .non, rfl, .non, trivial, fun H19 s19 => ?_⟩
        have B19 := B18.grow s19
        repeat walk_at "g"
        refine iteF ?_
        repeat walk_at "g"
        refine ⟨(by decide : 2 ≤ sizeLine), fun q1 hq1 => ?_⟩
        repeat walk_at "g"
        refine ⟨(by decide : 2 ≤ sizeLine), fun q2 hq2 => ?_⟩
        repeat walk_at "g"
        refine ⟨(by decide : 4 ≤ sizeLine), fun q3 hq3 => ?_⟩
        have f1 : (upd (upd (upd H19 q1 (.tup [.int ck, .int (d1 - 1)])) q2 (.tup [.int 0, .int 1])) q3 (.tup [.ref q1, .ref q2, .str T, .int nb])) q1 = some (.tup [.int ck, .int (d1 - 1)]) := by
          have g1 : (upd (upd H19 q1 (.tup [.int ck, .int (d1 - 1)])) q2 (.tup [.int 0, .int 1])) q1 = some (.tup [.int ck, .int (d1 - 1)]) := by
            rw [upd_ne (ne_of_none upd_same hq2)]; exact upd_same
          rw [upd_ne (ne_of_none g1 hq3)]; exact g1
        have f2 : (upd (upd (upd H19 q1 (.tup [.int ck, .int (d1 - 1)])) q2 (.tup [.int 0, .int 1])) q3 (.tup [.ref q1, .ref q2, .str T, .int nb])) q2 = some (.tup [.int 0, .int 1]) := by
          rw [upd_ne (ne_of_none upd_same hq3)]; exact upd_same
        have B20 := ((B19.grow (.new (o := .tup [.int ck, .int (d1 - 1)]) hq1)).grow (.new (o := .tup [.int 0, .int 1]) hq2)).grow (.new (o := .tup [.ref q1, .ref q2, .str T, .int nb]) hq3)
        repeat walk_at "g"
        refine ⟨_, ⟨(ck, d1 - 1), (0, 1), T, .num nb⟩, rfl, ch_mk (.inl upd_same) (nm_mk f1) (nm_mk f2) (.num _), hT1000, trivial, fun H21 s21 => ?_⟩
        have B21 := B20.grow s21
        repeat walk_at "g"
        refine i_iteN (fun hh => absurd (congrArg V.bl ?_) hh) (fun _ => ?_)
        · have e1 : okStamp (ck, d1 - 1) = sd := by rw [← hsd, Bool.eq_iff_iff]; simp [okStamp, okPeer]; omega
          simp only [okChange, e1, okField, okVa, hT, lenT, show okName (0, 1) = true by decide, Bool.true_and]
          cases sd <;> cases cl <;> simp [Bool.and_assoc]
        exact ⟨⟨_, _, _, _, _, _, _, _, _, _, _, _, _, _, _, rfl⟩, B21⟩
    · rintro σ H2 ⟨⟨y2, y3, y4, y5, y6, y7, y8, y9, y10, y11, y12, y13, y14, y15, y16, rfl⟩, B2⟩
      repeat walk_at "g"
      refine ⟨b, dg, rfl, B2, fun vn n H3 hn dn s3 B3 => ?_⟩
      repeat walk_at "g"
      refine ⟨b, dg, rfl, B3, fun vx x H4 hx dx s4 B4 => ?_⟩
      have dn4 := DtAt.stp s4 _ _ rfl dn
      have okn : okName n = true := by obtain ⟨⟨h1, h2⟩, h3, h4⟩ := hn; simp [okName, okPeer]; omega
      repeat walk_at "g"
      have okr : ∀ {u : V} {Hx : Hp}, (okRef x = false → u = .non) → (∀ s n, x = .tg s n → okRef x = true → DtAt K Hx u (nmD n)) → DtAt K Hx u (dueD x) := fun {u Hx} h1 h2 => by
        cases x with
        | tg s m =>
          obtain ⟨e, ⟨m1, m2⟩, m3, m4⟩ := hx
          exact h2 s m rfl (by simp [okRef, e, okName, okPeer]; omega)
        | _ => rw [h1 rfl]; exact .non
      refine ⟨fun σ' H' => ∃ u : V, σ' = [some (.ref a), some (.ref b), y2, y3, y4, y5, y6, y7, y8, y9, y10, y11, y12, y13, some vn, some vx, some u] ∧ DtAt K H' u (dueD x) ∧ H' = H4, ?_, ?_⟩
      · cases x with
        | tg s m =>
          repeat walk_at "g"
          refine i_Isi "tuple" true dx ?_
          repeat walk_at "g"
          refine iteT ?_
          obtain ⟨a1, b1, rfl, t1, t2⟩ := tgAt dx
          repeat walk_at "g"
          refine i_IxT t1.sqt (atI_nat (j := 1) rfl) ?_
          exact ⟨_, rfl, t2, rfl⟩
        | non =>
          repeat walk_at "g"
          refine i_Isi "NoneType" false dx ?_
          repeat walk_at "g"
          exact ⟨_, rfl, .non, rfl⟩
        | num z =>
          repeat walk_at "g"
          refine i_Isi "int" false dx ?_
          repeat walk_at "g"
          exact ⟨_, rfl, .non, rfl⟩
        | txt z =>
          repeat walk_at "g"
          refine i_Isi "str" false dx ?_
          repeat walk_at "g"
          exact ⟨_, rfl, .non, rfl⟩
      · rintro σ' H5 ⟨u, rfl, du, rfl⟩
        have dfl : (dueD x).flat = true := by cases x <;> rfl
        have ddp : (dueD x).depth ≤ 60 := by cases x <;> simp [dueD, Dt.depth, Dt.depthAll]
        repeat walk_at "g"
        refine ⟨_, n, rfl, dn4, fun u1 H6 s6 du1 => ?_⟩
        have dn6 := DtAt.stp s6 _ _ rfl dn4
        repeat walk_at "g"
        refine ⟨(by decide : 2 ≤ sizeLine), fun p1 hp1 => ?_⟩
        have t7 : Stp [] H6 (upd H6 p1 (.tup [.str (Str.ofString "ref"), vn])) := .new hp1
        have dn7 := DtAt.stp t7 _ _ rfl dn6
        refine i_NeT (DtAt.stp t7 _ _ (vaD_flat _) du1) (.tup (.inl upd_same) (.cons (.txt _) (.cons dn7 .nil))) ?_ (by have := vaD_depth (.tg strRef n); omega)
        rw [show Dt.beq (vaD (.tg strRef n)) (.tup [.txt (Str.ofString "ref"), nmD n]) = true from Dt.beq_self _]
        repeat walk_at "g"
        refine iteF ?_
        repeat walk_at "g"
        refine ⟨_, n, rfl, dn7, fun u2 H8 s8 du2 => ?_⟩
        repeat walk_at "g"
        refine ⟨_, .tg strRef n, rfl, du2, fun u3 h3 h4 => ?_⟩
        have du3 := h4 _ _ rfl (by simp [okRef, okn])
        have dn8 := DtAt.stp s8 _ _ rfl dn7
        repeat walk_at "g"
        refine i_NeT du3 dn8 ?_
        rw [Dt.beq_self]
        repeat walk_at "g"
        refine iteF ?_
        repeat walk_at "g"
        refine ⟨(by decide : 2 ≤ sizeLine), fun p2 hp2 => ?_⟩
        refine i_NeT (.tup (tro _) (.cons (.num 0) (.cons (.num 0) .nil))) (.tup (.inl upd_same) (.cons (.num 0) (.cons (.num 0) .nil))) ?_
        rw [Dt.beq_self]
        repeat walk_at "g"
        refine iteF ?_
        have tall := ((s6.trans t7).trans s8).trans (.new (M := []) (o := .tup [.int 0, .int 0]) hp2)
        repeat walk_at "g"
        refine ⟨_, x, rfl, DtAt.stp tall _ _ (vaD_flat _) dx, fun u4 h5 h6 => ?_⟩
        repeat walk_at "g"
        refine i_EqT (okr h5 h6) (DtAt.stp tall _ _ dfl du) ?_ ddp ddp
        rw [Dt.beq_self]
        repeat walk_at "g"
        refine iteT ?_
        repeat walk_at "g"
        refine ⟨_, x, rfl, DtAt.stp tall _ _ (vaD_flat _) dx, ?_⟩
        repeat walk_at "g"
        refine ⟨rfl, ?_⟩
        repeat walk_at "g"
        have fin : decide (V.bl (okRef x) = V.bl (!decide (u = V.non))) = true := by
          refine decide_eq_true (congrArg V.bl ?_)
          cases x with
          | tg s m =>
            obtain ⟨e, ⟨m1, m2⟩, m3, m4⟩ := hx
            obtain ⟨a1, rfl, _⟩ := nmAt du
            simp [okRef, e, okName, okPeer]; omega
          | _ =>
            have e := nonAt du
            subst e
            rfl
        rw [fin]
        exact q _
end

/-! ### the head: facts by names, the run -/
def fn : List He.DefD := [d_is_peer, d_is_name, d_is_field, d_is_value, d_reference, d_is_reference, d_target_of, d_has_plain_letters, d_is_stamp, d_is_change, d_law_cell, d_law_digits, d_law_draw, d_law_name, d_law_field, d_law_worth, d_law_changes, d_law_mixed, d_law_cells, d_law_fields, d_law]
def fa0 : List He.Fa := [.glo "is_peer", .glo "is_name", .glo "is_field", .glo "is_value", .glo "reference", .glo "is_reference", .glo "target_of", .glo "_has_plain_letters", .glo "is_stamp", .glo "is_change", .glo "_law_cell", .glo "_law_digits", .glo "_law_draw", .glo "_law_name", .glo "_law_field", .glo "_law_worth", .glo "_law_changes", .glo "_law_mixed", .glo "_law_cells", .glo "_law_fields", .glo "law", .free "len", .free "int", .free "range", .free "isinstance", .free "sorted", .free "list", .free "tuple", .free "dict", .free "str"]
def fa1 : List He.Fa := [.free "bool", .free "max", .free "min", .free "all", .free "any", .free "sum", .free "ord", .free "enumerate", .int "GREATEST_PEER" (7), .int "GREATEST_COUNT" (4294967295), .int "LONGEST_FIELD" (8), .int "LONGEST_TEXT" (20), .int "LEAST_INTEGER" (-1000000), .int "GREATEST_INTEGER" (1000000), .int "GREATEST_CLOCK" (4294967295), .glo "ROOT"]
def fa : List He.Fa := fa0 ++ fa1
def exB (K : PySem.W.Frag) : Bool := He.tupB K "ROOT" [.int 0, .int 0]
abbrev R : PySem.W.OpenRow := PySem.W.OpenLaw.row PySem.Challenge.rw_graphtwins_k00_names_fields_and_values
abbrev hk : PySem.W.Hook := He.hookX 5 fa fn [] [] exB
def ob (s : PySem.W.SharedT) : He.AlX := He.obsX 5 fa fn [] [] exB (HandSHeadRun.getT s)
theorem ob_eq (s : PySem.W.SharedT) : ob s = hk.obs s.abs := He.obsX_eq (HandSHeadRun.getT_eq s)
def loose0 : List PySem.Str := ["ROOT", "GREATEST_PEER", "GREATEST_COUNT", "LONGEST_FIELD", "LONGEST_TEXT", "LEAST_INTEGER", "GREATEST_INTEGER", "is_peer", "is_name", "is_field", "is_value", "reference", "is_reference", "target_of", "_has_plain_letters", "GREATEST_CLOCK", "is_stamp", "is_change", "_law_cell", "_law_digits", "_law_draw", "_law_name", "_law_field", "_law_worth", "_law_changes", "_law_mixed", "_law_cells", "_law_fields"]
abbrev looseN : List PySem.Str := loose0
set_option maxHeartbeats 0 in
theorem run (w : World) : HandSHeadRun.RunEq R (PySem.W.view R.prog [31]) hk ob 3000 looseN w := by
  intro os
  kernel_rfl
theorem facts {P : Program} {w : World} {K : PySem.W.Frag} {h : Heap} {mg : Str → Option Value} {f : Addr} (X : K.In h) (G : h.Ns mainGlobals mg) (hfa : mg ("law" : Str) = some (.ref f)) (c : He.SaysX fa fn [] [] exB w h K) :
    ∃ fd : FuncData, (∀ (s : Shared) (v : Value), BindsTo s fd ⟨[v], []⟩ [("script", v)]) ∧ ∀ base : Heap, K.In base → base.Ns mainGlobals mg → FnOk P w K mg base CX0 lv_law f fd ["script"] (spLaw K) := by
  have D_is_peer : Df K mg d_is_peer := by obtain ⟨fd, F⟩ := c.t.d.def_ 0 (d := d_is_peer) rfl; exact ⟨_, fd, F, He.glo_ok X G (c.t.d.fact 0 (f := .glo "is_peer") rfl)⟩
  have D_is_name : Df K mg d_is_name := by obtain ⟨fd, F⟩ := c.t.d.def_ 1 (d := d_is_name) rfl; exact ⟨_, fd, F, He.glo_ok X G (c.t.d.fact 1 (f := .glo "is_name") rfl)⟩
  have D_is_field : Df K mg d_is_field := by obtain ⟨fd, F⟩ := c.t.d.def_ 2 (d := d_is_field) rfl; exact ⟨_, fd, F, He.glo_ok X G (c.t.d.fact 2 (f := .glo "is_field") rfl)⟩
  have D_is_value : Df K mg d_is_value := by obtain ⟨fd, F⟩ := c.t.d.def_ 3 (d := d_is_value) rfl; exact ⟨_, fd, F, He.glo_ok X G (c.t.d.fact 3 (f := .glo "is_value") rfl)⟩
  have D_reference : Df K mg d_reference := by obtain ⟨fd, F⟩ := c.t.d.def_ 4 (d := d_reference) rfl; exact ⟨_, fd, F, He.glo_ok X G (c.t.d.fact 4 (f := .glo "reference") rfl)⟩
  have D_is_reference : Df K mg d_is_reference := by obtain ⟨fd, F⟩ := c.t.d.def_ 5 (d := d_is_reference) rfl; exact ⟨_, fd, F, He.glo_ok X G (c.t.d.fact 5 (f := .glo "is_reference") rfl)⟩
  have D_target_of : Df K mg d_target_of := by obtain ⟨fd, F⟩ := c.t.d.def_ 6 (d := d_target_of) rfl; exact ⟨_, fd, F, He.glo_ok X G (c.t.d.fact 6 (f := .glo "target_of") rfl)⟩
  have D_has_plain_letters : Df K mg d_has_plain_letters := by obtain ⟨fd, F⟩ := c.t.d.def_ 7 (d := d_has_plain_letters) rfl; exact ⟨_, fd, F, He.glo_ok X G (c.t.d.fact 7 (f := .glo "_has_plain_letters") rfl)⟩
  have D_is_stamp : Df K mg d_is_stamp := by obtain ⟨fd, F⟩ := c.t.d.def_ 8 (d := d_is_stamp) rfl; exact ⟨_, fd, F, He.glo_ok X G (c.t.d.fact 8 (f := .glo "is_stamp") rfl)⟩
  have D_is_change : Df K mg d_is_change := by obtain ⟨fd, F⟩ := c.t.d.def_ 9 (d := d_is_change) rfl; exact ⟨_, fd, F, He.glo_ok X G (c.t.d.fact 9 (f := .glo "is_change") rfl)⟩
  have D_law_cell : Df K mg d_law_cell := by obtain ⟨fd, F⟩ := c.t.d.def_ 10 (d := d_law_cell) rfl; exact ⟨_, fd, F, He.glo_ok X G (c.t.d.fact 10 (f := .glo "_law_cell") rfl)⟩
  have D_law_digits : Df K mg d_law_digits := by obtain ⟨fd, F⟩ := c.t.d.def_ 11 (d := d_law_digits) rfl; exact ⟨_, fd, F, He.glo_ok X G (c.t.d.fact 11 (f := .glo "_law_digits") rfl)⟩
  have D_law_draw : Df K mg d_law_draw := by obtain ⟨fd, F⟩ := c.t.d.def_ 12 (d := d_law_draw) rfl; exact ⟨_, fd, F, He.glo_ok X G (c.t.d.fact 12 (f := .glo "_law_draw") rfl)⟩
  have D_law_name : Df K mg d_law_name := by obtain ⟨fd, F⟩ := c.t.d.def_ 13 (d := d_law_name) rfl; exact ⟨_, fd, F, He.glo_ok X G (c.t.d.fact 13 (f := .glo "_law_name") rfl)⟩
  have D_law_field : Df K mg d_law_field := by obtain ⟨fd, F⟩ := c.t.d.def_ 14 (d := d_law_field) rfl; exact ⟨_, fd, F, He.glo_ok X G (c.t.d.fact 14 (f := .glo "_law_field") rfl)⟩
  have D_law_worth : Df K mg d_law_worth := by obtain ⟨fd, F⟩ := c.t.d.def_ 15 (d := d_law_worth) rfl; exact ⟨_, fd, F, He.glo_ok X G (c.t.d.fact 15 (f := .glo "_law_worth") rfl)⟩
  have D_law_changes : Df K mg d_law_changes := by obtain ⟨fd, F⟩ := c.t.d.def_ 16 (d := d_law_changes) rfl; exact ⟨_, fd, F, He.glo_ok X G (c.t.d.fact 16 (f := .glo "_law_changes") rfl)⟩
  have D_law_mixed : Df K mg d_law_mixed := by obtain ⟨fd, F⟩ := c.t.d.def_ 17 (d := d_law_mixed) rfl; exact ⟨_, fd, F, He.glo_ok X G (c.t.d.fact 17 (f := .glo "_law_mixed") rfl)⟩
  have D_law_cells : Df K mg d_law_cells := by obtain ⟨fd, F⟩ := c.t.d.def_ 18 (d := d_law_cells) rfl; exact ⟨_, fd, F, He.glo_ok X G (c.t.d.fact 18 (f := .glo "_law_cells") rfl)⟩
  have D_law_fields : Df K mg d_law_fields := by obtain ⟨fd, F⟩ := c.t.d.def_ 19 (d := d_law_fields) rfl; exact ⟨_, fd, F, He.glo_ok X G (c.t.d.fact 19 (f := .glo "_law_fields") rfl)⟩
  have D_law : Df K mg d_law := by obtain ⟨fd, F⟩ := c.t.d.def_ 20 (d := d_law) rfl; exact ⟨_, fd, F, He.glo_ok X G (c.t.d.fact 20 (f := .glo "law") rfl)⟩
  have B : Blt mg := ⟨He.free_ok X G (c.t.d.fact 21 (f := .free "len") rfl), He.free_ok X G (c.t.d.fact 22 (f := .free "int") rfl), He.free_ok X G (c.t.d.fact 23 (f := .free "range") rfl), He.free_ok X G (c.t.d.fact 24 (f := .free "isinstance") rfl), He.free_ok X G (c.t.d.fact 25 (f := .free "sorted") rfl), He.free_ok X G (c.t.d.fact 26 (f := .free "list") rfl), He.free_ok X G (c.t.d.fact 27 (f := .free "tuple") rfl), He.free_ok X G (c.t.d.fact 28 (f := .free "dict") rfl), He.free_ok X G (c.t.d.fact 29 (f := .free "str") rfl), He.free_ok X G (c.t.d.fact 30 (f := .free "bool") rfl), He.free_ok X G (c.t.d.fact 31 (f := .free "max") rfl), He.free_ok X G (c.t.d.fact 32 (f := .free "min") rfl), He.free_ok X G (c.t.d.fact 33 (f := .free "all") rfl), He.free_ok X G (c.t.d.fact 34 (f := .free "any") rfl), He.free_ok X G (c.t.d.fact 35 (f := .free "sum") rfl), He.free_ok X G (c.t.d.fact 36 (f := .free "ord") rfl), He.free_ok X G (c.t.d.fact 37 (f := .free "enumerate") rfl)⟩
  have I_GREATEST_PEER := He.int_ok X G (c.t.d.fact 38 (f := .int "GREATEST_PEER" (7)) rfl)
  have I_GREATEST_COUNT := He.int_ok X G (c.t.d.fact 39 (f := .int "GREATEST_COUNT" (4294967295)) rfl)
  have I_LONGEST_FIELD := He.int_ok X G (c.t.d.fact 40 (f := .int "LONGEST_FIELD" (8)) rfl)
  have I_LONGEST_TEXT := He.int_ok X G (c.t.d.fact 41 (f := .int "LONGEST_TEXT" (20)) rfl)
  have I_LEAST_INTEGER := He.int_ok X G (c.t.d.fact 42 (f := .int "LEAST_INTEGER" (-1000000)) rfl)
  have I_GREATEST_INTEGER := He.int_ok X G (c.t.d.fact 43 (f := .int "GREATEST_INTEGER" (1000000)) rfl)
  have I_GREATEST_CLOCK := He.int_ok X G (c.t.d.fact 44 (f := .int "GREATEST_CLOCK" (4294967295)) rfl)
  have G_ROOT := He.glo_ok X G (c.t.d.fact 45 (f := .glo "ROOT") rfl)
  have EX := c.more
  obtain ⟨fd, F⟩ := c.t.d.def_ 20 (d := d_law) rfl
  obtain ⟨_, _, _, gl⟩ := D_law
  have e : f = He.ga K "law" := by
    have h1 := hfa.symm.trans (He.glo_ok X G (c.t.d.fact 20 (f := .glo "law") rfl))
    injection h1 with h1
    injection h1
  subst e
  have tro : ∀ H, TupAt K H (He.ga K "ROOT") [.int 0, .int 0] := fun H => by
    rcases He.tupB_ok EX (fun _ => none) with (h | ⟨o, h⟩) | h
    · cases h
    · cases h
    · exact .inr h
  have N0 : Con0 mg := ⟨I_GREATEST_PEER, I_GREATEST_COUNT, I_LONGEST_FIELD, I_LONGEST_TEXT, I_LEAST_INTEGER, I_GREATEST_INTEGER⟩
  have N1 : Con1 mg := ⟨I_GREATEST_CLOCK⟩
  refine ⟨fd, fun s v => F.bindsA (ps := ["script"]) (fun _ _ _ _ _ _ us hl => match us, hl with | [_], _ => rfl) s [v] rfl, fun base _ _ => ?_⟩
  have C1 := cal_cell (P := P) (w := w) (base := base) D_law_cell B
  have C2 := cal_digits D_law_digits B C1
  have C3 := cal_draw (P := P) (w := w) (base := base) D_law_draw B
  have C4 := cal_name D_law_name C3
  have C5 := cal_worth D_law_worth C3 C4
  have C6 := cal_is_peer (P := P) (w := w) (base := base) D_is_peer N0
  have C7 := cal_is_name D_is_name N0 C6
  have C8 := cal_plain (P := P) (w := w) (base := base) D_has_plain_letters B
  have C9 := cal_is_field D_is_field B N0 C8
  have C10 := cal_reference (P := P) (w := w) (base := base) D_reference
  have C11 := cal_is_reference D_is_reference B C7
  have C12 := cal_target_of D_target_of C11
  have C13 := cal_is_value D_is_value B N0 C8 C11
  have C14 := cal_is_stamp D_is_stamp N1 C6
  have C15 := cal_is_change D_is_change C14 C7 C9 C13
  exact ok_law F B C2 C3 C4 C5 C7 C14 C9 C13 C15 C10 C12 C11 _ G_ROOT tro
end GT
open PySem PySem.W PySem.Calls PyProof.Rows
set_option maxRecDepth 100000 in
set_option maxHeartbeats 0 in
theorem PySem.Challenge.cw_graphtwins_k00_names_fields_and_values_holds : PySem.Challenge.rw_graphtwins_k00_names_fields_and_values.Holds := by
  w_on; o_law
  refine HandSHeadRun.head_any (r := OpenLaw.row PySem.Challenge.rw_graphtwins_k00_names_fields_and_values) (q := view (OpenLaw.row PySem.Challenge.rw_graphtwins_k00_names_fields_and_values).prog [31]) (H := GT.hk) (ob := GT.ob) (M := 3000) (loose := GT.looseN) (d := HandSHeadRun.topDef (OpenLaw.row PySem.Challenge.rw_graphtwins_k00_names_fields_and_values).prog 31) (kwd := []) GT.ob_eq
    (by kernel_rfl) (fun s => by kernel_rfl) GT.run (by kernel_rfl) (by kernel_rfl) (by kernel_rfl) (by rfl) (by first | assumption | decide +kernel) (by decide +kernel) ⟨rfl, rfl, rfl, rfl, rfl, by decide +kernel⟩ ?hw ?hc
  case hw => w_witness2
  case hc =>
    refine L2.walk_ofE (l := PySem.Challenge.rw_graphtwins_k00_names_fields_and_values) (n := 63) (k := GT.lv_law) (x := "script") (CX := L2.CX0) rfl (by decide) (by kernel_rfl) ⟨rfl, by decide, by decide⟩ ?F (fun _ _ _ _ z => z)
    intro w mg fa h Y G hmg0
    obtain ⟨K, KX, c⟩ := Y
    have hmg : mg ("law" : PySem.Str) = some (.ref fa) := by
      have e : (HandSHeadRun.topDef (OpenLaw.row PySem.Challenge.rw_graphtwins_k00_names_fields_and_values).prog 31).name = ("law" : PySem.Str) := by kernel_rfl
      rw [← e]
      exact hmg0
    obtain ⟨fd, hb, hF⟩ := GT.facts (P := (PySem.Challenge.rw_graphtwins_k00_names_fields_and_values).prog) (w := w) KX G hmg c
    exact ⟨K, fd, GT.spLaw K, KX, hb, fun H a ns hl _ hS => ⟨a, ns, rfl, hS, fun _ => rfl⟩, hF⟩


