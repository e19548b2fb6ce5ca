import PyProof.Rows.All
import Wide.All
import OpenK.AllK
import Wide.FinOn
import HandS.ForMost
import HandS.Exc
import HandS.IsInst
import HandS.Style
import HandS.Flow
import HandS.Defaults
import HandS.Head0
import HandS.Head1
import HandS.Head2
import HandS.HeadEnd
import HandS.HeadHook1
import HandS.HeadHook2
import HandS.HeadHook3
import HandS.HeadHook4
import HandS.Codes
import HandS.SortKw
import HandS.ExcInit
import HandS.FStr
import HandS.Walk
import KE.KDictKeyed
import KE.KeyNested
import KE.SortData
import KE.SortKeyHeap
import KE.KDictWalk
import KE.DataCmp
import KE.DataMinMax
import HandS.Lambda
import HandS.EndTab
import HandS.HeadWalk
import HandS.DictComp
import HandS.DictEq
import HandS.TupLen
import HandS.Replace
import KE.KDictCopyH
import KE.KDictSum
import HandS.SetFor
import HandS.Strs
import HandS.Conv
import PySem.Challenge.RW_graphtwins_k15_shortest_paths
set_option Elab.async false
set_option linter.all false
set_option maxRecDepth 100000
set_option maxHeartbeats 4000000
/-! ## Part A: heaps that grow, readings step by step (nothing of one law) -/
namespace GT
open PySem PySem.Spec PyProof.Rows L2
/-! ### what a step of a program may change: the objects in M; tuples never -/
structure Stp (M : List Addr) (H H' : Hp) : Prop where
  keep : ∀ c o, H c = some o → c ∉ M → H' c = some o
  tups : ∀ c xs, H c = some (.tup xs) → H' c = some (.tup xs)
  tbls : ∀ c ps, H' c = some (.tbl ps) → ∃ qs, H c = some (.tbl qs)
theorem Stp.refl {M : List Addr} (H : Hp) : Stp M H H := ⟨fun _ _ h _ => h, fun _ _ h => h, fun _ ps h => ⟨ps, h⟩⟩
theorem Stp.trans {M : List Addr} {H H1 H2 : Hp} (a : Stp M H H1) (b : Stp M H1 H2) : Stp M H H2 :=
  ⟨fun c o h n => b.keep c o (a.keep c o h n) n, fun c xs h => b.tups c xs (a.tups c xs h), fun c ps h => let ⟨qs, e⟩ := b.tbls c ps h; a.tbls c qs e⟩
theorem Stp.mono {M M' : List Addr} {H H1 : Hp} (a : Stp M H H1) (h : ∀ c ∈ M, c ∈ M') : Stp M' H H1 :=
  ⟨fun c o e n => a.keep c o e fun z => n (h c z), a.tups, a.tbls⟩
/-- a new object -/
theorem Stp.new {M : List Addr} {H : Hp} {p : Addr} {o : HO} (n : H p = none) (nb : ∀ ps, o ≠ .tbl ps := by exact fun _ z => nomatch z) : Stp M H (upd H p o) :=
  ⟨fun c u h _ => by rw [upd_ne (ne_of_none h n)]; exact h, fun c xs h => by rw [upd_ne (ne_of_none h n)]; exact h, fun c ps h => by
    by_cases e : c = p
    · rw [e, upd_same] at h; exact absurd (Option.some.inj h) (nb ps)
    · rw [upd_ne e] at h; exact ⟨ps, h⟩⟩
theorem Stp.add {M : List Addr} {H H1 : Hp} {p : Addr} {o : HO} (a : Stp M H H1) (n : H1 p = none) (nb : ∀ ps, o ≠ .tbl ps := by exact fun _ z => nomatch z) : Stp M H (upd H1 p o) := a.trans (.new n nb)
/-- an object of M is written -/
theorem Stp.wr {M : List Addr} {H : Hp} {p : Addr} {o u : HO} (hm : p ∈ M) (hu : H p = some u) (nt : ∀ xs, u ≠ .tup xs) (nb : ∀ ps, o ≠ .tbl ps := by exact fun _ z => nomatch z) : Stp M H (upd H p o) :=
  ⟨fun c v h n => by rw [upd_ne (fun z => n (by rw [z]; exact hm))]; exact h,
   fun c xs h => by rw [upd_ne (fun z => nt xs (by rw [z, hu] at h; exact Option.some.inj h))]; exact h, fun c ps h => by
    by_cases e : c = p
    · rw [e, upd_same] at h; exact absurd (Option.some.inj h) (nb ps)
    · rw [upd_ne e] at h; exact ⟨ps, h⟩⟩
theorem Stp.write {M : List Addr} {H H1 : Hp} {p : Addr} {o u : HO} (a : Stp M H H1) (hm : p ∈ M) (hu : H1 p = some u) (nt : ∀ xs, u ≠ .tup xs) (nb : ∀ ps, o ≠ .tbl ps := by exact fun _ z => nomatch z) : Stp M H (upd H1 p o) := a.trans (.wr hm hu nt nb)
/-- an object that was not yet there at H is written -/
theorem Stp.mut {M : List Addr} {H H1 : Hp} {p : Addr} {o : HO} (a : Stp M H H1) (n : H p = none) (nb : ∀ ps, o ≠ .tbl ps := by exact fun _ z => nomatch z) : Stp M H (upd H1 p o) :=
  ⟨fun c v h m => by rw [upd_ne (ne_of_none h n)]; exact a.keep c v h m, fun c xs h => by rw [upd_ne (ne_of_none h n)]; exact a.tups c xs h, fun c ps h => by
    by_cases e : c = p
    · rw [e, upd_same] at h; exact absurd (Option.some.inj h) (nb ps)
    · rw [upd_ne e] at h; exact a.tbls c ps h⟩
/-- what is free behind was free before -/
theorem Stp.free {M : List Addr} {H H1 : Hp} (a : Stp M H H1) {p : Addr} (n : H1 p = none) (hM : p ∉ M) : H p = none := by
  cases q : H p with
  | none => rfl
  | some o => rw [a.keep p o q hM] at n; cases n
theorem Stp.nil {H H1 : Hp} (a : Stp [] H H1) : Same H H1 := fun c o h => a.keep c o h (by simp)
theorem Stp.seq {M : List Addr} {H H1 : Hp} (a : Stp M H H1) {K : PySem.W.Frag} {p : Addr} {xs : List V} (h : SqL K H p xs) (n : p ∉ M) : SqL K H1 p xs := by
  rcases h with (h | ⟨o, h⟩) | h
  · exact .inl (.inl (a.keep _ _ h n))
  · exact .inl (.inr ⟨o, a.keep _ _ h n⟩)
  · exact .inr h
/-! ### readings, one step each -/
section
variable {σ : L2.St} {H : Hp} {Q : VK} {QT : Bool → Hp → Prop} {QA : List V → Hp → Prop} {D : Ends} {v x y : V} {te ta tb tc : TE} {tt tu : TT} {t u : TS} {K : PySem.W.Frag}
theorem i_var {i : Nat} (h : σ[i]? = some (some v)) (q : Q v H) : tVar i σ H Q := ⟨v, h, q⟩
theorem i_C (q : Q v H) : tC v σ H Q := q
theorem i_Yes (q : QT true H) : tYes σ H QT := q
theorem i_Op {r : R2} (q : ta σ H fun x H1 => tb σ H1 fun y H2 => r x y H2 Q) : tOp r ta tb σ H Q := q
theorem i_Un {r : V → Hp → VK → Prop} (q : ta σ H fun x H1 => r x H1 Q) : tUn r ta σ H Q := q
theorem i_I0 {g : Int → Int → V} {i j : Int} (q : Q (g i j) H) : rI0 g (.int i) (.int j) H Q := ⟨i, j, rfl, rfl, q⟩
theorem i_I {C : Int → Int → Prop} {g : Int → Int → V} {i j : Int} (c : C i j) (q : Q (g i j) H) : rI C g (.int i) (.int j) H Q := ⟨i, j, rfl, rfl, c, q⟩
theorem i_U {g : Int → V} {i : Int} (q : Q (g i) H) : rU g (.int i) H Q := ⟨i, rfl, q⟩
theorem i_Eq (s : scal x y = true) (q : Q (.bl (decide (x = y))) H) : rEq x y H Q := ⟨s, q⟩
theorem i_Ne (s : scal x y = true) (q : Q (.bl (!decide (x = y))) H) : rNe x y H Q := ⟨s, q⟩
theorem i_Test (q : te σ H fun x H' => ∃ k, x = .bl k ∧ QT k H') : tTest te σ H QT := q
theorem i_B (q : te σ H fun x H' => ∃ k, x = .bl k ∧ QT k H') : tB te σ H QT := q
theorem i_bl {k : Bool} (q : QT k H) : ∃ c, V.bl k = V.bl c ∧ QT c H := ⟨k, rfl, q⟩
theorem i_And (q : tt σ H fun c H1 => if c = true then tu σ H1 QT else QT false H1) : tAnd tt tu σ H QT := q
theorem i_Or (q : tt σ H fun c H1 => if c = true then QT true H1 else tu σ H1 QT) : tOr tt tu σ H QT := q
theorem i_Not (q : tt σ H fun c H1 => QT (!c) H1) : tNot tt σ H QT := q
theorem i_Nil (q : QA [] H) : tNil σ H QA := q
theorem i_Cons {tr : TA} (q : ta σ H fun x H1 => tr σ H1 fun xs H2 => QA (x :: xs) H2) : tCons ta tr σ H QA := q
theorem i_Seq (q : t { D with nx := u D } σ H) : tSeq t u D σ H := q
theorem i_Asg {g : TG} (q : te σ H fun x H1 => g x σ H1 D.nx) : tAsg te g D σ H := q
theorem i_Name {i : Nat} {Qs : L2.St → Hp → Prop} (q : Qs (σ.set i (some v)) H) : gName i v σ H Qs := q
theorem i_Ret (q : te σ H D.rt) : tRet te D σ H := q
theorem i_IfS (q : tt σ H fun b H1 => if b = true then t D σ H1 else u D σ H1) : tIfS tt t u D σ H := q
theorem i_Drop (q : te σ H fun _ H1 => D.nx σ H1) : tDrop te D σ H := q
theorem i_Next (q : D.nx σ H) : tNext D σ H := q
theorem i_If (q : tt σ H fun c H1 => if c = true then ta σ H1 Q else tb σ H1 Q) : tIf tt ta tb σ H Q := q
theorem i_Call {sp : Sp} {dvs : List V} {E : XK} {tr : TA} (q : tr σ H fun vs H1 => sp (vs ++ dvs) H1 Q E) : tCall sp dvs E tr σ H Q := q
theorem i_CB {r : List V → Hp → VK → Prop} {tr : TA} (q : tr σ H fun vs H1 => r vs H1 Q) : tCB r tr σ H Q := q
theorem i_ite {b : Bool} {A B : Prop} (h1 : b = true → A) (h2 : b = false → B) : if b = true then A else B := by
  cases b
  · exact h2 rfl
  · exact h1 rfl
theorem i_iteD {c : Prop} [Decidable c] {A B : Prop} (h1 : c → A) (h2 : ¬ c → B) : if decide c = true then A else B := by
  by_cases h : c
  · rw [if_pos (decide_eq_true h)]; exact h1 h
  · rw [if_neg (fun z => h (of_decide_eq_true z))]; exact h2 h
theorem i_iteN {c : Prop} [Decidable c] {A B : Prop} (h1 : ¬ c → A) (h2 : c → B) : if (!decide c) = true then A else B := by
  by_cases h : c
  · rw [if_neg (by simp [h])]; exact h2 h
  · rw [if_pos (by simp [h])]; exact h1 h
theorem i_IxL {p : Addr} {xs : List V} {i : Int} (s : SqL K H p xs) (e : atI xs i = some v) (q : Q v H) : rIxL K (.ref p) (.int i) H Q := ⟨p, xs, i, v, rfl, rfl, s, e, q⟩
theorem i_IxT {p : Addr} {xs : List V} {i : Int} (s : SqT K H p xs) (e : atI xs i = some v) (q : Q v H) : rIxT K (.ref p) (.int i) H Q := ⟨p, xs, i, v, rfl, rfl, s, e, q⟩
theorem i_IxS {z : Str} {i : Int} {c : Nat} (s : z.length ≤ sizeLine) (e : atI z.cps.toList i = some c) (q : Q (.str ⟨#[c]⟩) H) : rIxS (.str z) (.int i) H Q := ⟨z, i, c, rfl, rfl, s, e, q⟩
theorem i_gTup {n : Nat} {tg : TGs} {Qs : L2.St → Hp → Prop} {a : Addr} {xs : List V} (s : SqT K H a xs) (e : xs.length = n) (q : tg xs σ H Qs) : gTup K n tg (.ref a) σ H Qs := ⟨a, xs, rfl, s, e, q⟩
theorem i_gNil {Qs : L2.St → Hp → Prop} (q : Qs σ H) : gNil [] σ H Qs := ⟨rfl, q⟩
theorem i_gCons {g : TG} {tg : TGs} {Qs : L2.St → Hp → Prop} {r : List V} (q : g v σ H fun σ' H' => tg r σ' H' Qs) : gCons g tg (v :: r) σ H Qs := ⟨v, r, rfl, q⟩
theorem i_Tup {tr : TA} (h : tr σ H fun xs H1 => xs.length ≤ sizeLine ∧ ∀ p, H1 p = none → Q (.ref p) (upd H1 p (.tup xs))) : tTup tr σ H Q := h
theorem i_Lst {tr : TA} (h : tr σ H fun xs H1 => xs.length ≤ sizeLine ∧ ∀ p, H1 p = none → Q (.ref p) (upd H1 p (.lst xs))) : tLst tr σ H Q := h
/-- a new tuple, a new list: the heap behind told by what is known of it -/
theorem i_NewT {M : List Addr} {H0 : Hp} {xs : List V} (s : Stp M H0 H) (l : xs.length ≤ sizeLine) (q : ∀ p H1, H p = none → H1 p = some (.tup xs) → Stp [] H H1 → Stp M H0 H1 → Q (.ref p) H1) :
    xs.length ≤ sizeLine ∧ ∀ p, H p = none → Q (.ref p) (upd H p (.tup xs)) := ⟨l, fun p n => q p _ n upd_same (.new n) (s.add n)⟩
theorem i_NewL {M : List Addr} {H0 : Hp} {xs : List V} (s : Stp M H0 H) (l : xs.length ≤ sizeLine) (q : ∀ p H1, H p = none → H1 p = some (.lst xs) → Stp [] H H1 → Stp M H0 H1 → Q (.ref p) H1) :
    xs.length ≤ sizeLine ∧ ∀ p, H p = none → Q (.ref p) (upd H p (.lst xs)) := ⟨l, fun p n => q p _ n upd_same (.new n) (s.add n)⟩
theorem i_Sl {r : V → Option Int → Option Int → Hp → VK → Prop} {tl th : TO} (q : te σ H fun x H1 => tl σ H1 fun l H2 => th σ H2 fun u H3 => r x l u H3 Q) : tSl r te tl th σ H Q := q
theorem i_NoPart {QO : Option Int → Hp → Prop} (q : QO none H) : tNoPart σ H QO := q
theorem i_Part {QO : Option Int → Hp → Prop} (q : te σ H fun x H1 => ∃ i, x = .int i ∧ QO (some i) H1) : tPart te σ H QO := q
theorem i_intV {k : Int} {A : Int → Prop} (q : A k) : ∃ c, V.int k = V.int c ∧ A c := ⟨k, rfl, q⟩
theorem i_SlS {z : Str} {lo hi : Option Int} (s : z.length ≤ sizeLine) (q : Q (.str (cutS z lo hi)) H) : rSlS (.str z) lo hi H Q := ⟨z, rfl, s, q⟩
theorem i_SlL {a : Addr} {xs : List V} {lo hi : Option Int} (s : SqL K H a xs) (q : ∀ p, H p = none → Q (.ref p) (upd H p (.lst (cutV xs lo hi)))) : rSlL K (.ref a) lo hi H Q := ⟨a, xs, rfl, s, q⟩
theorem i_Par {i j : Nat} {tr : TA} (q : tr σ H fun vs H1 => ∃ v w, vs = [v, w] ∧ D.nx ((σ.set i (some v)).set j (some w)) H1) : tPar i j tr D σ H := q
theorem i_Aug {i : Nat} {ti : TIp} (h : σ[i]? = some (some x)) (q : te σ H fun y H1 => ti x y H1 fun z H2 => D.nx (σ.set i (some z)) H2) : tAug i te ti D σ H := ⟨x, h, q⟩
theorem i_Chain {r r' : R2} (q : ta σ H fun x H1 => tb σ H1 fun y H2 => r x y H2 fun z H3 => ∃ k, z = .bl k ∧ (if k = true then tc σ H3 fun w' H4 => r' y w' H4 Q else Q (.bl false) H3)) : tChain r r' ta tb tc σ H Q := q
theorem i_AndV (q : ta σ H fun x H1 => ∃ c, x = .bl c ∧ if c = true then tb σ H1 Q else Q (.bl false) H1) : tAndV ta tb σ H Q := q
theorem i_OrV (q : ta σ H fun x H1 => ∃ c, x = .bl c ∧ if c = true then Q (.bl true) H1 else tb σ H1 Q) : tOrV ta tb σ H Q := q
theorem i_NotV (q : ta σ H fun x H1 => ∃ c, x = .bl c ∧ Q (.bl (!c)) H1) : tNotV ta σ H Q := q
theorem i_blV {k : Bool} {A : Bool → Prop} (q : A k) : ∃ c, V.bl k = V.bl c ∧ A c := ⟨k, rfl, q⟩
theorem qbl {a b : Bool} (q : Q (.bl a) H) (e : a = b) : Q (.bl b) H := by rw [← e]; exact q
theorem qv (q : Q x H) (e : x = y) : Q y H := by rw [← e]; exact q
theorem i_BM {T : String} {r : V → List V → Hp → VK → Prop} {tr : TA} (q : te σ H fun x H1 => tyV K T x H1 ∧ tr σ H1 fun xs H2 => r x xs H2 Q) : tBM K T r te tr σ H Q := q
theorem i_BM0 {T : String} {r : V → List V → Hp → VK → Prop} (q : te σ H fun x H1 => tyV K T x H1 ∧ r x [] H1 Q) : tBM0 K T r te σ H Q := q
end
end GT
namespace GT
open PySem PySem.Spec PyProof.Rows L2
/-! ### defs and their calls -/
/-- a def of the text stands behind the top under its name -/
def Df (K : PySem.W.Frag) (mg : Str → Option Value) (d : He.DefD) : Prop :=
  ∃ (f : Addr) (fd : FuncData), FunD K d.name d.qual d.params d.body d.scope [] [] f fd ∧ mg d.name = some (.ref f)
/-- the name x is a def that keeps sp and raises nothing -/
def Cal (P : Program) (w : World) (K : PySem.W.Frag) (mg : Str → Option Value) (base : Heap) (k : Nat) (x : Str) (ps : List Str) (sp : Sp) : Prop :=
  ∃ (f : Addr) (fd : FuncData), FnOk P w K mg base CX0 k f fd ps sp ∧ mg x = some (.ref f) ∧ PySem.W.keepIn K (.ref f) = true ∧ Binds K fd ps []
/-- the built-ins that are used are still the built-ins -/
structure Blt (mg : Str → Option Value) : Prop where
  len : mg "len" = none
  int : mg "int" = none
  range : mg "range" = none
  isinstance : mg "isinstance" = none
  sorted : mg "sorted" = none
  list : mg "list" = none
  tuple : mg "tuple" = none
  dict : mg "dict" = none
  str : mg "str" = none
  bool : mg "bool" = none
  max : mg "max" = none
  min : mg "min" = none
  all : mg "all" = none
  any : mg "any" = none
  sum : mg "sum" = none
  ord : mg "ord" = none
  enumerate : mg "enumerate" = none
section
variable {X : Cx} {e : Expr} {es : List Expr} {t : TA} {x : Str} {p pos : Pos} {ps : List Str} {sp : Sp} {k : Nat}
theorem pc_call (C : Cal X.prog X.w X.K X.mg X.base k x ps sp) (hr : Room k X.A) (hg : Gl X x) (ha : PA X (e :: es) t)
    (hdb : (x == ("__debug__" : Str)) = false := by decide) (he : starEach (e :: es) X.env = (false, eval e X.env) :: starEach es X.env := by rfl) (hpl : (backTo pos (starEach es X.env)).any (·.1) = false := by rfl) :
    PE X (.Call (.Name x p) (e :: es) [] pos) (tCall sp [] E0 t) := by
  obtain ⟨f, fd, F, hm, hk, hb⟩ := C
  exact pe_call F hr hg hm hk hb .nil pass0 ha hdb he hpl
end
end GT
namespace GT
open PySem PySem.Spec PyProof.Rows L2
section
variable {X : Cx} {x : Str} {pos : Pos}
theorem pe_gi {i : Int} (hg : Gl X x) (hm : ∃ t, X.mg x = some (.int i t)) (hd : (x == ("__debug__" : Str)) = false := by decide) : PE X (.Name x pos) (tC (.int i)) := by
  obtain ⟨t, hm⟩ := hm
  exact pe_glob hg hm ⟨t, rfl⟩ hd
theorem pe_gs {z : Str} (hg : Gl X x) (hm : ∃ t, X.mg x = some (.str z t)) (hd : (x == ("__debug__" : Str)) = false := by decide) : PE X (.Name x pos) (tC (.str z)) := by
  obtain ⟨t, hm⟩ := hm
  exact pe_glob hg hm ⟨t, rfl⟩ hd
theorem pe_gt {a : Addr} (hg : Gl X x) (hm : X.mg x = some (.ref a)) (hd : (x == ("__debug__" : Str)) = false := by decide) : PE X (.Name x pos) (tC (.ref a)) := pe_glob hg hm rfl hd
end
end GT
namespace GT
open PySem PySem.Spec PyProof.Rows L2
/-! ### parts that only reckon: their value at once -/
def Vl (te : TE) (σ : L2.St) (H : Hp) (v : V) : Prop := ∀ Q : VK, Q v H → te σ H Q
def Tl (tt : TT) (σ : L2.St) (H : Hp) (b : Bool) : Prop := ∀ Q : Bool → Hp → Prop, Q b H → tt σ H Q
section
variable {σ : L2.St} {H : Hp} {Q : VK} {QT : Bool → Hp → Prop} {v x y : V} {te ta tb tc : TE} {tt tu : TT} {a b : Bool} {i j k : Int}
theorem vl_var {n : Nat} (h : σ[n]? = some (some v)) : Vl (tVar n) σ H v := fun _ q => ⟨v, h, q⟩
theorem vl_c : Vl (tC v) σ H v := fun _ q => q
theorem vl_I0 {g : Int → Int → V} (ha : Vl ta σ H (.int i)) (hb : Vl tb σ H (.int j)) : Vl (tOp (rI0 g) ta tb) σ H (g i j) := fun _ q => ha _ (hb _ ⟨i, j, rfl, rfl, q⟩)
theorem vl_I {C : Int → Int → Prop} {g : Int → Int → V} (ha : Vl ta σ H (.int i)) (hb : Vl tb σ H (.int j)) (c : C i j) : Vl (tOp (rI C g) ta tb) σ H (g i j) := fun _ q => ha _ (hb _ ⟨i, j, rfl, rfl, c, q⟩)
theorem vl_U {g : Int → V} (ha : Vl ta σ H (.int i)) : Vl (tUn (rU g) ta) σ H (g i) := fun _ q => ha _ ⟨i, rfl, q⟩
theorem vl_eq (ha : Vl ta σ H x) (hb : Vl tb σ H y) (s : scal x y = true) : Vl (tOp rEq ta tb) σ H (.bl (decide (x = y))) := fun _ q => ha _ (hb _ ⟨s, q⟩)
theorem vl_ne (ha : Vl ta σ H x) (hb : Vl tb σ H y) (s : scal x y = true) : Vl (tOp rNe ta tb) σ H (.bl (!decide (x = y))) := fun _ q => ha _ (hb _ ⟨s, q⟩)
theorem vl_and (ha : Vl ta σ H (.bl a)) (hb : Vl tb σ H (.bl b)) : Vl (tAndV ta tb) σ H (.bl (a && b)) := fun _ q => ha _ ⟨a, rfl, by
  cases a
  · exact q
  · exact hb _ q⟩
theorem vl_or (ha : Vl ta σ H (.bl a)) (hb : Vl tb σ H (.bl b)) : Vl (tOrV ta tb) σ H (.bl (a || b)) := fun _ q => ha _ ⟨a, rfl, by
  cases a
  · exact hb _ q
  · exact q⟩
theorem vl_not (ha : Vl ta σ H (.bl a)) : Vl (tNotV ta) σ H (.bl (!a)) := fun _ q => ha _ ⟨a, rfl, q⟩
theorem vl_chain {p p' : Int → Int → Bool} (ha : Vl ta σ H (.int i)) (hb : Vl tb σ H (.int j)) (hc : Vl tc σ H (.int k)) :
    Vl (tChain (rI0 fun i j => .bl (p i j)) (rI0 fun i j => .bl (p' i j)) ta tb tc) σ H (.bl (p i j && p' j k)) := fun Q q => ha _ (hb _ ⟨i, j, rfl, rfl, _, rfl, by
  show if p i j = true then _ else _
  cases e : p i j
  · rw [e] at q; exact q
  · rw [e] at q; exact hc _ ⟨j, k, rfl, rfl, q⟩⟩)
theorem vl_ifx (ht : Tl tt σ H a) (ha : Vl ta σ H x) (hb : Vl tb σ H y) : Vl (tIf tt ta tb) σ H (if a = true then x else y) := fun Q q => ht _ (by
  cases a
  · exact hb _ q
  · exact ha _ q)
theorem tl_test (h : Vl te σ H (.bl b)) : Tl (tTest te) σ H b := fun _ q => h _ ⟨b, rfl, q⟩
theorem tl_B (h : Vl te σ H (.bl b)) : Tl (tB te) σ H b := fun _ q => h _ ⟨b, rfl, q⟩
theorem tl_and (h1 : Tl tt σ H a) (h2 : Tl tu σ H b) : Tl (tAnd tt tu) σ H (a && b) := fun _ q => h1 _ (by
  cases a
  · exact q
  · exact h2 _ q)
theorem tl_or (h1 : Tl tt σ H a) (h2 : Tl tu σ H b) : Tl (tOr tt tu) σ H (a || b) := fun _ q => h1 _ (by
  cases a
  · exact h2 _ q
  · exact q)
theorem tl_not (h1 : Tl tt σ H a) : Tl (tNot tt) σ H (!a) := fun _ q => h1 _ q
/-- a reading whose parts only reckon -/
theorem p_AndV (h : Vl (tAndV ta tb) σ H v) (q : Q v H) : tAndV ta tb σ H Q := h Q q
theorem p_OrV (h : Vl (tOrV ta tb) σ H v) (q : Q v H) : tOrV ta tb σ H Q := h Q q
theorem p_Chain {r r' : R2} (h : Vl (tChain r r' ta tb tc) σ H v) (q : Q v H) : tChain r r' ta tb tc σ H Q := h Q q
theorem p_If (h : Vl (tIf tt ta tb) σ H v) (q : Q v H) : tIf tt ta tb σ H Q := h Q q
theorem p_And (h : Tl (tAnd tt tu) σ H b) (q : QT b H) : tAnd tt tu σ H QT := h QT q
theorem p_Or (h : Tl (tOr tt tu) σ H b) (q : QT b H) : tOr tt tu σ H QT := h QT q
/-- behind a first part that does more -/
theorem j_and {c : Bool} {A : Prop} (h : Vl tb σ H (.bl b)) (e : Q (.bl false) H → A) (q : Q (.bl (c && b)) H) : if c = true then tb σ H Q else A := by
  cases c
  · exact e q
  · exact h _ q
theorem j_or {c : Bool} {A : Prop} (h : Vl tb σ H (.bl b)) (e : Q (.bl true) H → A) (q : Q (.bl (c || b)) H) : if c = true then A else tb σ H Q := by
  cases c
  · exact h _ q
  · exact e q
end
end GT

/-! ## data: None, bools, whole numbers, texts, tuples and lists of such; how they stand in a heap; == of them -/
namespace GT
open PySem PySem.Spec PyProof.Rows L2
inductive Dt where
  | non
  | bl (b : Bool)
  | num (i : Int)
  | txt (x : Str)
  | tup (ds : List Dt)
  | lst (ds : List Dt)
namespace Dt
mutual
/-- == of Python -/
def beq : Dt → Dt → Bool
  | .non, .non => true
  | .bl a, .bl b => a == b
  | .bl a, .num j => (if a then 1 else 0) == j
  | .num i, .bl b => i == (if b then 1 else 0)
  | .num a, .num b => decide (a = b)
  | .txt a, .txt b => decide (a = b)
  | .tup a, .tup b => beqAll a b
  | .lst a, .lst b => beqAll a b
  | .non, .bl _ | .non, .num _ | .non, .txt _ | .non, .tup _ | .non, .lst _ => false
  | .bl _, .non | .bl _, .txt _ | .bl _, .tup _ | .bl _, .lst _ => false
  | .num _, .non | .num _, .txt _ | .num _, .tup _ | .num _, .lst _ => false
  | .txt _, .non | .txt _, .bl _ | .txt _, .num _ | .txt _, .tup _ | .txt _, .lst _ => false
  | .tup _, .non | .tup _, .bl _ | .tup _, .num _ | .tup _, .txt _ | .tup _, .lst _ => false
  | .lst _, .non | .lst _, .bl _ | .lst _, .num _ | .lst _, .txt _ | .lst _, .tup _ => false
def beqAll : List Dt → List Dt → Bool
  | [], [] => true
  | a :: as, b :: bs => beq a b && beqAll as bs
  | [], _ :: _ => false
  | _ :: _, [] => false
end
mutual
theorem beq_self : ∀ a : Dt, beq a a = true
  | .non => rfl
  | .bl a => by simp [beq]
  | .num a => by simp [beq]
  | .txt a => by simp [beq]
  | .tup a => by rw [beq]; exact beqAll_self a
  | .lst a => by rw [beq]; exact beqAll_self a
theorem beqAll_self : ∀ a : List Dt, beqAll a a = true
  | [] => rfl
  | a :: as => by rw [beqAll, beq_self a, beqAll_self as]; rfl
end
mutual
def depth : Dt → Nat
  | .non => 0
  | .bl _ => 0
  | .num _ => 0
  | .txt _ => 0
  | .tup ks => depthAll ks + 1
  | .lst ks => depthAll ks + 1
def depthAll : List Dt → Nat
  | [] => 0
  | k :: ks => max (depth k) (depthAll ks)
end
mutual
/-- no list and no bool within -/
def flat : Dt → Bool
  | .non => true
  | .bl _ => false
  | .num _ => true
  | .txt _ => true
  | .tup ks => flatAll ks
  | .lst _ => false
def flatAll : List Dt → Bool
  | [] => true
  | k :: ks => flat k && flatAll ks
end
mutual
/-- as a key of a dict -/
def key : Dt → NestedKey
  | .non => .none
  | .bl b => .num (if b then 1 else 0)
  | .num i => .num i
  | .txt x => .text x
  | .tup ks => .tup (keys ks)
  | .lst _ => .none
def keys : List Dt → List NestedKey
  | [] => []
  | k :: ks => key k :: keys ks
end
mutual
/-- without bools: == is equality -/
def pure : Dt → Bool
  | .bl _ => false
  | .tup ks => pureAll ks
  | .lst ks => pureAll ks
  | _ => true
def pureAll : List Dt → Bool
  | [] => true
  | k :: ks => pure k && pureAll ks
end
mutual
theorem eq_of_beq : ∀ a b : Dt, pure a = true → pure b = true → beq a b = true → a = b
  | .non, .non, _, _, _ => rfl
  | .num a, .num b, _, _, h => by simp only [beq, decide_eq_true_eq] at h; rw [h]
  | .txt a, .txt b, _, _, h => by simp only [beq, decide_eq_true_eq] at h; rw [h]
  | .tup a, .tup b, pa, pb, h => by rw [beq] at h; rw [pure] at pa pb; rw [eq_of_beqAll a b pa pb h]
  | .lst a, .lst b, pa, pb, h => by rw [beq] at h; rw [pure] at pa pb; rw [eq_of_beqAll a b pa pb h]
  | .bl _, _, p, _, _ => by simp [pure] at p
  | _, .bl _, _, p, _ => by simp [pure] at p
  | .non, .num _, _, _, h | .non, .txt _, _, _, h | .non, .tup _, _, _, h | .non, .lst _, _, _, h => by simp [beq] at h
  | .num _, .non, _, _, h | .num _, .txt _, _, _, h | .num _, .tup _, _, _, h | .num _, .lst _, _, _, h => by simp [beq] at h
  | .txt _, .non, _, _, h | .txt _, .num _, _, _, h | .txt _, .tup _, _, _, h | .txt _, .lst _, _, _, h => by simp [beq] at h
  | .tup _, .non, _, _, h | .tup _, .num _, _, _, h | .tup _, .txt _, _, _, h | .tup _, .lst _, _, _, h => by simp [beq] at h
  | .lst _, .non, _, _, h | .lst _, .num _, _, _, h | .lst _, .txt _, _, _, h | .lst _, .tup _, _, _, h => by simp [beq] at h
theorem eq_of_beqAll : ∀ a b : List Dt, pureAll a = true → pureAll b = true → beqAll a b = true → a = b
  | [], [], _, _, _ => rfl
  | a :: as, b :: bs, pa, pb, h => by
    rw [beqAll, Bool.and_eq_true] at h
    rw [pureAll, Bool.and_eq_true] at pa pb
    rw [eq_of_beq a b pa.1 pb.1 h.1, eq_of_beqAll as bs pa.2 pb.2 h.2]
  | [], _ :: _, _, _, h => by simp [beqAll] at h
  | _ :: _, [], _, _, h => by simp [beqAll] at h
end
theorem beq_iff {a b : Dt} (pa : pure a = true) (pb : pure b = true) : beq a b = true ↔ a = b := ⟨eq_of_beq a b pa pb, fun e => by rw [e]; exact beq_self b⟩
end Dt
abbrev Dt.eqAt2 (xs ys : List Dt) (j : Nat) : Bool := Dt.beq (xs.getD j .non) (ys.getD j .non)
theorem Dt.beqAll_eq : ∀ xs ys : List Dt, ((List.range (min xs.length ys.length)).all (Dt.eqAt2 xs ys) && xs.length == ys.length) = Dt.beqAll xs ys
  | [], [] => rfl
  | [], _ :: _ => by simp [Dt.beqAll]
  | _ :: _, [] => by simp [Dt.beqAll]
  | x :: xs, y :: ys => by
    have ih := Dt.beqAll_eq xs ys
    have e1 : min (x :: xs).length (y :: ys).length = min xs.length ys.length + 1 := by simp only [List.length_cons]; omega
    have e2 : ((x :: xs).length == (y :: ys).length) = (xs.length == ys.length) := by simp
    have e3 : (List.range (min xs.length ys.length + 1)).all (Dt.eqAt2 (x :: xs) (y :: ys)) = (Dt.beq x y && (List.range (min xs.length ys.length)).all (Dt.eqAt2 xs ys)) := by
      rw [List.range_succ_eq_map, List.all_cons, List.all_map]
      first | rfl | simp [Dt.eqAt2, Function.comp_def]
    rw [e1, e2, e3, Dt.beqAll, ← ih, Bool.and_assoc]
theorem Dt.beqAll_other : ∀ xs ys : List Dt, xs.length ≠ ys.length → Dt.beqAll xs ys = false := fun xs ys h => by
  rw [← Dt.beqAll_eq, show (xs.length == ys.length) = false from beq_eq_false_iff_ne.mpr h, Bool.and_false]
theorem Dt.beqAll_same (xs ys : List Dt) (h : xs.length = ys.length) : (List.range xs.length).all (Dt.eqAt2 xs ys) = Dt.beqAll xs ys := by
  rw [← Dt.beqAll_eq, ← h, Nat.min_self]
  simp
/-! ### in a heap of the model -/
mutual
inductive DtIs (h : Heap) : Dt → Value → Prop
  | non : DtIs h .non .none
  | bl (b) : DtIs h (.bl b) (.bool b)
  | num (i t) : DtIs h (.num i) (.int i t)
  | txt (x t) : DtIs h (.txt x) (.str x t)
  | tup {a vs ks} : h.IsTuple a vs → DtAll h ks vs.toList → DtIs h (.tup ks) (.ref a)
  | lst {a vs ks} : h.IsList a vs → DtAll h ks vs.toList → DtIs h (.lst ks) (.ref a)
inductive DtAll (h : Heap) : List Dt → List Value → Prop
  | nil : DtAll h [] []
  | cons {k v ks vs} : DtIs h k v → DtAll h ks vs → DtAll h (k :: ks) (v :: vs)
end
theorem DtAll.length {h : Heap} : ∀ (ks : List Dt) (vs : List Value), DtAll h ks vs → vs.length = ks.length
  | [], _, r => by cases r; rfl
  | _ :: ks, _, r => by
    cases r with
    | cons _ r' => simp [DtAll.length ks _ r']
theorem ne_list_tuple {h : Heap} {a : Addr} {vs ws : Array Value} (h1 : h.IsList a vs) (h2 : h.IsTuple a ws) : False := by
  obtain ⟨o, e, c, _⟩ := h1
  obtain ⟨o', e', c', _⟩ := h2
  rw [e] at e'; cases e'
  rw [c] at c'
  injection c' with c'
  exact absurd c' (by decide)
mutual
theorem DtIs.inj {h : Heap} : ∀ (x y : Dt) (v : Value), DtIs h x v → DtIs h y v → x = y
  | .non, _, _, hx, hy => by cases hx; cases hy; rfl
  | .bl _, _, _, hx, hy => by cases hx; cases hy; rfl
  | .num i, _, _, hx, hy => by cases hx; cases hy; rfl
  | .txt x, _, _, hx, hy => by cases hx; cases hy; rfl
  | .tup ks, _, _, hx, hy => by
    cases hx with
    | tup h1 h4 =>
      cases hy with
      | tup k1 k4 =>
        obtain ⟨o, e, c, n, d⟩ := h1
        obtain ⟨o', e', c', n', d'⟩ := k1
        rw [e] at e'; cases e'
        rw [d] at d'; cases d'
        rw [DtAll.inj ks _ _ h4 k4]
      | lst k1 k4 => exact (ne_list_tuple k1 h1).elim
  | .lst ks, _, _, hx, hy => by
    cases hx with
    | lst h1 h4 =>
      cases hy with
      | lst k1 k4 =>
        obtain ⟨o, e, c, n, d⟩ := h1
        obtain ⟨o', e', c', n', d'⟩ := k1
        rw [e] at e'; cases e'
        rw [d] at d'; cases d'
        rw [DtAll.inj ks _ _ h4 k4]
      | tup k1 k4 => exact (ne_list_tuple h1 k1).elim
theorem DtAll.inj {h : Heap} : ∀ (xs ys : List Dt) (vs : List Value), DtAll h xs vs → DtAll h ys vs → xs = ys
  | [], _, _, hx, hy => by cases hx; cases hy; rfl
  | x :: xs, _, _, hx, hy => by
    cases hx with
    | cons h1 h2 =>
      cases hy with
      | cons k1 k2 => rw [DtIs.inj x _ _ h1 k1, DtAll.inj xs _ _ h2 k2]
end
section
open SeqAt
theorem dt_here {n a b : Nat} (h : n + min (a + 1) (b + 1) < cLine) : n < cLine := by omega
theorem dt_in {A : Around} {a b : Nat} (h : A.units + min (a + 1) (b + 1) < cLine) : A.in1.units + min a b < cLine := by rw [Around.in1_units]; omega
mutual
theorem eqAt_dt : ∀ (x y : Dt) (A : Around) (s : Shared) (a b : Value), DtIs s.heap x a → DtIs s.heap y b → A.units + 1 + min x.depth y.depth < cLine → EqAt A s a b (Dt.beq x y)
  | .non, _, A, s, _, _, ra, rb, hu => by
    cases ra
    cases rb with
    | non => exact EqAt.same _
    | bl y => exact EqAt.none_bool _
    | num y u => exact EqAt.none_int y u
    | txt y u => exact EqAt.none_str y u
    | tup k1 k4 => exact EqAt.none_tuple k1 (by omega)
    | lst k1 k4 => exact EqAt.none_list k1 (by omega)
  | .bl x, _, A, s, _, _, ra, rb, hu => by
    cases ra
    cases rb with
    | non => exact EqAt.bool_none x
    | bl y => exact (EqAt.bool_bool x y).cast rfl
    | num y u => exact (EqAt.bool_int x y u).cast rfl
    | txt y u => exact EqAt.bool_str x y u
    | tup k1 k4 => exact EqAt.bool_tuple x k1 (by omega)
    | lst k1 k4 => exact EqAt.bool_list x k1 (by omega)
  | .num i, _, A, s, _, _, ra, rb, hu => by
    cases ra with
    | num _ t =>
      cases rb with
      | non => exact EqAt.int_none i t
      | bl y => exact (EqAt.int_bool i t y).cast rfl
      | num y u => exact (EqAt.int_int i t y u).cast rfl
      | txt y u => exact EqAt.int_str i t y u
      | tup k1 k4 => exact EqAt.int_tuple i t k1 (by omega)
      | lst k1 k4 => exact EqAt.int_list i t k1 (by omega)
  | .txt x, _, A, s, _, _, ra, rb, hu => by
    cases ra with
    | txt _ t =>
      cases rb with
      | non => exact EqAt.str_none x t
      | bl y => exact EqAt.str_bool x t y
      | num y u => exact EqAt.str_int x t y u
      | txt y u => exact (EqAt.str_str x t y u).cast rfl
      | tup k1 k4 => exact EqAt.str_tuple x t k1 (by omega)
      | lst k1 k4 => exact EqAt.str_list x t k1 (by omega)
  | .tup xs, _, A, s, _, _, ra, rb, hu => by
    cases ra with
    | @tup l vs _ hl h4 =>
      cases rb with
      | non => exact EqAt.tuple_none hl (by omega)
      | bl y => exact EqAt.tuple_bool y hl (by omega)
      | num y u => exact EqAt.tuple_int y u hl (by omega)
      | txt y u => exact EqAt.tuple_str y u hl (by omega)
      | lst k1 k4 => exact EqAt.tuple_list hl k1 (by omega)
      | @tup l' vs' ys hl' k4 =>
        by_cases hll : l = l'
        · subst hll
          obtain ⟨o, e, c, n, d⟩ := hl
          obtain ⟨o', e', c', n', d'⟩ := hl'
          rw [e] at e'; cases e'
          rw [d] at d'; cases d'
          rw [← DtAll.inj xs ys _ h4 k4, Dt.beq, Dt.beqAll_self]
          exact EqAt.same _
        · have n1 : vs.size = xs.length := by simpa using DtAll.length _ _ h4
          have n2 : vs'.size = ys.length := by simpa using DtAll.length _ _ k4
          show EqAt A s (.ref l) (.ref l') (Dt.beqAll xs ys)
          rw [← Dt.beqAll_eq xs ys, ← n1, ← n2]
          refine EqAt.of_refs hll (RcAt.tuples hl hl' (by omega) fun j j1 j2 => ?_)
          have := eqAt_dts xs ys A.in1 s vs.toList vs'.toList h4 k4 (by simp only [Dt.depth] at hu; rw [Around.in1_units]; omega) j (by simpa using j1) (by simpa using j2)
          simpa using this
  | .lst xs, _, A, s, _, _, ra, rb, hu => by
    cases ra with
    | @lst l vs _ hl h4 =>
      cases rb with
      | non => exact EqAt.list_none hl (by omega)
      | bl y => exact EqAt.list_bool y hl (by omega)
      | num y u => exact EqAt.list_int y u hl (by omega)
      | txt y u => exact EqAt.list_str y u hl (by omega)
      | tup k1 k4 => exact EqAt.list_tuple hl k1 (by omega)
      | @lst l' vs' ys hl' k4 =>
        by_cases hll : l = l'
        · subst hll
          obtain ⟨o, e, c, n, d⟩ := hl
          obtain ⟨o', e', c', n', d'⟩ := hl'
          rw [e] at e'; cases e'
          rw [d] at d'; cases d'
          rw [← DtAll.inj xs ys _ h4 k4, Dt.beq, Dt.beqAll_self]
          exact EqAt.same _
        · have n1 : vs.size = xs.length := by simpa using DtAll.length _ _ h4
          have n2 : vs'.size = ys.length := by simpa using DtAll.length _ _ k4
          show EqAt A s (.ref l) (.ref l') (Dt.beqAll xs ys)
          by_cases hsz : vs.size = vs'.size
          · rw [← Dt.beqAll_same xs ys (by omega), ← n1]
            refine EqAt.of_refs hll (RcAt.lists hl hl' hsz (by omega) fun j j1 j2 => ?_)
            have := eqAt_dts xs ys A.in1 s vs.toList vs'.toList h4 k4 (by simp only [Dt.depth] at hu; rw [Around.in1_units]; omega) j (by simpa using j1) (by simpa using j2)
            simpa using this
          · rw [Dt.beqAll_other xs ys (by omega)]
            exact EqAt.of_refs hll (RcAt.lists_lengths hl hl' (by simpa using hsz) (by omega))
theorem eqAt_dts : ∀ (xs ys : List Dt) (A : Around) (s : Shared) (vs ws : List Value), DtAll s.heap xs vs → DtAll s.heap ys ws →
    A.units + 1 + min (Dt.depthAll xs) (Dt.depthAll ys) < cLine → ∀ j (h1 : j < vs.length) (h2 : j < ws.length), EqAt A s vs[j] ws[j] (Dt.eqAt2 xs ys j)
  | [], _, _, _, _, _, ra, _, _, j, h1, _ => by cases ra; exact absurd h1 (Nat.not_lt_zero _)
  | _ :: _, [], _, _, _, _, _, rb, _, j, _, h2 => by cases rb; exact absurd h2 (Nat.not_lt_zero _)
  | x :: xs, y :: ys, A, s, _, _, ra, rb, hu, j, h1, h2 => by
    cases ra with
    | cons r rs =>
      cases rb with
      | cons r' rs' =>
        simp only [Dt.depthAll] at hu
        cases j with
        | zero => exact eqAt_dt x y A s _ _ r r' (by omega)
        | succ j => exact eqAt_dts xs ys A s _ _ rs rs' (by omega) j (Nat.lt_of_succ_lt_succ h1) (Nat.lt_of_succ_lt_succ h2)
end
end
end GT

namespace GT
open PySem PySem.Spec PyProof.Rows L2
section
open SeqAt
theorem rcAt_dt {x y : Dt} {A : Around} {s : Shared} {a b : Value} (ra : DtIs s.heap x a) (rb : DtIs s.heap y b) (hu : A.units + 1 + min x.depth y.depth < cLine) : RcAt A s a b (Dt.beq x y) := by
  cases ra with
  | non =>
    cases rb with
    | non => exact RcAt.none_none
    | bl y => exact RcAt.none_bool y
    | num y u => exact RcAt.none_int y u
    | txt y u => exact RcAt.none_str y u
    | tup k1 k4 => exact RcAt.none_tuple k1 (by omega)
    | lst k1 k4 => exact RcAt.none_list k1 (by omega)
  | bl x =>
    cases rb with
    | non => exact RcAt.bool_none x
    | bl y => exact RcAt.bool_bool x y
    | num y u => exact RcAt.bool_int x y u
    | txt y u => exact RcAt.bool_str x y u
    | tup k1 k4 => exact RcAt.bool_tuple x k1 (by omega)
    | lst k1 k4 => exact RcAt.bool_list x k1 (by omega)
  | num x t =>
    cases rb with
    | non => exact RcAt.int_none x t
    | bl y => exact RcAt.int_bool x t y
    | num y u => exact RcAt.int_int x t y u
    | txt y u => exact RcAt.int_str x t y u
    | tup k1 k4 => exact RcAt.int_tuple x t k1 (by omega)
    | lst k1 k4 => exact RcAt.int_list x t k1 (by omega)
  | txt x t =>
    cases rb with
    | non => exact RcAt.str_none x t
    | bl y => exact RcAt.str_bool x t y
    | num y u => exact RcAt.str_int x t y u
    | txt y u => exact RcAt.str_str x t y u
    | tup k1 k4 => exact RcAt.str_tuple x t k1 (by omega)
    | lst k1 k4 => exact RcAt.str_list x t k1 (by omega)
  | @tup l vs xs hl h4 =>
    cases rb with
    | non => exact RcAt.tuple_none hl (by omega)
    | bl y => exact RcAt.tuple_bool y hl (by omega)
    | num y u => exact RcAt.tuple_int y u hl (by omega)
    | txt y u => exact RcAt.tuple_str y u hl (by omega)
    | lst k1 k4 => exact RcAt.tuple_list hl k1 (by omega)
    | @tup l' vs' ys hl' k4 =>
      have n1 : vs.size = xs.length := by simpa using DtAll.length _ _ h4
      have n2 : vs'.size = ys.length := by simpa using DtAll.length _ _ k4
      show RcAt A s (.ref l) (.ref l') (Dt.beqAll xs ys)
      rw [← Dt.beqAll_eq xs ys, ← n1, ← n2]
      refine RcAt.tuples hl hl' (by omega) fun j j1 j2 => ?_
      have := eqAt_dts xs ys A.in1 s vs.toList vs'.toList h4 k4 (by simp only [Dt.depth] at hu; rw [Around.in1_units]; omega) j (by simpa using j1) (by simpa using j2)
      simpa using this
  | @lst l vs xs hl h4 =>
    cases rb with
    | non => exact RcAt.list_none hl (by omega)
    | bl y => exact RcAt.list_bool y hl (by omega)
    | num y u => exact RcAt.list_int y u hl (by omega)
    | txt y u => exact RcAt.list_str y u hl (by omega)
    | tup k1 k4 => exact RcAt.list_tuple hl k1 (by omega)
    | @lst l' vs' ys hl' k4 =>
      have n1 : vs.size = xs.length := by simpa using DtAll.length _ _ h4
      have n2 : vs'.size = ys.length := by simpa using DtAll.length _ _ k4
      show RcAt A s (.ref l) (.ref l') (Dt.beqAll xs ys)
      by_cases hsz : vs.size = vs'.size
      · rw [← Dt.beqAll_same xs ys (by omega), ← n1]
        refine RcAt.lists hl hl' hsz (by omega) fun j j1 j2 => ?_
        have := eqAt_dts xs ys A.in1 s vs.toList vs'.toList h4 k4 (by simp only [Dt.depth] at hu; rw [Around.in1_units]; omega) j (by simpa using j1) (by simpa using j2)
        simpa using this
      · rw [Dt.beqAll_other xs ys (by omega)]
        exact RcAt.lists_lengths hl hl' (by simpa using hsz) (by omega)
theorem rcNeAt_dt {x y : Dt} {A : Around} {s : Shared} {a b : Value} (ra : DtIs s.heap x a) (rb : DtIs s.heap y b) (hu : A.units + 1 + min x.depth y.depth < cLine) : RcNeAt A s a b (!Dt.beq x y) := by
  cases ra with
  | non =>
    cases rb with
    | non => exact RcNeAt.none_none
    | bl y => exact RcNeAt.none_bool y
    | num y u => exact RcNeAt.none_int y u
    | txt y u => exact RcNeAt.none_str y u
    | tup k1 k4 => exact RcNeAt.none_tuple k1 (by omega)
    | lst k1 k4 => exact RcNeAt.none_list k1 (by omega)
  | bl x =>
    cases rb with
    | non => exact RcNeAt.bool_none x
    | bl y => exact RcNeAt.bool_bool x y
    | num y u => exact RcNeAt.bool_int x y u
    | txt y u => exact RcNeAt.bool_str x y u
    | tup k1 k4 => exact RcNeAt.bool_tuple x k1 (by omega)
    | lst k1 k4 => exact RcNeAt.bool_list x k1 (by omega)
  | num x t =>
    cases rb with
    | non => exact RcNeAt.int_none x t
    | bl y => exact RcNeAt.int_bool x t y
    | num y u => exact RcNeAt.int_int x t y u
    | txt y u => exact RcNeAt.int_str x t y u
    | tup k1 k4 => exact RcNeAt.int_tuple x t k1 (by omega)
    | lst k1 k4 => exact RcNeAt.int_list x t k1 (by omega)
  | txt x t =>
    cases rb with
    | non => exact RcNeAt.str_none x t
    | bl y => exact RcNeAt.str_bool x t y
    | num y u => exact RcNeAt.str_int x t y u
    | txt y u => exact RcNeAt.str_str x t y u
    | tup k1 k4 => exact RcNeAt.str_tuple x t k1 (by omega)
    | lst k1 k4 => exact RcNeAt.str_list x t k1 (by omega)
  | @tup l vs xs hl h4 =>
    cases rb with
    | non => exact RcNeAt.tuple_none hl (by omega)
    | bl y => exact RcNeAt.tuple_bool y hl (by omega)
    | num y u => exact RcNeAt.tuple_int y u hl (by omega)
    | txt y u => exact RcNeAt.tuple_str y u hl (by omega)
    | lst k1 k4 => exact RcNeAt.tuple_list hl k1 (by omega)
    | @tup l' vs' ys hl' k4 =>
      have n1 : vs.size = xs.length := by simpa using DtAll.length _ _ h4
      have n2 : vs'.size = ys.length := by simpa using DtAll.length _ _ k4
      show RcNeAt A s (.ref l) (.ref l') (!Dt.beqAll xs ys)
      rw [← Dt.beqAll_eq xs ys, ← n1, ← n2]
      refine RcNeAt.tuples hl hl' (by omega) fun j j1 j2 => ?_
      have := eqAt_dts xs ys A.in1 s vs.toList vs'.toList h4 k4 (by simp only [Dt.depth] at hu; rw [Around.in1_units]; omega) j (by simpa using j1) (by simpa using j2)
      simpa using this
  | @lst l vs xs hl h4 =>
    cases rb with
    | non => exact RcNeAt.list_none hl (by omega)
    | bl y => exact RcNeAt.list_bool y hl (by omega)
    | num y u => exact RcNeAt.list_int y u hl (by omega)
    | txt y u => exact RcNeAt.list_str y u hl (by omega)
    | tup k1 k4 => exact RcNeAt.list_tuple hl k1 (by omega)
    | @lst l' vs' ys hl' k4 =>
      have n1 : vs.size = xs.length := by simpa using DtAll.length _ _ h4
      have n2 : vs'.size = ys.length := by simpa using DtAll.length _ _ k4
      show RcNeAt A s (.ref l) (.ref l') (!Dt.beqAll xs ys)
      by_cases hsz : vs.size = vs'.size
      · rw [← Dt.beqAll_same xs ys (by omega), ← n1]
        refine RcNeAt.lists hl hl' hsz (by omega) fun j j1 j2 => ?_
        have := eqAt_dts xs ys A.in1 s vs.toList vs'.toList h4 k4 (by simp only [Dt.depth] at hu; rw [Around.in1_units]; omega) j (by simpa using j1) (by simpa using j2)
        simpa using this
      · rw [Dt.beqAll_other xs ys (by omega)]
        exact RcNeAt.lists_lengths hl hl' (by simpa using hsz) (by omega)
end
/-! ### in the abstract heap -/
/-- a tuple that never changes: tracked, or of the written part -/
def TupAt (K : PySem.W.Frag) (H : Hp) (a : Addr) (xs : List V) : Prop :=
  H a = some (.tup xs) ∨ ∃ (o : Obj) (its : Array Value) (n : Nat), K.lookup a = some o ∧ o.cls = .type "tuple" ∧ o.data = .seq its n ∧ its.size ≤ sizeLine ∧ Vals xs its.toList
mutual
inductive DtAt (K : PySem.W.Frag) (H : Hp) : V → Dt → Prop
  | non : DtAt K H .non .non
  | bl (b : Bool) : DtAt K H (.bl b) (.bl b)
  | num (i : Int) : DtAt K H (.int i) (.num i)
  | txt (x : Str) : DtAt K H (.str x) (.txt x)
  | tup {a : Addr} {xs : List V} {ds : List Dt} : TupAt K H a xs → DtsAt K H xs ds → DtAt K H (.ref a) (.tup ds)
  | lst {a : Addr} {xs : List V} {ds : List Dt} : SqL K H a xs → DtsAt K H xs ds → DtAt K H (.ref a) (.lst ds)
inductive DtsAt (K : PySem.W.Frag) (H : Hp) : List V → List Dt → Prop
  | nil : DtsAt K H [] []
  | cons {v : V} {vs : List V} {d : Dt} {ds : List Dt} : DtAt K H v d → DtsAt K H vs ds → DtsAt K H (v :: vs) (d :: ds)
end
section
variable {K : PySem.W.Frag} {H H1 : Hp} {M : List Addr}
theorem TupAt.stp {a : Addr} {xs : List V} (h : TupAt K H a xs) (s : Stp M H H1) : TupAt K H1 a xs := by
  rcases h with h | h
  · exact .inl (s.tups _ _ h)
  · exact .inr h
theorem TupAt.sqt {a : Addr} {xs : List V} (h : TupAt K H a xs) : SqT K H a xs := by
  rcases h with h | h
  · exact .inl (.inl h)
  · exact .inr h
mutual
/-- data without lists stay whatever is changed -/
theorem DtAt.stp (s : Stp M H H1) : ∀ (d : Dt) (v : V), d.flat = true → DtAt K H v d → DtAt K H1 v d
  | .non, _, _, h => by cases h; exact .non
  | .bl _, _, f, h => by simp [Dt.flat] at f
  | .num _, _, _, h => by cases h; exact .num _
  | .txt _, _, _, h => by cases h; exact .txt _
  | .tup ds, _, f, h => by
    cases h with
    | tup h1 h2 => exact .tup (h1.stp s) (DtsAt.stp s ds _ (by simpa [Dt.flat] using f) h2)
  | .lst _, _, f, _ => by simp [Dt.flat] at f
theorem DtsAt.stp (s : Stp M H H1) : ∀ (ds : List Dt) (vs : List V), Dt.flatAll ds = true → DtsAt K H vs ds → DtsAt K H1 vs ds
  | [], _, _, h => by cases h; exact .nil
  | d :: ds, _, f, h => by
    cases h with
    | cons h1 h2 =>
      simp only [Dt.flatAll, Bool.and_eq_true] at f
      exact .cons (DtAt.stp s d _ f.1 h1) (DtsAt.stp s ds _ f.2 h2)
end
theorem DtsAt.length : ∀ {vs : List V} {ds : List Dt}, DtsAt K H vs ds → vs.length = ds.length
  | _, _, .nil => rfl
  | _, _, .cons _ t => by simp [DtsAt.length t]
theorem DtsAt.get : ∀ {vs : List V} {ds : List Dt} {i : Nat} {d : Dt}, DtsAt K H vs ds → ds[i]? = some d → ∃ v, vs[i]? = some v ∧ DtAt K H v d
  | _, _, _, _, .nil, e => by simp at e
  | _, _, 0, _, .cons r _, e => by simp at e; subst e; exact ⟨_, rfl, r⟩
  | _, _, i + 1, d, .cons _ t, e => by
    obtain ⟨v, h1, h2⟩ := DtsAt.get (i := i) (d := d) t (by simpa using e)
    exact ⟨v, by simpa using h1, h2⟩
theorem DtsAt.getV : ∀ {vs : List V} {ds : List Dt} {i : Nat} {v : V}, DtsAt K H vs ds → vs[i]? = some v → ∃ d, ds[i]? = some d ∧ DtAt K H v d
  | _, _, _, _, .nil, e => by simp at e
  | _, _, 0, _, .cons r _, e => by simp at e; subst e; exact ⟨_, rfl, r⟩
  | _, _, i + 1, v, .cons _ t, e => by
    obtain ⟨d, h1, h2⟩ := DtsAt.getV (i := i) (v := v) t (by simpa using e)
    exact ⟨d, by simpa using h1, h2⟩
theorem DtsAt.append : ∀ {vs ws : List V} {ds es : List Dt}, DtsAt K H vs ds → DtsAt K H ws es → DtsAt K H (vs ++ ws) (ds ++ es)
  | _, _, _, _, .nil, s => s
  | _, _, _, _, .cons r t, s => .cons r (DtsAt.append t s)
theorem DtsAt.snoc {vs : List V} {ds : List Dt} {v : V} {d : Dt} (r : DtsAt K H vs ds) (h : DtAt K H v d) : DtsAt K H (vs ++ [v]) (ds ++ [d]) := r.append (.cons h .nil)
end
section
variable {X : Cx} {pins : List (Addr × Obj)} {σ : L2.St} {H : Hp} {s : Shared}
mutual
theorem DtAt.is (I : Inv X pins σ H s) : ∀ (d : Dt) (v : V) (u : Value), DtAt X.K H v d → RelV v u → DtIs s.heap d u
  | .non, _, _, h, r => by cases h; cases r; exact .non
  | .bl b, _, _, h, r => by cases h; cases r; exact .bl b
  | .num i, _, _, h, r => by cases h; obtain ⟨t, rfl⟩ := r; exact .num i t
  | .txt x, _, _, h, r => by cases h; obtain ⟨t, rfl⟩ := r; exact .txt x t
  | .tup ds, _, _, h, r => by
    cases h with
    | tup h1 h2 =>
      cases r
      obtain ⟨its, rv, ht, _⟩ := I.tuple h1.sqt
      exact .tup ht (by simpa using DtsAt.is I ds _ its h2 rv)
  | .lst ds, _, _, h, r => by
    cases h with
    | lst h1 h2 =>
      cases r
      obtain ⟨its, rv, ht, _⟩ := I.list h1
      exact .lst ht.isList (by simpa using DtsAt.is I ds _ its h2 rv)
theorem DtsAt.is (I : Inv X pins σ H s) : ∀ (ds : List Dt) (vs : List V) (us : List Value), DtsAt X.K H vs ds → Vals vs us → DtAll s.heap ds us
  | [], _, _, h, r => by cases h; cases r; exact .nil
  | d :: ds, _, _, h, r => by
    cases h with
    | cons h1 h2 =>
      cases r with
      | cons r1 r2 => exact .cons (DtAt.is I d _ _ h1 r1) (DtsAt.is I ds _ _ h2 r2)
end
end
section
variable {X : Cx}
def rEqT (K : PySem.W.Frag) : R2 := fun x y H Q => ∃ d e, DtAt K H x d ∧ DtAt K H y e ∧ d.depth ≤ 60 ∧ e.depth ≤ 60 ∧ Q (.bl (Dt.beq d e)) H
def rNeT (K : PySem.W.Frag) : R2 := fun x y H Q => ∃ d e, DtAt K H x d ∧ DtAt K H y e ∧ d.depth ≤ 60 ∧ e.depth ≤ 60 ∧ Q (.bl (!Dt.beq d e)) H
theorem op_eqT (hu : X.A.units + 64 < cLine) : OpR X (compareOp .Eq) (rEqT X.K) := by
  intro pins s σ H x y v u Q I rx ry h
  obtain ⟨d, e, hd, he, sd, se, q⟩ := h
  exact rcAt_dt (DtAt.is I d x v hd rx) (DtAt.is I e y u he ry) (by omega) _ _ _ _ ⟨.bl _, H, I, rfl, q⟩
theorem op_neT (hu : X.A.units + 64 < cLine) : OpR X (compareOp .NotEq) (rNeT X.K) := by
  intro pins s σ H x y v u Q I rx ry h
  obtain ⟨d, e, hd, he, sd, se, q⟩ := h
  exact rcNeAt_dt (DtAt.is I d x v hd rx) (DtAt.is I e y u he ry) (by omega) _ _ _ _ ⟨.bl _, H, I, rfl, q⟩
open Classical in
/-- a value's datum -/
noncomputable def datOf (h : Heap) (v : Value) : Dt := if e : ∃ d, DtIs h d v then e.choose else .non
theorem datOf_eq {h : Heap} {v : Value} {d : Dt} (r : DtIs h d v) : datOf h v = d := by
  unfold datOf
  have e : ∃ d, DtIs h d v := ⟨d, r⟩
  rw [dif_pos e]
  exact DtIs.inj _ _ v e.choose_spec r
theorem DtAll.mem {h : Heap} : ∀ {ds : List Dt} {vs : List Value} {v : Value}, DtAll h ds vs → v ∈ vs → ∃ d ∈ ds, DtIs h d v
  | _, _, _, .nil, e => nomatch e
  | _, _, _, .cons r t, e => by
    rcases List.mem_cons.mp e with e | e
    · subst e; exact ⟨_, List.mem_cons_self, r⟩
    · obtain ⟨d, h1, h2⟩ := DtAll.mem t e
      exact ⟨d, List.mem_cons_of_mem _ h1, h2⟩
theorem Dt.depth_mem : ∀ {ds : List Dt} {d : Dt}, d ∈ ds → d.depth ≤ Dt.depthAll ds
  | _ :: _, _, e => by
    rcases List.mem_cons.mp e with e | e
    · subst e; simp only [Dt.depthAll]; omega
    · have := Dt.depth_mem e; simp only [Dt.depthAll]; omega
def rInT (K : PySem.W.Frag) : R2 := fun x y H Q => ∃ d ds, DtAt K H x d ∧ DtAt K H y (.lst ds) ∧ d.depth ≤ 60 ∧ Dt.depthAll ds ≤ 60 ∧ Q (.bl (ds.any fun z => Dt.beq z d)) H
def rNotInT (K : PySem.W.Frag) : R2 := fun x y H Q => ∃ d ds, DtAt K H x d ∧ DtAt K H y (.lst ds) ∧ d.depth ≤ 60 ∧ Dt.depthAll ds ≤ 60 ∧ Q (.bl (!ds.any fun z => Dt.beq z d)) H
theorem any_items {h : Heap} {e : Dt} {ds : List Dt} {vs : Array Value} (r : DtAll h ds vs.toList) : (vs.any fun v => Dt.beq (datOf h v) e) = ds.any fun d => Dt.beq d e := by
  rw [← Array.any_toList]
  generalize hl : vs.toList = l at r
  clear hl
  induction l generalizing ds with
  | nil => cases r; rfl
  | cons v l ih =>
    cases r with
    | cons r1 r2 => rw [List.any_cons, List.any_cons, datOf_eq r1, ih r2]
theorem op_inT (hu : X.A.units + 64 < cLine) : OpR X (compareOp .In) (rInT X.K) := by
  intro pins s σ H x y v u Q I rx ry h
  obtain ⟨d, ds, hd, he, sd, se, q⟩ := h
  have r1 := DtAt.is I d x v hd rx
  have r2 := DtAt.is I (.lst ds) y u he ry
  cases r2 with
  | @lst a vs _ h1 h4 =>
    refine SeqAt.in_listAt (fun w => Dt.beq (datOf s.heap w) d) h1 (fun w hw => ?_) ?_
    · obtain ⟨c, hc, rc⟩ := DtAll.mem h4 (Array.mem_def.mp hw)
      rw [datOf_eq rc]
      have hc2 := Dt.depth_mem hc
      exact eqAt_dt c d X.A.in1 s _ _ rc r1 (by rw [Around.in1_units]; omega)
    · rw [any_items h4]
      exact ⟨.bl _, H, I, rfl, q⟩
theorem op_notInT (hu : X.A.units + 64 < cLine) : OpR X (compareOp .NotIn) (rNotInT X.K) := by
  intro pins s σ H x y v u Q I rx ry h
  obtain ⟨d, ds, hd, he, sd, se, q⟩ := h
  have r1 := DtAt.is I d x v hd rx
  have r2 := DtAt.is I (.lst ds) y u he ry
  cases r2 with
  | @lst a vs _ h1 h4 =>
    refine SeqAt.notIn_listAt (fun w => Dt.beq (datOf s.heap w) d) h1 (fun w hw => ?_) ?_
    · obtain ⟨c, hc, rc⟩ := DtAll.mem h4 (Array.mem_def.mp hw)
      rw [datOf_eq rc]
      have hc2 := Dt.depth_mem hc
      exact eqAt_dt c d X.A.in1 s _ _ rc r1 (by rw [Around.in1_units]; omega)
    · rw [any_items h4]
      exact ⟨.bl _, H, I, rfl, q⟩
end
end GT
namespace GT
open PySem PySem.Spec PyProof.Rows L2
/-! ### isinstance of data -/
def Dt.ty : Dt → String
  | .non => "NoneType"
  | .bl _ => "bool"
  | .num _ => "int"
  | .txt _ => "str"
  | .tup _ => "tuple"
  | .lst _ => "list"
theorem tyx_dt {K : PySem.W.Frag} {H : Hp} {v : V} {d : Dt} (h : DtAt K H v d) : TyX K H v (.type d.ty) := by
  cases h with
  | non => exact .base .non
  | bl b => exact .base (.bl b)
  | num i => exact .base (.int i)
  | txt x => exact .base (.str x)
  | tup h1 h2 =>
    rcases h1 with h1 | ⟨o, its, n, e, c, _⟩
    · exact .base (.tup h1)
    · exact .kTuple e c
  | lst h1 h2 =>
    rcases h1 with (h1 | ⟨o, h1⟩) | ⟨o, its, n, e, c, _⟩
    · exact .base (.lst h1)
    · exact .base (.frz h1)
    · exact .kList e c
theorem i_Isi {K : PySem.W.Frag} {H : Hp} {Q : VK} {v : V} {n : String} {d : Dt} (T : String) (b : Bool) (h : DtAt K H v d) (q : Q (.bl b) H) (hT : d.ty = T := by rfl) (e : kitB T n = some b := by decide +kernel) : rIsi K [v, .ty n] H Q :=
  ⟨v, .ty n, _, _, b, rfl, .ty n, tyx_dt h, kit_ty (by rw [hT]; exact e), q⟩
theorem i_EqT {K : PySem.W.Frag} {H : Hp} {Q : VK} {x y : V} {d e : Dt} (hd : DtAt K H x d) (he : DtAt K H y e) (q : Q (.bl (Dt.beq d e)) H) (h1 : d.depth ≤ 60 := by first | decide | (simp [Dt.depth, Dt.depthAll]; done) | omega) (h2 : e.depth ≤ 60 := by first | decide | (simp [Dt.depth, Dt.depthAll]; done) | omega) : rEqT K x y H Q := ⟨d, e, hd, he, h1, h2, q⟩
theorem i_NeT {K : PySem.W.Frag} {H : Hp} {Q : VK} {x y : V} {d e : Dt} (hd : DtAt K H x d) (he : DtAt K H y e) (q : Q (.bl (!Dt.beq d e)) H) (h1 : d.depth ≤ 60 := by first | decide | (simp [Dt.depth, Dt.depthAll]; done) | omega) (h2 : e.depth ≤ 60 := by first | decide | (simp [Dt.depth, Dt.depthAll]; done) | omega) : rNeT K x y H Q := ⟨d, e, hd, he, h1, h2, q⟩
end GT

/-! ## dicts whose keys are tuples, nested ones too -/
namespace GT
open PySem PySem.Spec PyProof.Rows L2
/-! ### data without lists as keys -/
mutual
theorem Dt.depth_key : ∀ d : Dt, d.flat = true → (Dt.key d).depth = d.depth
  | .non, _ => rfl
  | .bl _, f => by simp [Dt.flat] at f
  | .num _, _ => rfl
  | .txt _, _ => rfl
  | .tup ds, f => by
    simp only [Dt.flat] at f
    simp only [Dt.key, NestedKey.depth, Dt.depth, Dt.depth_keys ds f]
  | .lst _, f => by simp [Dt.flat] at f
theorem Dt.depth_keys : ∀ ds : List Dt, Dt.flatAll ds = true → NestedKey.depthAll (Dt.keys ds) = Dt.depthAll ds
  | [], _ => rfl
  | d :: ds, f => by
    simp only [Dt.flatAll, Bool.and_eq_true] at f
    simp only [Dt.keys, NestedKey.depthAll, Dt.depthAll, Dt.depth_key d f.1, Dt.depth_keys ds f.2]
end
mutual
theorem DtIs.nested {h : Heap} : ∀ (d : Dt) (v : Value), d.flat = true → DtIs h d v → NestedIs h d.key v
  | .non, _, _, r => by cases r; exact .none
  | .bl _, _, f, _ => by simp [Dt.flat] at f
  | .num _, _, _, r => by cases r; exact .int _ _
  | .txt _, _, _, r => by cases r; exact .text _ _
  | .tup ds, _, f, r => by
    cases r with
    | tup h1 h2 =>
      obtain ⟨o, e, c, n, dd⟩ := h1
      exact .tup e c dd (DtAll.nested ds _ (by simpa [Dt.flat] using f) h2)
  | .lst _, _, f, _ => by simp [Dt.flat] at f
theorem DtAll.nested {h : Heap} : ∀ (ds : List Dt) (vs : List Value), Dt.flatAll ds = true → DtAll h ds vs → NestedAll h (Dt.keys ds) vs
  | [], _, _, r => by cases r; exact .nil
  | d :: ds, _, f, r => by
    cases r with
    | cons r1 r2 =>
      simp only [Dt.flatAll, Bool.and_eq_true] at f
      exact .cons (DtIs.nested d _ f.1 r1) (DtAll.nested ds _ f.2 r2)
end
mutual
theorem Dt.key_inj : ∀ a b : Dt, a.flat = true → b.flat = true → a.key = b.key → a = b
  | .non, .non, _, _, _ => rfl
  | .num a, .num b, _, _, h => by simp only [Dt.key, NestedKey.num.injEq] at h; rw [h]
  | .txt a, .txt b, _, _, h => by simp only [Dt.key, NestedKey.text.injEq] at h; rw [h]
  | .tup a, .tup b, fa, fb, h => by
    simp only [Dt.key, NestedKey.tup.injEq] at h
    rw [Dt.keys_inj a b (by simpa [Dt.flat] using fa) (by simpa [Dt.flat] using fb) h]
  | .bl _, _, f, _, _ | .lst _, _, f, _, _ => by simp [Dt.flat] at f
  | _, .bl _, _, f, _ | _, .lst _, _, f, _ => by simp [Dt.flat] at f
  | .non, .num _, _, _, h | .non, .txt _, _, _, h | .non, .tup _, _, _, h => by simp [Dt.key] at h
  | .num _, .non, _, _, h | .num _, .txt _, _, _, h | .num _, .tup _, _, _, h => by simp [Dt.key] at h
  | .txt _, .non, _, _, h | .txt _, .num _, _, _, h | .txt _, .tup _, _, _, h => by simp [Dt.key] at h
  | .tup _, .non, _, _, h | .tup _, .num _, _, _, h | .tup _, .txt _, _, _, h => by simp [Dt.key] at h
theorem Dt.keys_inj : ∀ a b : List Dt, Dt.flatAll a = true → Dt.flatAll b = true → Dt.keys a = Dt.keys b → a = b
  | [], [], _, _, _ => rfl
  | a :: as, b :: bs, fa, fb, h => by
    simp only [Dt.keys, List.cons.injEq] at h
    simp only [Dt.flatAll, Bool.and_eq_true] at fa fb
    rw [Dt.key_inj a b fa.1 fb.1 h.1, Dt.keys_inj as bs fa.2 fb.2 h.2]
  | [], _ :: _, _, _, h => by simp [Dt.keys] at h
  | _ :: _, [], _, _, h => by simp [Dt.keys] at h
end
/-- the value y is the key k -/
def KyAt (K : PySem.W.Frag) (H : Hp) (y : V) (k : NestedKey) : Prop := ∃ d : Dt, d.flat = true ∧ d.key = k ∧ d.depth ≤ 8 ∧ DtAt K H y d
theorem KyAt.of {K : PySem.W.Frag} {H : Hp} {y : V} {d : Dt} (h : DtAt K H y d) (f : d.flat = true := by rfl) (n : d.depth ≤ 8 := by first | decide | (simp [Dt.depth, Dt.depthAll]; done)) : KyAt K H y d.key := ⟨d, f, rfl, n, h⟩
theorem KyAt.stp {K : PySem.W.Frag} {M : List Addr} {H H1 : Hp} {y : V} {k : NestedKey} (h : KyAt K H y k) (s : Stp M H H1) : KyAt K H1 y k :=
  let ⟨d, f, e, n, x⟩ := h; ⟨d, f, e, n, DtAt.stp s d y f x⟩
theorem KyAt.is {X : Cx} {pins : List (Addr × Obj)} {σ : L2.St} {H : Hp} {s : Shared} {a : Addr} {k : NestedKey} (I : Inv X pins σ H s) (h : KyAt X.K H (.ref a) k) : (nestedKind X.prog X.w).is s.heap k a := by
  obtain ⟨d, f, e, n, x⟩ := h
  have r := DtIs.nested d _ f (DtAt.is I d _ _ x (show RelV (.ref a) (.ref a) from rfl))
  rw [e] at r
  exact ⟨r, by rw [← e, Dt.depth_key d f]; exact n⟩
/-! ### the object -/
section
variable (P : Program) (w : World)
abbrev NdRel : List (NestedKey × Addr × V) → List (NestedKey × Addr × Value) → Prop := Paired fun p q => p.1 = q.1 ∧ p.2.1 = q.2.1 ∧ RelV p.2.2 q.2.2
def NdRaw (d : Addr) (xs : List (NestedKey × Addr × V)) (h : Heap) : Prop :=
  xs.length ≤ sizeLine ∧ (d == sysModules) = false ∧ ∃ ys : List (NestedKey × Addr × Value), NdRel xs ys ∧
    ∃ o es ep, h.get? d = some o ∧ o.ExactDict ∧ o.data = .dict es ep ∧ es.toList = ys.map (entryOfKey (nestedKind P w)) ∧ (ys.map (·.1)).Nodup
/-- a dict, its entries in order: key, the key's tuple, value -/
def ndO (d : Addr) (xs : List (NestedKey × Addr × V)) : HO := .ext (NdRaw P w d xs)
end
section
variable {P : Program} {w : World} {d : Addr} {xs : List (NestedKey × Addr × V)} {H : Hp} {h : Heap}
theorem ndO_ok (x : NdRaw P w d xs h) : ObjOk P w H h d (ndO P w d xs) := by
  refine ⟨x, ?_, fun h1 h2 y k => ?_⟩
  · obtain ⟨_, _, ys, _, o, es, ep, e, _⟩ := x
    exact ⟨o, e⟩
  · obtain ⟨z, hd, ys, r, o, es, ep, e, q⟩ := y
    exact ⟨z, hd, ys, r, o, es, ep, k o e, q⟩
theorem ndO_of {o : HO} (x : ObjOk P w H h d (ndO P w d xs)) : NdRaw P w d xs h := x.1
end
/-! ### entries by their keys -/
abbrev NKV := NestedKey × V
def plainX (xs : List (NestedKey × Addr × V)) : List NKV := xs.map fun x => (x.1, x.2.2)
theorem plainX_len (xs : List (NestedKey × Addr × V)) : (plainX xs).length = xs.length := by simp [plainX]
def putX (xs : List (NestedKey × Addr × V)) (k : NestedKey) (a : Addr) (v : V) : List (NestedKey × Addr × V) :=
  if (xs.any fun x => decide (x.1 = k)) = true then xs.map (fun x => if x.1 = k then (x.1, x.2.1, v) else x) else xs ++ [(k, a, v)]
theorem plainX_put (xs : List (NestedKey × Addr × V)) (k : NestedKey) (a : Addr) (v : V) : plainX (putX xs k a v) = putK (plainX xs) k v := by
  unfold putX putK plainX
  have e : ((xs.map fun x => ((x.1, x.2.2) : NKV)).any fun kv => decide (kv.1 = k)) = xs.any fun x => decide (x.1 = k) := by
    rw [List.any_map]; rfl
  rw [e]
  split
  · rw [List.map_map, List.map_map]
    refine List.map_congr_left fun x _ => ?_
    by_cases h : x.1 = k <;> simp [h]
  · simp
theorem putX_mem {xs : List (NestedKey × Addr × V)} {k : NestedKey} {a : Addr} {v : V} {x : NestedKey × Addr × V} (h : x ∈ putX xs k a v) : (x.1 = k ∧ x.2.1 = a) ∨ ∃ y ∈ xs, y.1 = x.1 ∧ y.2.1 = x.2.1 := by
  unfold putX at h
  split at h
  · obtain ⟨y, hy, e⟩ := List.mem_map.mp h
    refine .inr ⟨y, hy, ?_⟩
    by_cases q : y.1 = k
    · rw [if_pos q] at e; rw [← e]; exact ⟨rfl, rfl⟩
    · rw [if_neg q] at e; rw [← e]; exact ⟨rfl, rfl⟩
  · rcases List.mem_append.mp h with h | h
    · exact .inr ⟨x, h, rfl, rfl⟩
    · rw [List.mem_singleton] at h
      rw [h]; exact .inl ⟨rfl, rfl⟩
theorem NdRel.val {xs : List (NestedKey × Addr × V)} {ys : List (NestedKey × Addr × Value)} (r : NdRel xs ys) (k : NestedKey) : RelO (valV (plainX xs) k) ((atKey ys k).map (·.2)) := by
  induction r with
  | nil => exact True.intro
  | @cons p q ps qs h t ih =>
    obtain ⟨h1, _, h2⟩ := h
    by_cases e : p.1 = k
    · have e' : q.1 = k := h1.symm.trans e
      have b : atKey (q :: qs) k = some q.2 := by simp [atKey, List.find?_cons, e']
      have c : valV (plainX (p :: ps)) k = some p.2.2 := valV_pos (p := (p.1, p.2.2)) e
      rw [c, b]; exact h2
    · have e' : ¬ q.1 = k := fun z => e (h1.trans z)
      have b : atKey (q :: qs) k = atKey qs k := by simp [atKey, List.find?_cons, e']
      have c : valV (plainX (p :: ps)) k = valV (plainX ps) k := valV_neg (p := (p.1, p.2.2)) e
      rw [c, b]; exact ih
theorem NdRel.any {xs : List (NestedKey × Addr × V)} {ys : List (NestedKey × Addr × Value)} (r : NdRel xs ys) (k : NestedKey) : (xs.any fun x => decide (x.1 = k)) = (atKey ys k).isSome := by
  have h := (r.val k).isSome_eq
  rw [Option.isSome_map] at h
  rw [← h, ← valV_any]
  show _ = (plainX xs).any _
  unfold plainX
  rw [List.any_map]; rfl
theorem NdRel.repl {xs : List (NestedKey × Addr × V)} {ys : List (NestedKey × Addr × Value)} (r : NdRel xs ys) (k : NestedKey) {v : V} {u : Value} (rv : RelV v u) : NdRel (xs.map fun x => if x.1 = k then (x.1, x.2.1, v) else x) (ys.map (putAt k u)) := by
  induction r with
  | nil => exact .nil
  | @cons p q ps qs h t ih =>
    rw [List.map_cons, List.map_cons]
    refine .cons ?_ ih
    obtain ⟨h1, h2, h3⟩ := h
    unfold putAt
    by_cases e : p.1 = k
    · rw [if_pos e, if_pos (h1.symm.trans e)]; exact ⟨h1, h2, rv⟩
    · rw [if_neg e, if_neg (fun z => e (h1.trans z))]; exact ⟨h1, h2, h3⟩
theorem NdRel.put {xs : List (NestedKey × Addr × V)} {ys : List (NestedKey × Addr × Value)} (r : NdRel xs ys) (k : NestedKey) {a : Addr} {v : V} {u : Value} (rv : RelV v u) : NdRel (putX xs k a v) (storedH ys k a u) := by
  unfold putX storedH
  rw [r.any k]
  by_cases q : (atKey ys k).isSome = true
  · rw [if_pos q, if_pos q]; exact r.repl k rv
  · rw [if_neg q, if_neg q]; exact Paired.snoc r ⟨rfl, rfl, rv⟩
theorem putX_len (xs : List (NestedKey × Addr × V)) (k : NestedKey) (a : Addr) (v : V) : (putX xs k a v).length ≤ xs.length + 1 := by
  have h := length_putK (plainX xs) k v
  rw [← plainX_put xs k a v, plainX_len, plainX_len] at h
  exact h
/-! ### what is known of a dict -/
/-- the entries xs have their keys' tuples where they say -/
def KeysAt (K : PySem.W.Frag) (H : Hp) (xs : List (NestedKey × Addr × V)) : Prop := ∀ x ∈ xs, KyAt K H (.ref x.2.1) x.1
theorem KeysAt.stp {K : PySem.W.Frag} {M : List Addr} {H H1 : Hp} {xs : List (NestedKey × Addr × V)} (h : KeysAt K H xs) (s : Stp M H H1) : KeysAt K H1 xs := fun x hx => (h x hx).stp s
theorem KeysAt.put {K : PySem.W.Frag} {H : Hp} {xs : List (NestedKey × Addr × V)} {k : NestedKey} {a : Addr} {v : V} (h : KeysAt K H xs) (ha : KyAt K H (.ref a) k) : KeysAt K H (putX xs k a v) := fun x hx => by
  rcases putX_mem hx with ⟨e1, e2⟩ | ⟨y, hy, e1, e2⟩
  · rw [e1, e2]; exact ha
  · rw [← e1, ← e2]; exact h y hy
/-- a dict that is ours: may be read and written -/
def ND (P : Program) (w : World) (K : PySem.W.Frag) (H : Hp) (d : Addr) (kvs : List NKV) : Prop := ∃ xs, H d = some (ndO P w d xs) ∧ KeysAt K H xs ∧ plainX xs = kvs
/-- .. while it is walked -/
def NDF (P : Program) (w : World) (K : PySem.W.Frag) (H : Hp) (d : Addr) (o : Obj) (kvs : List NKV) : Prop := ∃ xs, H d = some (.frz o (ndO P w d xs)) ∧ KeysAt K H xs ∧ plainX xs = kvs
/-- .. either -/
def NDR (P : Program) (w : World) (K : PySem.W.Frag) (H : Hp) (d : Addr) (kvs : List NKV) : Prop := ∃ xs, Rd H d (ndO P w d xs) ∧ KeysAt K H xs ∧ plainX xs = kvs
section
variable {P : Program} {w : World} {K : PySem.W.Frag} {H H1 : Hp} {M : List Addr} {d : Addr} {kvs : List NKV} {o : Obj}
theorem ND.r (h : ND P w K H d kvs) : NDR P w K H d kvs := let ⟨xs, e, q⟩ := h; ⟨xs, .inl e, q⟩
theorem NDF.r (h : NDF P w K H d o kvs) : NDR P w K H d kvs := let ⟨xs, e, q⟩ := h; ⟨xs, .inr ⟨o, e⟩, q⟩
theorem ND.stp (h : ND P w K H d kvs) (s : Stp M H H1) (n : d ∉ M) : ND P w K H1 d kvs := let ⟨xs, e, k, q⟩ := h; ⟨xs, s.keep _ _ e n, k.stp s, q⟩
theorem NDF.stp (h : NDF P w K H d o kvs) (s : Stp M H H1) (n : d ∉ M) : NDF P w K H1 d o kvs := let ⟨xs, e, k, q⟩ := h; ⟨xs, s.keep _ _ e n, k.stp s, q⟩
theorem ND.there (h : ND P w K H d kvs) : ∃ u, H d = some u ∧ ∀ xs, u ≠ .tup xs := let ⟨xs, e, _⟩ := h; ⟨_, e, fun _ z => nomatch z⟩
end
section
variable {X : Cx} {pins : List (Addr × Obj)} {σ : L2.St} {H : Hp} {s : Shared} {d a : Addr} {k : NestedKey} {kvs : List NKV} {v : V} {u : Value} {A : Around} {E : Value → Shared → Prop} {xs : List (NestedKey × Addr × V)}
theorem nd_raw (I : Inv X pins σ H s) (e : Rd H d (ndO X.prog X.w d xs)) (hk : KeysAt X.K H xs) : xs.length ≤ sizeLine ∧ (d == sysModules) = false ∧ ∃ ys, NdRel xs ys ∧ s.heap.DictOfH (nestedKind X.prog X.w) d ys := by
  obtain ⟨z, hd, ys, r, o, es, ep, h1, h2, h3, h4, h5⟩ := (ndO_of (o := ndO X.prog X.w d xs) (e.ok I.hok))
  refine ⟨z, hd, ys, r, o, es, ep, h1, h2, h3, h4, ?_, h5⟩
  have all : ∀ {l : List (NestedKey × Addr × V)} {m : List (NestedKey × Addr × Value)}, NdRel l m → KeysAt X.K H l → ∀ x ∈ m, (nestedKind X.prog X.w).is s.heap x.1 x.2.1 := by
    intro l m q
    induction q with
    | nil => intro _ x hx; exact nomatch hx
    | @cons p q ps qs hq t ih =>
      intro ha x hx
      rcases List.mem_cons.mp hx with e | hx
      · subst e
        rw [← hq.1, ← hq.2.1]
        exact (ha p List.mem_cons_self).is I
      · exact ih (fun y hy => ha y (List.mem_cons_of_mem _ hy)) x hx
  exact all r hk
theorem nd_room (hu : A.units + 9 < cLine) : (nestedKind X.prog X.w).room A.in1 := by
  show A.in1.units + 8 < cLine
  rw [Around.in1_units]; omega
theorem nd_getItem {Q : Value → Shared → Prop} (hu : A.units + 9 < cLine) (I : Inv X pins σ H s) (g : NDR X.prog X.w X.K H d kvs) (hk : KyAt X.K H (.ref a) k) (hv : valV kvs k = some v) (h : ∀ w' s', Inv X pins σ H s' → RelV v w' → Q w' s') :
    wpAny (model X.prog X.w) A (getItem (.ref d) (.ref a)) Q E s := by
  obtain ⟨xs, e, ks, rfl⟩ := g
  obtain ⟨z, hd, ys, rel, dd⟩ := nd_raw I e ks
  obtain ⟨w', hw, rw'⟩ := RelO.some_of (v := v) (o := (atKey ys k).map (·.2)) (by rw [← hv]; exact rel.val k)
  obtain ⟨p, hp, hp2⟩ := Option.map_eq_some_iff.mp hw
  refine wpAny_getItem_heap (nd_room hu) (hk.is I) dd hp ?_
  rw [hp2]
  exact h w' _ (I.tok _) rw'
theorem nd_in {Q : Value → Shared → Prop} (hu : A.units + 9 < cLine) (I : Inv X pins σ H s) (g : NDR X.prog X.w X.K H d kvs) (hk : KyAt X.K H (.ref a) k) (h : ∀ s', Inv X pins σ H s' → Q (.bool (valV kvs k).isSome) s') :
    wpAny (model X.prog X.w) A (compareOp .In (.ref a) (.ref d)) Q E s := by
  obtain ⟨xs, e, ks, rfl⟩ := g
  obtain ⟨z, hd, ys, rel, dd⟩ := nd_raw I e ks
  refine wpAny_in_heap (nd_room hu) (hk.is I) hd dd ?_
  have q := (rel.val k).isSome_eq
  rw [Option.isSome_map] at q
  rw [← q]
  exact h _ (I.tok _)
theorem nd_notIn {Q : Value → Shared → Prop} (hu : A.units + 9 < cLine) (I : Inv X pins σ H s) (g : NDR X.prog X.w X.K H d kvs) (hk : KyAt X.K H (.ref a) k) (h : ∀ s', Inv X pins σ H s' → Q (.bool (!(valV kvs k).isSome)) s') :
    wpAny (model X.prog X.w) A (compareOp .NotIn (.ref a) (.ref d)) Q E s := by
  obtain ⟨xs, e, ks, rfl⟩ := g
  obtain ⟨z, hd, ys, rel, dd⟩ := nd_raw I e ks
  refine wpAny_notIn_heap (nd_room hu) (hk.is I) hd dd ?_
  have q := (rel.val k).isSome_eq
  rw [Option.isSome_map] at q
  rw [← q]
  exact h _ (I.tok _)
theorem nd_setItem {Q : Unit → Shared → Prop} (hu : A.units + 9 < cLine) (I : Inv X pins σ H s) (e : H d = some (ndO X.prog X.w d xs)) (ks : KeysAt X.K H xs) (hk : KyAt X.K H (.ref a) k) (hl : xs.length < sizeLine) (rv : RelV v u)
    (h : ∀ s', Inv X pins σ (upd H d (ndO X.prog X.w d (putX xs k a v))) s' → Q () s') : wpAny (model X.prog X.w) A (setItem (.ref d) (.ref a) u) Q E s := by
  obtain ⟨z, hd, ys, rel, dd⟩ := nd_raw I (.inl e) ks
  have hz : ys.length ≤ sizeLine := by rw [← Paired.length rel]; exact z
  have hl2 : (putX xs k a v).length ≤ sizeLine := by have := putX_len xs k a v; omega
  refine wpAny_setItem_heap (hsz := hz) (nd_room hu) (hk.is I) dd fun h' dd' hs => h _ ?_
  obtain ⟨q, es, ep, hq, h2, h3, h4, _, h5⟩ := dd'
  refine d_write I (by rw [e]; exact True.intro) hs ⟨q, hq⟩ (ndO_ok ⟨hl2, hd, _, rel.put k rv, q, es, ep, hq, h2, h3, h4, h5⟩)
end
/-! ### readings and rules -/
def tNGet (P : Program) (w : World) (K : PySem.W.Frag) (td ty : TE) : TE := fun σ H Q => td σ H fun x H1 => ty σ H1 fun y H2 => ∃ d a kvs k v, x = .ref d ∧ y = .ref a ∧ NDR P w K H2 d kvs ∧ KyAt K H2 (.ref a) k ∧ valV kvs k = some v ∧ Q v H2
def tNIn (P : Program) (w : World) (K : PySem.W.Frag) (ty td : TE) : TE := fun σ H Q => ty σ H fun y H1 => td σ H1 fun x H2 => ∃ d a kvs k, x = .ref d ∧ y = .ref a ∧ NDR P w K H2 d kvs ∧ KyAt K H2 (.ref a) k ∧ Q (.bl (valV kvs k).isSome) H2
def tNNotIn (P : Program) (w : World) (K : PySem.W.Frag) (ty td : TE) : TE := fun σ H Q => ty σ H fun y H1 => td σ H1 fun x H2 => ∃ d a kvs k, x = .ref d ∧ y = .ref a ∧ NDR P w K H2 d kvs ∧ KyAt K H2 (.ref a) k ∧ Q (.bl (!(valV kvs k).isSome)) H2
/-- d[y] = v: the dict behind has putK; the heap behind told by what is known of it -/
def sNPut (P : Program) (w : World) (K : PySem.W.Frag) (td ty tv : TE) : TS := fun D σ H => tv σ H fun v H1 => td σ H1 fun x H2 => ty σ H2 fun y H3 => ∃ d a kvs k, x = .ref d ∧ y = .ref a ∧ ND P w K H3 d kvs ∧ KyAt K H3 (.ref a) k ∧ kvs.length < sizeLine ∧
  ∀ H4, ND P w K H4 d (putK kvs k v) → Stp [d] H3 H4 → (∀ (H0 : Hp) M, Stp M H0 H3 → H0 d = none → Stp M H0 H4) → D.nx σ H4
def tNNew (P : Program) (w : World) (K : PySem.W.Frag) : TE := fun _ H Q => ∀ p H1, H p = none → ND P w K H1 p [] → Stp [] H H1 → Q (.ref p) H1
section
variable {X : Cx} {o i e value : Expr} {pos pos' tpos : Pos} {td ty tv : TE}
theorem nd_typeIs {pins : List (Addr × Obj)} {σ : L2.St} {H : Hp} {s : Shared} {d : Addr} {kvs : List NKV} (I : Inv X pins σ H s) (g : NDR X.prog X.w X.K H d kvs) : s.TypeIs (.ref d) "dict" := by
  obtain ⟨xs, e, ks, rfl⟩ := g
  obtain ⟨z, hd, ys, rel, dd⟩ := nd_raw I e ks
  exact dd.typeIs
theorem hu9 {A : Around} {k : Nat} (hr : Room k A) : A.units + 9 < cLine := by have := hr.un; omega
theorem pe_nget {k : Nat} (hr : Room k X.A) (ho : PE X o td) (hi : PE X i ty) (hs : NoSl i) : PE X (.Subscript o i pos) (tNGet X.prog X.w X.K td ty) := by
  refine ⟨fun pins s σ H Q I h => ?_⟩
  refine subD_of PySem.F.slot_dict_getitem.lookup hs (thn (ho.run pins s σ H _ I h) fun u s1 ⟨x, H1, I1, rx, q1⟩ => thn (hi.run pins s1 σ H1 _ I1 q1) fun iv s2 ⟨y, H2, I2, ry, d, a, kvs, k, v, ex, ey, g, hk, hv, q2⟩ => ?_)
  subst ex ey
  obtain rfl : u = Value.ref d := rx
  obtain rfl : iv = Value.ref a := ry
  exact ⟨nd_typeIs I2 g, nd_getItem (hu9 hr) I2 g hk hv fun w' s3 I3 rw' => ⟨v, H2, I3, rw', q2⟩⟩
theorem pc_nin {k : Nat} (hr : Room k X.A) (hi : PE X i ty) (ho : PE X o td) : PC X .In i o (tNIn X.prog X.w X.K ty td) := by
  refine ⟨fun pins s σ H Q I h => ?_⟩
  refine thn (hi.run pins s σ H _ I h) fun iv s1 ⟨y, H1, I1, ry, q1⟩ => thn (ho.run pins s1 σ H1 _ I1 q1) fun u s2 ⟨x, H2, I2, rx, d, a, kvs, k, ex, ey, g, hk, q2⟩ => ?_
  subst ex ey
  obtain rfl : u = Value.ref d := rx
  obtain rfl : iv = Value.ref a := ry
  exact nd_in (hu9 hr) I2 g hk fun s3 I3 => ⟨.bl _, H2, I3, rfl, q2⟩
theorem pc_nnotin {k : Nat} (hr : Room k X.A) (hi : PE X i ty) (ho : PE X o td) : PC X .NotIn i o (tNNotIn X.prog X.w X.K ty td) := by
  refine ⟨fun pins s σ H Q I h => ?_⟩
  refine thn (hi.run pins s σ H _ I h) fun iv s1 ⟨y, H1, I1, ry, q1⟩ => thn (ho.run pins s1 σ H1 _ I1 q1) fun u s2 ⟨x, H2, I2, rx, d, a, kvs, k, ex, ey, g, hk, q2⟩ => ?_
  subst ex ey
  obtain rfl : u = Value.ref d := rx
  obtain rfl : iv = Value.ref a := ry
  exact nd_notIn (hu9 hr) I2 g hk fun s3 I3 => ⟨.bl _, H2, I3, rfl, q2⟩
theorem ps_nput {k : Nat} (hr : Room k X.A) (ho : PE X o td) (hi : PE X i ty) (hv : PE X value tv) (hs : swapsWith value (some (.Subscript o i pos')) pos.line X.env = pure false) :
    PS X (.Assign [.Subscript o i pos'] value pos) (sNPut X.prog X.w X.K td ty tv) := by
  refine ⟨fun pins s σ H D I h => ?_⟩
  refine wpAny_Assign_Subscript (thn (hv.run pins s σ H _ I h) fun r s1 ⟨v, H1, I1, rv, q1⟩ => thn (ho.run pins s1 σ H1 _ I1 q1) fun u s2 ⟨x, H2, I2, rx, q2⟩ => thn (hi.run pins s2 σ H2 _ I2 q2) fun iv s3 ⟨y, H3, I3, ry, d, a, kvs, k, ex, ey, g, hk, hl, q3⟩ => ?_) hs
  subst ex ey
  obtain rfl : u = Value.ref d := rx
  obtain rfl : iv = Value.ref a := ry
  obtain ⟨xs, e, ks, rfl⟩ := g
  rw [plainX_len] at hl
  have st : Stp [d] H3 (upd H3 d (ndO X.prog X.w d (putX xs k a v))) := .wr (by simp) e fun _ z => nomatch z
  refine nd_setItem (hu9 hr) I3 e ks hk hl rv fun s4 I4 => ⟨σ, _, I4, q3 _ ⟨_, upd_same, (ks.put hk).stp st, plainX_put xs k a v⟩ st fun H0 M s0 n => s0.mut n⟩
theorem pe_dnewN : PE X (.Dict [] [] pos) (tNNew X.prog X.w X.K) := ⟨fun pins s σ H Q I h => by
  have hn := I.hok.fresh (Nat.le_refl s.heap.objs.size)
  refine wpAny_Dict_empty ⟨.ref s.heap.objs.size, _, I.laid (a := s.heap.objs.size) (o := ndO X.prog X.w s.heap.objs.size []) (t' := s.toks) (fun _ _ q => Heap.get?_push_of_some _ q) (Nat.le_refl _) (ndO_ok ?_), rfl, h _ _ hn ⟨[], upd_same, fun _ z => (nomatch z), rfl⟩ (.new hn)⟩
  exact ⟨Nat.zero_le _, beq_eq_false_iff_ne.mpr (Ne.symm (Nat.ne_of_lt I.big)), [], .nil, _, #[], 0, Heap.get?_push_size _ rfl, ⟨rfl, rfl, rfl⟩, rfl, rfl, List.nodup_nil⟩⟩
end
end GT

/-! ## walks of such dicts -/
namespace GT
open PySem PySem.Spec PyProof.Rows L2
section
variable {X : Cx} {pins : List (Addr × Obj)} {σ : L2.St} {H : Hp} {s : Shared} {d : Addr} {o : Obj}
theorem nd_frz {xs : List (NestedKey × Addr × V)} (I : Inv X pins σ H s) (h : H d = some (.frz o (ndO X.prog X.w d xs))) :
    (d == sysModules) = false ∧ s.heap.get? d = some o ∧ o.ExactDict ∧ ∃ (es : Array DictEntry) (ep : Nat), o.data = .dict es ep ∧ es.size = xs.length ∧
      ∀ (i : Nat) (x : NestedKey × Addr × V), xs[i]? = some x → ∃ en : DictEntry, es[i]? = some en ∧ en.key = .ref x.2.1 ∧ RelV x.2.2 en.val := by
  obtain ⟨hd, z⟩ := I.hok d _ h
  obtain ⟨z, hs, ys, pr, o', es, ep, ho, hx, hdt, he, _⟩ := ndO_of (o := ndO X.prog X.w d xs) z
  rw [hd] at ho
  cases ho
  refine ⟨hs, hd, hx, es, ep, hdt, ?_, fun i x e => ?_⟩
  · have l1 : es.size = ys.length := size_of_entries he
    have l2 : xs.length = ys.length := Paired.length pr
    omega
  · obtain ⟨b, hb, e1, e2, e3⟩ := paired_get pr e
    have q := entry_at he i
    rw [hb] at q
    exact ⟨_, q, congrArg Value.ref e2.symm, e3⟩
end
/-- the entries of the locked dict at d: the keys' tuples | new pairs -/
def ItN (P : Program) (w : World) (d : Addr) (o : Obj) (xs : List (NestedKey × Addr × V)) : It :=
  ⟨fun i H => H d = some (.frz o (ndO P w d xs)) ∧ i < xs.length, fun i H x H' => H' = H ∧ ∃ e, xs[i]? = some e ∧ x = .ref e.2.1, fun i H => H d = some (.frz o (ndO P w d xs)) ∧ xs.length ≤ i⟩
def ItNi (P : Program) (w : World) (d : Addr) (o : Obj) (xs : List (NestedKey × Addr × V)) : It :=
  ⟨fun i H => H d = some (.frz o (ndO P w d xs)) ∧ i < xs.length, fun i H x H' => ∃ T e, xs[i]? = some e ∧ x = .ref T ∧ H T = none ∧ H' = upd H T (.tup [.ref e.2.1, e.2.2]), fun i H => H d = some (.frz o (ndO P w d xs)) ∧ xs.length ≤ i⟩
section
variable {P : Program} {w : World} {K : PySem.W.Frag} {tg : Expr} {d : Addr} {o : Obj} {es : Array DictEntry} {ep : Nat} {xs : List (NestedKey × Addr × V)}
theorem turn_n (it : Addr) (hod : o.data = .dict es ep) : Turn P w K tg (ItN P w d o xs) [it] it (fun i h => h.IsKeyIter it d i xs.length ep) where
  mem := by simp
  obj := fun i h st b hb => by
    have e : b = it := by simpa using hb
    subst e
    obtain ⟨oi, e, c, dd⟩ := st
    exact ⟨oi, e, fun v z => by rw [dd] at z; cases z⟩
  keep := fun i h h' st k => st.at fun oi e => k it (by simp) oi e
  item := by
    intro X hP hw hK hc i pins s σ H E I hf st hg
    subst hP hw hK
    obtain ⟨hd, hi⟩ := hg
    obtain ⟨f0, f1, f2, f3, f4, f5⟩ := hf it (by simp)
    obtain ⟨hs, hgd, hx, es', ep', hdt, hsz, ent⟩ := nd_frz I hd
    obtain ⟨rfl, rfl⟩ := dict_ep hod hdt
    obtain ⟨e, he⟩ : ∃ e, xs[i]? = some e := ⟨xs[i], List.getElem?_eq_getElem hi⟩
    obtain ⟨en, hen, hkey, _⟩ := ent i e he
    refine next_key_item st hgd hdt hsz hen fun h' st' sb => ?_
    have I1 : Inv X pins σ H { s with heap := h' } := I.turned (t' := s.toks) (fun b ob hb e => (sb.2 b hb).trans e) f0 f1 f3 f4 f5
    obtain ⟨oi, e1, c, dd⟩ := id st'
    exact ⟨en.key, rfl, go_of (s := { s with heap := h' }) e1 c dd (by decide) ⟨.ref e.2.1, H, I1, hkey, ⟨rfl, e, he, rfl⟩, st', fun b hb => (hf b hb).1⟩⟩
  done := by
    intro X hP hw hK hc i pins s σ H E I hf st hg
    subst hP hw hK
    obtain ⟨hd, hi⟩ := hg
    obtain ⟨f0, f1, f2, f3, f4, f5⟩ := hf it (by simp)
    obtain ⟨hs, hgd, hx, es', ep', hdt, hsz, ent⟩ := nd_frz I hd
    obtain ⟨rfl, rfl⟩ := dict_ep hod hdt
    exact next_key_end (I.ok.hd hc) st hgd hdt hsz hi fun h' eb => ⟨rfl, I.turned (t' := s.toks) (fun b ob hb e => eb b ob hb e) f0 f1 f3 f4 f5⟩
  self := fun A i s Q E st h => by
    refine wpAny_pyIter_slot st.typeIs F.slot_dict_keyiterator_iter (wpAny_call_entry F.slot_dict_keyiterator_iter st.typeIs F.entry_dict_keyiterator_iter ?_ (F.args_dict_keyiterator_iter_1 _))
    show wpAny _ _ (ret (.ref it)) _ _ s
    exact wpAny_pure ⟨_, rfl, "dict_keyiterator", _, st.typeIs, F.slot_dict_keyiterator_next.lookup, h⟩
theorem turn_ni {elts : List Expr} {kk : Nat} {tpos : Pos} (it : Addr) (hod : o.data = .dict es ep) :
    Turn P w K (.Tuple elts kk tpos) (ItNi P w d o xs) [it] it (fun i h => ∃ ok ov, IsItemIter h it d i xs.length ep ok ov) where
  mem := by simp
  obj := fun i h st b hb => by
    have e : b = it := by simpa using hb
    subst e
    obtain ⟨ok, ov, e⟩ := st
    exact ⟨_, e, fun v z => nomatch z⟩
  keep := fun i h h' st k => let ⟨ok, ov, e⟩ := st; ⟨ok, ov, k it (by simp) _ e⟩
  item := by
    intro X hP hw hK hc i pins s σ H E I hf st hg
    subst hP hw hK
    obtain ⟨hd, hi⟩ := hg
    obtain ⟨hs, hgd, hx, es', ep', hdt, hsz, ent⟩ := nd_frz I hd
    obtain ⟨rfl, rfl⟩ := dict_ep hod hdt
    obtain ⟨e, hxe⟩ : ∃ e, xs[i]? = some e := ⟨xs[i], List.getElem?_eq_getElem hi⟩
    obtain ⟨en, hen, hkey, hval⟩ := ent i e hxe
    obtain ⟨ok, ov, he⟩ := st
    rw [← hsz] at he
    have hlt : it < s.heap.objs.size := Heap.lt_size he
    obtain ⟨hie, hen2⟩ := Array.getElem?_eq_some_iff.mp hen
    refine wpAny_pyNext_items_item_raw he ⟨o, hgd, hx, hdt⟩ hie fun h' ho hT hz hk => ?_
    refine ⟨_, rfl, wpAny_letOwnedTupleGo_items (s := { s with heap := h' }) ho fun h'' he' sb => ?_⟩
    rw [hen2, hkey] at hT
    have hT2 : h''.get? s.heap.objs.size = some { cls := .type "tuple", data := .seq #[.ref e.2.1, en.val] } := (sb.2 _ (Nat.ne_of_gt hlt)).trans hT
    have new : ObjOk X.prog X.w (upd H s.heap.objs.size (.tup [.ref e.2.1, e.2.2])) h'' s.heap.objs.size (.tup [.ref e.2.1, e.2.2]) :=
      ⟨by show 2 ≤ sizeLine; decide, [.ref e.2.1, en.val], .cons rfl (.cons hval .nil), ⟨_, hT2, rfl, _, rfl⟩⟩
    have I1 : Inv X pins σ (upd H s.heap.objs.size (.tup [.ref e.2.1, e.2.2])) { s with heap := h'' } :=
      I.turnedNew (t' := s.toks) (ch := [it]) (fun b ob hb e => (sb.2 b (by simpa using hb)).trans (hk b ob (by simpa using hb) e)) hf (Nat.le_refl _) new
    refine ⟨.ref s.heap.objs.size, _, I1, rfl, ⟨_, e, hxe, rfl, I.hok.fresh (Nat.le_refl _), rfl⟩, ⟨(es'[i]).key, (es'[i]).val, ?_⟩, fun b hb => ?_⟩
    · rw [← hsz]; exact he'
    · have e : b = it := by simpa using hb
      rw [e, upd_ne (Nat.ne_of_lt hlt)]
      exact (hf it (by simp)).1
  done := by
    intro X hP hw hK hc i pins s σ H E I hf st hg
    subst hP hw hK
    obtain ⟨hd, hi⟩ := hg
    obtain ⟨f0, f1, f2, f3, f4, f5⟩ := hf it (by simp)
    obtain ⟨hs, hgd, hx, es', ep', hdt, hsz, ent⟩ := nd_frz I hd
    obtain ⟨rfl, rfl⟩ := dict_ep hod hdt
    obtain ⟨ok, ov, he⟩ := st
    rw [← hsz] at he
    exact wpAny_pyNext_items_end_raw (I.ok.hd hc) he ⟨o, hgd, hx, hdt⟩ (by omega) fun h' eb => ⟨rfl, I.turned (t' := s.toks) (fun b ob hb e => eb b ob hb e) f0 f1 f3 f4 f5⟩
  self := fun A i s Q E st h => let ⟨_, _, e⟩ := st; PySem.W.kcp_self e h
end
def iN (P : Program) (w : World) (td : TE) : TI := fun σ H R => td σ H fun x H1 => ∃ d o xs, x = .ref d ∧ H1 d = some (.frz o (ndO P w d xs)) ∧ R (ItN P w d o xs) H1
def iNi (P : Program) (w : World) (td : TE) : TI := fun σ H R => td σ H fun x H1 => ∃ d o xs, x = .ref d ∧ H1 d = some (.frz o (ndO P w d xs)) ∧ R (ItNi P w d o xs) H1
section
variable {X : Cx} {tg e : Expr} {td : TE} {apos cpos : Pos}
theorem pi_n (he : PE X e td) : PI X tg e (iN X.prog X.w td) := by
  refine ⟨fun pins s σ H R I h => ?_⟩
  refine thn (he.run pins s σ H _ I h) fun u s1 ⟨x, H1, I1, rx, d, o, xs, ex, hd, q⟩ => ?_
  subst ex
  obtain rfl : u = Value.ref d := rx
  obtain ⟨hs, hgd, hx, es, ep, hdt, hsz, ent⟩ := nd_frz I1 hd
  refine iter_keys hs hgd hx hdt (pi_one (tk := s1.toks) I1 _ (turn_n _ hdt) ⟨_, Heap.get?_push_size _ rfl, rfl, ?_⟩ q)
  rw [hsz] <;> rfl
theorem pi_ni {elts : List Expr} {kk : Nat} {tpos : Pos} (he : PE X e td) (hbase : attributeBase e "items" X.env (eval e X.env) = eval e X.env := by rfl) (hline : (apos.endLine == cpos.line) = true := by rfl) :
    PI X (.Tuple elts kk tpos) (.Call (.Attribute e "items" apos) [] [] cpos) (iNi X.prog X.w td) := by
  refine ⟨fun pins s σ H R I h => ?_⟩
  refine wpAny_Call_method (T := "dict") (id := "dict.items") hbase rfl hline F.plainAttrs_dict F.slot_dict_items F.type_dict_items (thn (he.run pins s σ H _ I h) fun u s1 ⟨x, H1, I1, rx, d, o, xs, ex, hd, q⟩ => ?_)
  subst ex
  obtain rfl : u = Value.ref d := rx
  obtain ⟨hs, hgd, hx, es, ep, hdt, hsz, ent⟩ := nd_frz I1 hd
  have dr : s1.heap.DictRaw d es ep := ⟨o, hgd, hx, hdt⟩
  refine ⟨dr.typeIs, fun b q => by cases q; exact ⟨o, hgd, hx.2.1⟩, ?_⟩
  have I2 : Inv X pins σ H1 { s1 with heap := s1.heap.push { cls := .type "dict_items", data := .fields #[.ref d] } } := I1.kept (t' := s1.toks) fun b ob q => Heap.get?_push_of_some _ q
  have fin : wpAny (model X.prog X.w) X.A (pyIter (.ref s1.heap.objs.size)) (PIE X pins σ (.Tuple elts kk tpos) R) X.xe { s1 with heap := s1.heap.push { cls := .type "dict_items", data := .fields #[.ref d] } } := by
    refine wpAny_pyIter_items_raw (d := d) (es := es) (ep := ep) ⟨_, Heap.get?_push_size _ rfl, rfl, rfl⟩ (dr.at fun ob q => Heap.get?_push_of_some _ q) (pi_one (tk := s1.toks) I2 _ (turn_ni _ hdt) ⟨.none, .none, ?_⟩ q)
    rw [← hsz]
    exact Heap.get?_push_size _ rfl
  show wpAny _ _ (callWith cpos (.builtin "dict.items") [.ref d] [] []) _ X.xe s1
  exact method_meetsIn F.slot_dict_items F.entry_dict_items rfl (PySem.evalArgs_none ⟨rfl, dr.typeIs, F.args_dict_items_1 _, _, meets_dict_items_raw d hs, ⟨es, ep, dr⟩, fin⟩)
end
end GT

/-! ## loops over such dicts, locked; data in order -/
namespace GT
open PySem PySem.Spec PyProof.Rows L2
section
variable {P : Program} {w : World} {d : Addr} {o : Obj} {xs : List (NestedKey × Addr × V)}
theorem for_n {g : TG} {tb : TS} {D : Ends} {σ : L2.St} {H : Hp} (Pv : Nat → L2.St → Hp → Prop) (h0 : Pv 0 σ H) (hl : ∀ i σ H, i ≤ xs.length → Pv i σ H → H d = some (.frz o (ndO P w d xs)))
    (hs : ∀ i x σ H, xs[i]? = some x → Pv i σ H → g (.ref x.2.1) σ H fun σ2 H2 => tb { D with nx := Pv (i + 1), ct := Pv (i + 1), bk := D.nx } σ2 H2) (hd : ∀ σ H, Pv xs.length σ H → D.nx σ H) :
    ∃ W : Nat → Nat → L2.St → Hp → Prop, (∃ m, W 0 m σ H) ∧ ∀ i m σ H, W i m σ H →
      ((ItN P w d o xs).stop i H ∧ D.nx σ H) ∨ ((ItN P w d o xs).go i H ∧ ∃ N : L2.St → Hp → Prop, (∀ σ' H', N σ' H' → ∃ m', m' < m ∧ W (i + 1) m' σ' H') ∧ ∀ x H', (ItN P w d o xs).yld i H x H' → g x σ H' fun σ2 H2 => tb { D with nx := N, ct := N, bk := D.nx } σ2 H2) := by
  refine ⟨fun i m σ H => m = xs.length - i ∧ i ≤ xs.length ∧ Pv i σ H, ⟨xs.length, by simp, Nat.zero_le _, h0⟩, ?_⟩
  rintro i m σ H ⟨rfl, hi, p⟩
  have q := hl i σ H hi p
  by_cases hlt : i < xs.length
  · refine .inr ⟨⟨q, hlt⟩, Pv (i + 1), fun σ' H' p' => ⟨xs.length - (i + 1), by omega, rfl, hlt, p'⟩, fun x H' y => ?_⟩
    obtain ⟨e, z, hz, rfl⟩ := y
    subst e
    exact hs i z σ _ hz p
  · have e : i = xs.length := by omega
    subst e
    exact .inl ⟨⟨q, Nat.le_refl _⟩, hd σ H p⟩
theorem for_ni {g : TG} {tb : TS} {D : Ends} {σ : L2.St} {H : Hp} (Pv : Nat → L2.St → Hp → Prop) (h0 : Pv 0 σ H) (hl : ∀ i σ H, i ≤ xs.length → Pv i σ H → H d = some (.frz o (ndO P w d xs)))
    (hs : ∀ i x σ H T, xs[i]? = some x → Pv i σ H → H T = none → g (.ref T) σ (upd H T (.tup [.ref x.2.1, x.2.2])) fun σ2 H2 => tb { D with nx := Pv (i + 1), ct := Pv (i + 1), bk := D.nx } σ2 H2) (hd : ∀ σ H, Pv xs.length σ H → D.nx σ H) :
    ∃ W : Nat → Nat → L2.St → Hp → Prop, (∃ m, W 0 m σ H) ∧ ∀ i m σ H, W i m σ H →
      ((ItNi P w d o xs).stop i H ∧ D.nx σ H) ∨ ((ItNi P w d o xs).go i H ∧ ∃ N : L2.St → Hp → Prop, (∀ σ' H', N σ' H' → ∃ m', m' < m ∧ W (i + 1) m' σ' H') ∧ ∀ x H', (ItNi P w d o xs).yld i H x H' → g x σ H' fun σ2 H2 => tb { D with nx := N, ct := N, bk := D.nx } σ2 H2) := by
  refine ⟨fun i m σ H => m = xs.length - i ∧ i ≤ xs.length ∧ Pv i σ H, ⟨xs.length, by simp, Nat.zero_le _, h0⟩, ?_⟩
  rintro i m σ H ⟨rfl, hi, p⟩
  have q := hl i σ H hi p
  by_cases hlt : i < xs.length
  · refine .inr ⟨⟨q, hlt⟩, Pv (i + 1), fun σ' H' p' => ⟨xs.length - (i + 1), by omega, rfl, hlt, p'⟩, fun x H' y => ?_⟩
    obtain ⟨T, z, hz, rfl, n, rfl⟩ := y
    exact hs i z σ _ T hz p n
  · have e : i = xs.length := by omega
    subst e
    exact .inl ⟨⟨q, Nat.le_refl _⟩, hd σ H p⟩
theorem lc_n {g : TG} {tt : TT} {te : TE} {vs : List Nat} {σ : L2.St} {H1 : Hp} {D : Addr} {Qd : Hp → Prop} (Pv : Nat → Hp → Prop) (h0 : Pv 0 (upd H1 D (.lst []))) (hl : ∀ i H, i ≤ xs.length → Pv i H → H d = some (.frz o (ndO P w d xs)))
    (hs : ∀ i x H, xs[i]? = some x → Pv i H → g (.ref x.2.1) (wipe σ vs) H fun σ2 H2 => wipe σ2 vs = wipe σ vs ∧ tt σ2 H2 fun b H3 =>
      if b = true then te σ2 H3 fun y H4 => ∃ acc, H4 D = some (.lst acc) ∧ acc.length < sizeLine ∧ Pv (i + 1) (upd H4 D (.lst (acc ++ [y]))) else Pv (i + 1) H3) (hd : ∀ H, Pv xs.length H → Qd H) :
    ∃ W : Nat → Nat → Hp → Prop, (∃ m, W 0 m (upd H1 D (.lst []))) ∧ ∀ i m H, W i m H →
      ((ItN P w d o xs).stop i H ∧ Qd H) ∨ ((ItN P w d o xs).go i H ∧ ∃ Nx : Hp → Prop, (∀ H', Nx H' → ∃ m', m' < m ∧ W (i + 1) m' H') ∧ ∀ x H', (ItN P w d o xs).yld i H x H' → g x (wipe σ vs) H' fun σ2 H2 => wipe σ2 vs = wipe σ vs ∧ tt σ2 H2 fun b H3 =>
        if b = true then te σ2 H3 fun y H4 => ∃ acc, H4 D = some (.lst acc) ∧ acc.length < sizeLine ∧ Nx (upd H4 D (.lst (acc ++ [y]))) else Nx H3) := by
  refine ⟨fun i m H => m = xs.length - i ∧ i ≤ xs.length ∧ Pv i H, ⟨xs.length, by simp, Nat.zero_le _, h0⟩, ?_⟩
  rintro i m H ⟨rfl, hi, p⟩
  have q := hl i H hi p
  by_cases hlt : i < xs.length
  · refine .inr ⟨⟨q, hlt⟩, Pv (i + 1), fun H' p' => ⟨xs.length - (i + 1), by omega, rfl, hlt, p'⟩, fun x H' y => ?_⟩
    obtain ⟨e, z, hz, rfl⟩ := y
    subst e
    exact hs i z _ hz p
  · have e : i = xs.length := by omega
    subst e
    exact .inl ⟨⟨q, Nat.le_refl _⟩, hd H p⟩
theorem lc_ni {g : TG} {tt : TT} {te : TE} {vs : List Nat} {σ : L2.St} {H1 : Hp} {D : Addr} {Qd : Hp → Prop} (Pv : Nat → Hp → Prop) (h0 : Pv 0 (upd H1 D (.lst []))) (hl : ∀ i H, i ≤ xs.length → Pv i H → H d = some (.frz o (ndO P w d xs)))
    (hs : ∀ i x H T, xs[i]? = some x → Pv i H → H T = none → g (.ref T) (wipe σ vs) (upd H T (.tup [.ref x.2.1, x.2.2])) fun σ2 H2 => wipe σ2 vs = wipe σ vs ∧ tt σ2 H2 fun b H3 =>
      if b = true then te σ2 H3 fun y H4 => ∃ acc, H4 D = some (.lst acc) ∧ acc.length < sizeLine ∧ Pv (i + 1) (upd H4 D (.lst (acc ++ [y]))) else Pv (i + 1) H3) (hd : ∀ H, Pv xs.length H → Qd H) :
    ∃ W : Nat → Nat → Hp → Prop, (∃ m, W 0 m (upd H1 D (.lst []))) ∧ ∀ i m H, W i m H →
      ((ItNi P w d o xs).stop i H ∧ Qd H) ∨ ((ItNi P w d o xs).go i H ∧ ∃ Nx : Hp → Prop, (∀ H', Nx H' → ∃ m', m' < m ∧ W (i + 1) m' H') ∧ ∀ x H', (ItNi P w d o xs).yld i H x H' → g x (wipe σ vs) H' fun σ2 H2 => wipe σ2 vs = wipe σ vs ∧ tt σ2 H2 fun b H3 =>
        if b = true then te σ2 H3 fun y H4 => ∃ acc, H4 D = some (.lst acc) ∧ acc.length < sizeLine ∧ Nx (upd H4 D (.lst (acc ++ [y]))) else Nx H3) := by
  refine ⟨fun i m H => m = xs.length - i ∧ i ≤ xs.length ∧ Pv i H, ⟨xs.length, by simp, Nat.zero_le _, h0⟩, ?_⟩
  rintro i m H ⟨rfl, hi, p⟩
  have q := hl i H hi p
  by_cases hlt : i < xs.length
  · refine .inr ⟨⟨q, hlt⟩, Pv (i + 1), fun H' p' => ⟨xs.length - (i + 1), by omega, rfl, hlt, p'⟩, fun x H' y => ?_⟩
    obtain ⟨T, z, hz, rfl, n, rfl⟩ := y
    exact hs i z _ T hz p n
  · have e : i = xs.length := by omega
    subst e
    exact .inl ⟨⟨q, Nat.le_refl _⟩, hd H p⟩
end
/-! ### locks -/
section
variable {P : Program} {w : World} {K : PySem.W.Frag} {H : Hp} {d : Addr} {kvs : List NKV} {σ : L2.St} {Q : VK} {D : Ends}
theorem lockE_nd {t : TE} (g : ND P w K H d kvs) (h : ∀ o xs, plainX xs = kvs → KeysAt K H xs → H d = some (ndO P w d xs) →
    t σ (upd H d (.frz o (ndO P w d xs))) fun v H' => H' d = some (.frz o (ndO P w d xs)) ∧ Q v (upd H' d (ndO P w d xs))) : tLockE t σ H Q := by
  obtain ⟨xs, e, k, hx⟩ := g
  exact ⟨d, _, e, True.intro, fun o => h o xs hx k e⟩
theorem lock_nd {t : TS} (g : ND P w K H d kvs) (h : ∀ o xs, plainX xs = kvs → KeysAt K H xs → H d = some (ndO P w d xs) →
    t ⟨fun σ' H' => H' d = some (.frz o (ndO P w d xs)) ∧ D.nx σ' (upd H' d (ndO P w d xs)), fun v H' => H' d = some (.frz o (ndO P w d xs)) ∧ D.rt v (upd H' d (ndO P w d xs)), fun σ' H' => H' d = some (.frz o (ndO P w d xs)) ∧ D.bk σ' (upd H' d (ndO P w d xs)), fun σ' H' => H' d = some (.frz o (ndO P w d xs)) ∧ D.ct σ' (upd H' d (ndO P w d xs))⟩ σ (upd H d (.frz o (ndO P w d xs)))) : tLock t D σ H := by
  obtain ⟨xs, e, k, hx⟩ := g
  exact ⟨d, _, e, True.intro, fun o => h o xs hx k e⟩
theorem Stp.lock {M : List Addr} {H : Hp} {d : Addr} {o : Obj} {u : HO} (e : H d = some u) (nt : ∀ xs, u ≠ .tup xs) : Stp (d :: M) H (upd H d (.frz o u)) := .wr (by simp) e nt
theorem Stp.unlock {M : List Addr} {H H' : Hp} {d : Addr} {u : HO} (s : Stp (d :: M) H H') (e : H d = some u) (nt : ∀ xs, u ≠ .tup xs) (nb : ∀ ps, u ≠ .tbl ps := by exact fun _ z => nomatch z) : Stp M H (upd H' d u) :=
  ⟨fun c v h n => by
    by_cases q : c = d
    · rw [q, upd_same]; rw [q, e] at h; exact h
    · rw [upd_ne q]; exact s.keep c v h (by simp [q, n]),
   fun c xs h => by
    by_cases q : c = d
    · rw [q, e] at h; exact absurd (Option.some.inj h) (nt xs)
    · rw [upd_ne q]; exact s.tups c xs h,
   fun c ps h => by
    by_cases q : c = d
    · rw [q, upd_same] at h; exact absurd (Option.some.inj h) (nb ps)
    · rw [upd_ne q] at h; exact s.tbls c ps h⟩
/-- what is behind the lock, seen from within -/
theorem Stp.off {H' : Hp} {d : Addr} {o : Obj} {u : HO} (e : H' d = some (.frz o u)) (nb : ∀ ps, u ≠ .tbl ps := by exact fun _ z => nomatch z) : Stp [d] H' (upd H' d u) := .wr (by simp) e (fun _ z => nomatch z) nb
theorem ndO_nt {d : Addr} {xs : List (NestedKey × Addr × V)} : ∀ ys, ndO P w d xs ≠ .tup ys := fun _ z => nomatch z
theorem ndf {H' : Hp} {d : Addr} {o : Obj} {xs : List (NestedKey × Addr × V)} (e : H' d = some (.frz o (ndO P w d xs))) (k : KeysAt K H' xs) : NDF P w K H' d o (plainX xs) := ⟨xs, e, k, rfl⟩
theorem nd_of {H' : Hp} {d : Addr} {xs : List (NestedKey × Addr × V)} (e : H' d = some (ndO P w d xs)) (k : KeysAt K H' xs) : ND P w K H' d (plainX xs) := ⟨xs, e, k, rfl⟩
theorem plainX_at {xs : List (NestedKey × Addr × V)} {i : Nat} {x : NestedKey × Addr × V} (h : xs[i]? = some x) : (plainX xs)[i]? = some (x.1, x.2.2) := by unfold plainX; rw [List.getElem?_map, h]; rfl
end
/-! ### putK -/
section
variable {κ : Type} [DecidableEq κ]
theorem putK_mem {kvs : List (κ × V)} {k : κ} {v : V} {p : κ × V} (h : p ∈ putK kvs k v) : p = (k, v) ∨ (p ∈ kvs ∧ p.1 ≠ k) := by
  unfold putK at h
  split at h
  · obtain ⟨y, hy, e⟩ := List.mem_map.mp h
    by_cases q : y.1 = k
    · simp only [q, if_true] at e; left; rw [← e]
    · simp only [q, if_false] at e; right; rw [← e]; exact ⟨hy, q⟩
  · rename_i hn
    rcases List.mem_append.mp h with h | h
    · refine .inr ⟨h, fun e => hn ?_⟩
      rw [List.any_eq_true]; exact ⟨p, h, by simp [e]⟩
    · rw [List.mem_singleton] at h; exact .inl h
theorem putK_keys (kvs : List (κ × V)) (k : κ) (v : V) : (putK kvs k v).map (·.1) = if (kvs.any fun kv => decide (kv.1 = k)) = true then kvs.map (·.1) else kvs.map (·.1) ++ [k] := by
  unfold putK
  split
  · rw [List.map_map]
    refine List.map_congr_left fun x _ => ?_
    by_cases h : x.1 = k <;> simp [h]
  · simp
theorem putK_nd {kvs : List (κ × V)} {k : κ} {v : V} (h : (kvs.map (·.1)).Nodup) : ((putK kvs k v).map (·.1)).Nodup := by
  rw [putK_keys]
  split
  · exact h
  · rename_i hn
    rw [List.nodup_append]
    refine ⟨h, List.pairwise_singleton .., ?_⟩
    intro a ha b hb e
    rw [List.mem_singleton] at hb
    subst hb; subst e
    obtain ⟨p, hp, e⟩ := List.mem_map.mp ha
    exact hn (by rw [List.any_eq_true]; exact ⟨p, hp, by simp [e]⟩)
theorem valV_mem {kvs : List (κ × V)} {k : κ} {v : V} (h : valV kvs k = some v) : (k, v) ∈ kvs := by
  unfold valV at h
  obtain ⟨p, hp, rfl⟩ := Option.map_eq_some_iff.mp h
  have h1 := List.mem_of_find?_eq_some hp
  have h2 := List.find?_some hp
  simp only [decide_eq_true_eq] at h2
  rw [← h2]; exact h1
theorem valV_of {kvs : List (κ × V)} {k : κ} {v : V} (n : (kvs.map (·.1)).Nodup) (h : (k, v) ∈ kvs) : valV kvs k = some v := by
  induction kvs with
  | nil => cases h
  | cons p r ih =>
    rw [List.map_cons, List.nodup_cons] at n
    rcases List.mem_cons.mp h with e | h
    · subst e; simp [valV, List.find?_cons]
    · have : p.1 ≠ k := fun e => n.1 (List.mem_map.mpr ⟨_, h, e.symm⟩)
      rw [show valV (p :: r) k = valV r k by simp [valV, List.find?_cons, this]]
      exact ih n.2 h
end
/-! ### data in order -/
mutual
def Dt.py : Dt → PyData
  | .non => .none
  | .bl b => .bool b
  | .num i => .int i
  | .txt x => .str x
  | .tup ds => .tuple (Dt.pys ds)
  | .lst ds => .list (Dt.pys ds)
def Dt.pys : List Dt → List PyData
  | [] => []
  | d :: ds => d.py :: Dt.pys ds
end
theorem Dt.pys_map : ∀ ds : List Dt, Dt.pys ds = ds.map Dt.py
  | [] => rfl
  | d :: ds => by rw [Dt.pys, Dt.pys_map ds]; rfl
mutual
theorem Dt.py_depth : ∀ d : Dt, d.py.depth = d.depth
  | .non => rfl
  | .bl _ => rfl
  | .num _ => rfl
  | .txt _ => rfl
  | .tup ds => by simp only [Dt.py, PyData.depth, Dt.depth, Dt.pys_depth ds]
  | .lst ds => by simp only [Dt.py, PyData.depth, Dt.depth, Dt.pys_depth ds]
theorem Dt.pys_depth : ∀ ds : List Dt, PyData.depthAll (Dt.pys ds) = Dt.depthAll ds
  | [] => rfl
  | d :: ds => by simp only [Dt.pys, PyData.depthAll, Dt.depthAll, Dt.py_depth d, Dt.pys_depth ds]
end
mutual
theorem DtIs.reads {h : Heap} : ∀ (d : Dt) (v : Value), d.flat = true → DtIs h d v → Reads h v d.py []
  | .non, _, _, r => by cases r; exact .none
  | .bl _, _, f, _ => by simp [Dt.flat] at f
  | .num _, _, _, r => by cases r; exact .int _ _
  | .txt _, _, _, r => by cases r; exact .str _ _
  | .tup ds, _, f, r => by
    cases r with
    | tup h1 h2 =>
      obtain ⟨o, e, c, n, dd⟩ := h1
      exact .tuple e c dd (DtAll.reads ds _ (by simpa [Dt.flat] using f) h2)
  | .lst _, _, f, _ => by simp [Dt.flat] at f
theorem DtAll.reads {h : Heap} : ∀ (ds : List Dt) (vs : List Value), Dt.flatAll ds = true → DtAll h ds vs → ReadsAll h vs (Dt.pys ds) []
  | [], _, _, r => by cases r; exact .nil
  | d :: ds, _, f, r => by
    cases r with
    | cons r1 r2 =>
      simp only [Dt.flatAll, Bool.and_eq_true] at f
      exact .cons (as := []) (bs := []) (DtIs.reads d _ f.1 r1) (DtAll.reads ds _ f.2 r2)
end
open PySem.W in
section
variable {X : Cx}
/-- two that can be ordered -/
structure Ordb (K : PySem.W.Frag) (H : Hp) (x y : V) (d e : Dt) : Prop where
  x : DtAt K H x d
  y : DtAt K H y e
  fx : d.flat = true
  fy : e.flat = true
  al : alike d.py e.py = true
  nn : d.py ≠ .none
  dp : d.depth ≤ 8
def rLtO (K : PySem.W.Frag) : R2 := fun x y H Q => ∃ d e, Ordb K H x y d e ∧ Q (.bl (dataLt d.py e.py)) H
def rGtO (K : PySem.W.Frag) : R2 := fun x y H Q => ∃ d e, Ordb K H x y d e ∧ Q (.bl (dataLt e.py d.py)) H
theorem op_ltO (hu : X.A.units + 64 < cLine) : OpR X (compareOp .Lt) (rLtO X.K) := by
  intro pins s σ H x y v u Q I rx ry h
  obtain ⟨d, e, ⟨hx, hy, fx, fy, al, nn, dp⟩, q⟩ := h
  have n1 := Dt.py_depth d
  refine lt_data (DtIs.reads d _ fx (DtAt.is I d x v hx rx)) (DtIs.reads e _ fy (DtAt.is I e y u hy ry)) al nn (by omega) ⟨.bl _, H, I, rfl, q⟩
theorem op_gtO (hu : X.A.units + 64 < cLine) : OpR X (compareOp .Gt) (rGtO X.K) := by
  intro pins s σ H x y v u Q I rx ry h
  obtain ⟨d, e, ⟨hx, hy, fx, fy, al, nn, dp⟩, q⟩ := h
  have n1 := Dt.py_depth d
  refine gt_data (DtIs.reads d _ fx (DtAt.is I d x v hx rx)) (DtIs.reads e _ fy (DtAt.is I e y u hy ry)) al nn (by omega) ⟨.bl _, H, I, rfl, q⟩
end
end GT
/-! ### the rules where the context is a comprehension's block: P, w, K told -/
namespace GT
open PySem PySem.Spec PyProof.Rows L2
section
variable {P : Program} {w : World} {K : PySem.W.Frag} {X : Cx} {o i e value : Expr} {pos pos' tpos : Pos} {td ty tv : TE}
theorem pe_ngetK {k : Nat} (eP : X.prog = P) (ew : X.w = w) (eK : X.K = K) (hr : Room k X.A) (ho : PE X o td) (hi : PE X i ty) (hs : NoSl i) : PE X (.Subscript o i pos) (tNGet P w K td ty) := by
  subst eP; subst ew; subst eK; exact pe_nget hr ho hi hs
theorem pc_ninK {k : Nat} (eP : X.prog = P) (ew : X.w = w) (eK : X.K = K) (hr : Room k X.A) (hi : PE X i ty) (ho : PE X o td) : PC X .In i o (tNIn P w K ty td) := by
  subst eP; subst ew; subst eK; exact pc_nin hr hi ho
theorem pc_nnotinK {k : Nat} (eP : X.prog = P) (ew : X.w = w) (eK : X.K = K) (hr : Room k X.A) (hi : PE X i ty) (ho : PE X o td) : PC X .NotIn i o (tNNotIn P w K ty td) := by
  subst eP; subst ew; subst eK; exact pc_nnotin hr hi ho
end
end GT
/-! ### steps of loops -/
namespace GT
open PySem PySem.Spec PyProof.Rows L2
section
variable {σ : L2.St} {H : Hp} {Q : VK} {D : Ends} {R : It → Hp → Prop} {ta : TA} {td te tk tv : TE} {wi : TI} {g : TG} {tb : TS} {tt : TT} {vs : List Nat} {K : PySem.W.Frag} {P : Program} {w : World}
theorem i_For (q : wi σ H fun J H1 => ∃ W : Nat → Nat → L2.St → Hp → Prop, (∃ m, W 0 m σ H1) ∧ ∀ i m σ H, W i m σ H →
  (J.stop i H ∧ D.nx σ H) ∨ (J.go i H ∧ ∃ N : L2.St → Hp → Prop, (∀ σ' H', N σ' H' → ∃ m', m' < m ∧ W (i + 1) m' σ' H') ∧ ∀ x H', J.yld i H x H' → g x σ H' fun σ2 H2 => tb { D with nx := N, ct := N, bk := D.nx } σ2 H2)) : tFor wi g tb D σ H := q
theorem i_Lc (q : wi σ H fun J H1 => ∀ D, H1 D = none → ∃ W : Nat → Nat → Hp → Prop, (∃ m, W 0 m (upd H1 D (.lst []))) ∧ ∀ i m H, W i m H →
  (J.stop i H ∧ Q (.ref D) H) ∨ (J.go i H ∧ ∃ Nx : Hp → Prop, (∀ H', Nx H' → ∃ m', m' < m ∧ W (i + 1) m' H') ∧ ∀ x H', J.yld i H x H' → g x (wipe σ vs) H' fun σ2 H2 => wipe σ2 vs = wipe σ vs ∧ tt σ2 H2 fun b H3 =>
    if b = true then te σ2 H3 fun y H4 => ∃ acc, H4 D = some (.lst acc) ∧ acc.length < sizeLine ∧ Nx (upd H4 D (.lst (acc ++ [y]))) else Nx H3)) : tLc wi g tt te vs σ H Q := q
theorem i_Rng1 (q : ta σ H fun vs H1 => ∃ j : Int, vs = [.int j] ∧ -(2 ^ 62) ≤ j ∧ j < 2 ^ 62 ∧ R (Itr 0 j.toNat) H1) : iRng1 ta σ H R := q
theorem i_Rng2 (q : ta σ H fun vs H1 => ∃ i j : Int, vs = [.int i, .int j] ∧ (-(2 ^ 62) ≤ i ∧ i < 2 ^ 62 ∧ -(2 ^ 62) ≤ j ∧ j < 2 ^ 62) ∧ R (Itr i (j - i).toNat) H1) : iRng2 ta σ H R := q
theorem i_List (q : td σ H fun x H1 => ∃ a, x = .ref a ∧ (∃ xs, SqL K H1 a xs) ∧ R (Itl K a) H1) : iList K td σ H R := q
theorem i_Nk (q : td σ H fun x H1 => ∃ d o xs, x = .ref d ∧ H1 d = some (.frz o (ndO P w d xs)) ∧ R (ItN P w d o xs) H1) : iN P w td σ H R := q
theorem i_Nki (q : td σ H fun x H1 => ∃ d o xs, x = .ref d ∧ H1 d = some (.frz o (ndO P w d xs)) ∧ R (ItNi P w d o xs) H1) : iNi P w td σ H R := q
theorem i_NGet (q : td σ H fun x H1 => te σ H1 fun y H2 => ∃ d a kvs k v, x = .ref d ∧ y = .ref a ∧ NDR P w K H2 d kvs ∧ KyAt K H2 (.ref a) k ∧ valV kvs k = some v ∧ Q v H2) : tNGet P w K td te σ H Q := q
theorem i_NIn (q : te σ H fun y H1 => td σ H1 fun x H2 => ∃ d a kvs k, x = .ref d ∧ y = .ref a ∧ NDR P w K H2 d kvs ∧ KyAt K H2 (.ref a) k ∧ Q (.bl (valV kvs k).isSome) H2) : tNIn P w K te td σ H Q := q
theorem i_NNotIn (q : te σ H fun y H1 => td σ H1 fun x H2 => ∃ d a kvs k, x = .ref d ∧ y = .ref a ∧ NDR P w K H2 d kvs ∧ KyAt K H2 (.ref a) k ∧ Q (.bl (!(valV kvs k).isSome)) H2) : tNNotIn P w K te td σ H Q := q
theorem i_NPut (q : tv σ H fun v H1 => td σ H1 fun x H2 => tk σ H2 fun y H3 => ∃ d a kvs k, x = .ref d ∧ y = .ref a ∧ ND P w K H3 d kvs ∧ KyAt K H3 (.ref a) k ∧ kvs.length < sizeLine ∧
  ∀ H4, ND P w K H4 d (putK kvs k v) → Stp [d] H3 H4 → (∀ (H0 : Hp) M, Stp M H0 H3 → H0 d = none → Stp M H0 H4) → D.nx σ H4) : sNPut P w K td tk tv D σ H := q
end
/-- what is new and is written: an item more -/
theorem Stp.into {M : List Addr} {H0 H1 H2 : Hp} {p : Addr} (s : Stp M H0 H1) (n : H0 p = none) (t : Stp (p :: M) H1 H2) : Stp M H0 H2 :=
  ⟨fun c o h m => t.keep c o (s.keep c o h m) (by
      simp only [List.mem_cons, not_or]
      exact ⟨fun e => (by rw [e, n] at h; cases h), m⟩), fun c xs h => t.tups c xs (s.tups c xs h), fun c ps h => let ⟨qs, e⟩ := t.tbls c ps h; s.tbls c qs e⟩
/-- .. and the other way: the steps before it was made do not count -/
theorem key_num2 (a b : Int) : (Dt.tup [.num a, .num b]).key = .tup [.num a, .num b] := rfl
end GT

/-! ## two such dicts compared -/
namespace GT
open PySem PySem.Spec PyProof.Rows PySem.Calls
section
variable {prog : Program} {w : World} {K : Type} [DecidableEq K] {knd : HeapKind prog w K} {A : Around} {E : Value → Shared → Prop} {s : Shared}
inductive HHits {K : Type} [DecidableEq K] (A : Around) (s : Shared) (kb : List (K × Addr × Value)) : List (K × Addr × Value) → Bool → Prop
  | nil : HHits A s kb [] true
  | miss {k : K} {q : Addr × Value} {r : List (K × Addr × Value)} : (∀ p, (k, p) ∉ kb) → HHits A s kb ((k, q) :: r) false
  | hit {k : K} {q : Addr × Value} {r : List (K × Addr × Value)} {e b : Bool} : (∃ p, (k, p) ∈ kb) → (∀ p, (k, p) ∈ kb → SeqAt.EqAt A s q.2 p.2 e) → HHits A s kb r b → HHits A s kb ((k, q) :: r) (e && b)
theorem HHits.inv {kb : List (K × Addr × Value)} {k : K} {q : Addr × Value} {r : List (K × Addr × Value)} {b : Bool} (h : HHits A s kb ((k, q) :: r) b) :
    ((∀ p, (k, p) ∉ kb) ∧ b = false) ∨ ∃ e b', (∃ p, (k, p) ∈ kb) ∧ (∀ p, (k, p) ∈ kb → SeqAt.EqAt A s q.2 p.2 e) ∧ HHits A s kb r b' ∧ b = (e && b') := by
  cases h with
  | miss hn => exact .inl ⟨hn, rfl⟩
  | hit hy he hr => exact .inr ⟨_, _, hy, he, hr, rfl⟩
theorem h_samePairs {nm : String} {a b : Addr} {ka kb : List (K × Addr × Value)} {r : Bool} {Q : Bool → Shared → Prop} (hu : knd.room A) (ha : (a == sysModules) = false) (hb : (b == sysModules) = false)
    (da : s.heap.DictOfH knd a ka) (db : s.heap.DictOfH knd b kb) (hits : ka.length = kb.length → HHits A s kb ka r) (h : Q (ka.length == kb.length && r) s) :
    wpAny (model prog w) A (Builtin.Dict.samePairs nm a b) Q E s := by
  obtain ⟨oa, es, ep, hoa, _, hda, hka, hia, _⟩ := da
  obtain ⟨ob, es', ep', hob, _, hdb, hkb, hib, hnb⟩ := db
  have hla : ka.length = es.size := (size_of_entries hka).symm
  have hlb : kb.length = es'.size := (size_of_entries hkb).symm
  rw [hla, hlb] at h
  unfold Builtin.Dict.samePairs Builtin.Dict.showsAll
  rw [if_neg (show ¬ (a == sysModules) = true by rw [ha]; exact Bool.false_ne_true), if_neg (show ¬ (b == sysModules) = true by rw [hb]; exact Bool.false_ne_true)]
  refine wpAny_bind (wpAny_pure (wpAny_bind (wpAny_pure ?_)))
  refine wpAny_bind (wpAny_dictEntries hoa hda ?_)
  dsimp only
  refine wpAny_bind (wpAny_dictEntries hob hdb ?_)
  by_cases hsz : es.size = es'.size
  case neg =>
    rw [if_pos (by simpa using hsz)]
    have hbf : (es.size == es'.size) = false := by simpa using hsz
    rw [hbf, Bool.false_and] at h
    exact wpAny_bind (wpAny_rule (wpAny_pure h))
  case pos =>
    have h' : Q r s := by simpa [hsz] using h
    have hits' := hits (by rw [hla, hlb]; exact hsz)
    rw [if_neg (by rw [hsz]; simp)]
    refine wpAny_bind (wpAny_dictEpoch hoa hda ?_)
    refine wpAny_bind ?_
    rw [Std.Legacy.Range.forIn_eq_forIn_range']
    simp only [Std.Legacy.Range.size, Nat.sub_zero, Nat.add_sub_cancel, Nat.div_one]
    refine wpAny_forIn_list _
      (fun rest q s' => s' = s ∧ q = (none, ()) ∧ ∃ i, rest = List.range' i (es.size - i) ∧ i ≤ es.size ∧ HHits A s kb (ka.drop i) r)
      _ ?_ ?_ _ _ ⟨rfl, rfl, 0, by simp, Nat.zero_le _, hits'⟩
    · rintro x rest q s' ⟨rfl, rfl, i, hr, hi, hpre⟩
      have hlt : i < es.size := by
        rcases Nat.lt_or_ge i es.size with h | h
        · exact h
        · rw [Nat.sub_eq_zero_of_le h] at hr; simp at hr
      obtain ⟨rfl, hrest⟩ : x = i ∧ rest = List.range' (i + 1) (es.size - (i + 1)) := by
        have e : es.size - i = (es.size - (i + 1)) + 1 := by omega
        rw [e, List.range'_succ] at hr
        injection hr with h1 h2
        exact ⟨h1, h2⟩
      refine wpAny_bind (wpAny_dictEntries hoa hda ?_)
      have hlt' : x < ka.length := by rw [hla]; exact hlt
      obtain ⟨k, ad, v, hkv⟩ : ∃ k ad v, ka[x] = (k, ad, v) := ⟨_, _, _, rfl⟩
      have hdrop : ka.drop x = (k, ad, v) :: ka.drop (x + 1) := by rw [← hkv]; exact List.drop_eq_getElem_cons hlt'
      have hent : es[x]? = some (entryOfKey knd (k, ad, v)) := by rw [entry_at hka x, List.getElem?_eq_getElem hlt', hkv]; rfl
      have hkey : knd.is s'.heap k ad := by
        have := hia (k, ad, v) (by rw [← hkv]; exact List.getElem_mem hlt')
        exact this
      rw [hent]
      rw [hdrop] at hpre
      show wpAny _ _ (holding [Value.ref ad, v] _ >>= _) _ _ _
      refine wpAny_bind (wpAny_holding (wpAny_bind (wpAny_dictFind_heap hu hkey hob hdb hkb hib hnb (fun hn => ?_) fun j p hj => ?_)))
      · rcases hpre.inv with ⟨_, er⟩ | ⟨_, _, ⟨p, hp⟩, _⟩
        · rw [er] at h'
          refine wpAny_pure ?_
          show wpAny _ _ (if (!false) = true then _ else _) _ _ _
          rw [if_pos (by decide)]
          exact wpAny_pure (wpAny_pure h')
        · obtain ⟨j, hj⟩ := List.getElem?_of_mem hp
          exact absurd hj (hn j p)
      · have hm : (k, p) ∈ kb := List.mem_of_getElem? hj
        refine wpAny_bind (wpAny_dictEntries hob hdb ?_)
        have hent' : es'[j]? = some (entryOfKey knd (k, p)) := by rw [entry_at hkb j, hj]; rfl
        rw [hent']
        rcases hpre.inv with ⟨hn, _⟩ | ⟨e, b', _, he, hrr, er⟩
        · exact absurd hm (hn p)
        · refine wpAny_holding (he p hm prog w _ _ ?_)
          cases e with
          | false =>
            rw [er, Bool.false_and] at h'
            show wpAny _ _ (if (!false) = true then _ else _) _ _ _
            rw [if_pos (by decide)]
            exact wpAny_pure (wpAny_pure h')
          | true =>
            rw [Bool.true_and] at er
            rw [← er] at hrr
            show wpAny _ _ (if (!true) = true then _ else _) _ _ _
            rw [if_neg (by decide)]
            refine wpAny_bind (wpAny_dictEpoch hoa hda ?_)
            rw [if_neg (by simp)]
            exact wpAny_pure ⟨rfl, rfl, x + 1, hrest, hlt, hrr⟩
    · rintro q s' ⟨rfl, rfl, i, hr, hi, hpre⟩
      have hin : i = es.size := by
        rcases Nat.lt_or_ge i es.size with h | h
        · have e : es.size - i = (es.size - (i + 1)) + 1 := by omega
          rw [e, List.range'_succ] at hr; exact nomatch hr
        · exact Nat.le_antisymm hi h
      refine wpAny_pure ?_
      rw [hin, ← hla, List.drop_length] at hpre
      cases hpre
      exact h'
theorem h_eq {a b : Addr} {ka kb : List (K × Addr × Value)} {r : Bool} {Q : Value → Shared → Prop} (hk : knd.room A.in1) (ha : (a == sysModules) = false) (hb : (b == sysModules) = false)
    (da : s.heap.DictOfH knd a ka) (db : s.heap.DictOfH knd b kb) (hu : A.units < cLine) (hits : ka.length = kb.length → HHits A.in1 s kb ka r) (h : Q (.bool (ka.length == kb.length && r)) s) :
    wpAny (model prog w) A (compareOp .Eq (.ref a) (.ref b)) Q E s := by
  refine wpAny_richCompare_same_room (op := .Eq) da.typeIs db.typeIs PySem.F.slot_dict_eq (wpAny_call_entry PySem.F.slot_dict_eq da.typeIs PySem.F.entry_dict_eq ?_ (PySem.F.args_dict_eq_2 _ _)) hu
  show wpAny _ _ (Builtin.Dict.dictSlotArgs "__eq__" ⟨[.ref a, .ref b], []⟩ >>= _) _ _ s
  refine wpAny_bind ?_
  unfold Builtin.Dict.dictSlotArgs
  refine wpAny_bind (wpAny_notOrdered_dict da.typeIs ?_)
  show wpAny _ _ (pure (Value.ref a, Value.ref b)) _ _ s
  refine wpAny_pure ?_
  refine wpAny_bind (wpAny_isInstance (T := "dict") db.typeIs PySem.F.sub_dict_dict ?_)
  simp only [Bool.not_true, Bool.false_eq_true, if_false]
  refine wpAny_bind (wpAny_pure (wpAny_bind (wpAny_pure ?_)))
  refine wpAny_bind (h_samePairs hk ha hb da db hits ?_)
  refine wpAny_pure ⟨_, rfl, ?_, ?_⟩
  · exact fun x => nomatch x
  · simpa using h
theorem h_ne {a b : Addr} {ka kb : List (K × Addr × Value)} {r : Bool} {Q : Value → Shared → Prop} (hk : knd.room A.in1) (ha : (a == sysModules) = false) (hb : (b == sysModules) = false)
    (da : s.heap.DictOfH knd a ka) (db : s.heap.DictOfH knd b kb) (hu : A.units < cLine) (hits : ka.length = kb.length → HHits A.in1 s kb ka r) (h : Q (.bool (!(ka.length == kb.length && r))) s) :
    wpAny (model prog w) A (compareOp .NotEq (.ref a) (.ref b)) Q E s := by
  refine wpAny_richCompare_same_room (op := .NotEq) da.typeIs db.typeIs PySem.F.slot_dict_ne (wpAny_call_entry PySem.F.slot_dict_ne da.typeIs PySem.F.entry_dict_ne ?_ (PySem.F.args_dict_ne_2 _ _)) hu
  show wpAny _ _ (Builtin.Dict.dictSlotArgs "__ne__" ⟨[.ref a, .ref b], []⟩ >>= _) _ _ s
  refine wpAny_bind ?_
  unfold Builtin.Dict.dictSlotArgs
  refine wpAny_bind (wpAny_notOrdered_dict da.typeIs ?_)
  show wpAny _ _ (pure (Value.ref a, Value.ref b)) _ _ s
  refine wpAny_pure ?_
  refine wpAny_bind (wpAny_isInstance (T := "dict") db.typeIs PySem.F.sub_dict_dict ?_)
  simp only [Bool.not_true, Bool.false_eq_true, if_false]
  refine wpAny_bind (wpAny_pure (wpAny_bind (wpAny_pure ?_)))
  refine wpAny_bind (h_samePairs hk ha hb da db hits ?_)
  refine wpAny_pure ⟨_, rfl, ?_, ?_⟩
  · exact fun x => nomatch x
  · simpa using h
end
end GT
namespace GT
open PySem PySem.Spec PyProof.Rows L2
/-! ### entries whose values are data -/
abbrev NKD := NestedKey × Dt
def valD (kd : List NKD) (k : NestedKey) : Option Dt := (kd.find? fun p => decide (p.1 = k)).map (·.2)
/-- == of two such dicts -/
def dEq (ka kb : List NKD) : Bool := ka.length == kb.length && ka.all fun p => match valD kb p.1 with
  | none => false
  | some d => Dt.beq p.2 d
/-- the values at kvs are the data of kd -/
def DD (K : PySem.W.Frag) (H : Hp) : List NKV → List NKD → Prop := Paired fun p q => p.1 = q.1 ∧ DtAt K H p.2 q.2 ∧ q.2.flat = true ∧ q.2.depth ≤ 8
section
variable {K : PySem.W.Frag} {H H1 : Hp} {M : List Addr} {kvs : List NKV} {kd : List NKD}
theorem DD.stp (h : DD K H kvs kd) (s : Stp M H H1) : DD K H1 kvs kd := by
  induction h with
  | nil => exact .nil
  | cons h _ ih => exact .cons ⟨h.1, DtAt.stp s _ _ h.2.2.1 h.2.1, h.2.2⟩ ih
theorem DD.keys (h : DD K H kvs kd) : kvs.map (·.1) = kd.map (·.1) := by
  induction h with
  | nil => rfl
  | cons h _ ih => rw [List.map_cons, List.map_cons, h.1, ih]
theorem DD.len (h : DD K H kvs kd) : kvs.length = kd.length := Paired.length h
theorem DD.val (h : DD K H kvs kd) (k : NestedKey) : (valV kvs k = none ∧ valD kd k = none) ∨ ∃ v d, valV kvs k = some v ∧ valD kd k = some d ∧ DtAt K H v d ∧ d.flat = true ∧ d.depth ≤ 8 := by
  induction h with
  | nil => exact .inl ⟨rfl, rfl⟩
  | @cons p q ps qs h t ih =>
    obtain ⟨h1, h2, h3, h4⟩ := h
    by_cases e : p.1 = k
    · have e' : q.1 = k := h1.symm.trans e
      exact .inr ⟨p.2, q.2, by simp [valV, List.find?_cons, e], by simp [valD, List.find?_cons, e'], h2, h3, h4⟩
    · have e' : ¬ q.1 = k := fun z => e (h1.trans z)
      rw [show valV (p :: ps) k = valV ps k by simp [valV, List.find?_cons, e], show valD (q :: qs) k = valD qs k by simp [valD, List.find?_cons, e']]
      exact ih
def putD (kd : List NKD) (k : NestedKey) (d : Dt) : List NKD :=
  if (kd.any fun p => decide (p.1 = k)) = true then kd.map (fun p => if p.1 = k then (p.1, d) else p) else kd ++ [(k, d)]
theorem DD.put (h : DD K H kvs kd) {k : NestedKey} {v : V} {d : Dt} (hv : DtAt K H v d) (f : d.flat = true) (n : d.depth ≤ 8) : DD K H (putK kvs k v) (putD kd k d) := by
  have e : (kvs.any fun p => decide (p.1 = k)) = kd.any fun p => decide (p.1 = k) := by
    clear hv f n
    induction h with
    | nil => rfl
    | cons h _ ih => rw [List.any_cons, List.any_cons, ih, h.1]
  unfold putK putD
  rw [e]
  split
  · rename_i hs
    clear e hs
    induction h with
    | nil => exact .nil
    | @cons p q ps qs h t ih =>
      rw [List.map_cons, List.map_cons]
      refine .cons ?_ ih
      by_cases c : p.1 = k
      · rw [if_pos c, if_pos (h.1.symm.trans c)]; exact ⟨h.1, hv, f, n⟩
      · rw [if_neg c, if_neg (fun z => c (h.1.trans z))]; exact h
  · exact Paired.snoc h ⟨rfl, hv, f, n⟩
theorem valD_put (kd : List NKD) (k j : NestedKey) (d : Dt) : valD (putD kd k d) j = if j = k then some d else valD kd j := by
  unfold putD
  split
  · rename_i ha
    rw [List.any_eq_true] at ha
    obtain ⟨p, hp, hk⟩ := ha
    simp only [decide_eq_true_eq] at hk
    induction kd with
    | nil => cases hp
    | cons q r ih =>
      by_cases e : q.1 = k
      · rw [List.map_cons, if_pos e]
        by_cases c : j = k
        · rw [if_pos c]; simp [valD, List.find?_cons, e, c]
        · rw [if_neg c]
          have n1 : ¬ q.1 = j := fun z => c (z.symm.trans e)
          rw [show valD ((q.1, d) :: r.map (fun p => if p.1 = k then (p.1, d) else p)) j = valD (r.map (fun p => if p.1 = k then (p.1, d) else p)) j by simp [valD, List.find?_cons, n1], show valD (q :: r) j = valD r j by simp [valD, List.find?_cons, n1]]
          clear ih hp hk
          induction r with
          | nil => rfl
          | cons x r ih2 =>
            rw [List.map_cons]
            by_cases ex : x.1 = k
            · rw [if_pos ex]
              have n2 : ¬ x.1 = j := fun z => c (z.symm.trans ex)
              simpa [valD, List.find?_cons, n2] using ih2
            · rw [if_neg ex]
              by_cases ej : x.1 = j
              · simp [valD, List.find?_cons, ej]
              · simpa [valD, List.find?_cons, ej] using ih2
      · rw [List.map_cons, if_neg e]
        rcases List.mem_cons.mp hp with z | hp
        · rw [z] at hk; exact absurd hk e
        · by_cases ej : q.1 = j
          · have c : ¬ j = k := fun z => e (ej.trans z)
            rw [if_neg c]; simp [valD, List.find?_cons, ej]
          · have := ih hp
            simpa [valD, List.find?_cons, ej] using this
  · rename_i ha
    have hn : ∀ p ∈ kd, ¬ p.1 = k := fun p hp e => ha (by rw [List.any_eq_true]; exact ⟨p, hp, by simp [e]⟩)
    clear ha
    induction kd with
    | nil =>
      by_cases c : j = k
      · rw [if_pos c]; simp [valD, c]
      · rw [if_neg c]
        have : ¬ k = j := fun z => c z.symm
        simp [valD, this]
    | cons q r ih =>
      have ih := ih fun p hp => hn p (List.mem_cons_of_mem _ hp)
      by_cases ej : q.1 = j
      · have c : ¬ j = k := fun z => hn q List.mem_cons_self (ej.trans z)
        rw [if_neg c]; simp [valD, List.find?_cons, ej]
      · simpa [valD, List.find?_cons, ej] using ih
end
theorem valD_mem {kd : List NKD} {k : NestedKey} {d : Dt} (h : valD kd k = some d) : (k, d) ∈ kd := by
  unfold valD at h
  obtain ⟨p, hp, rfl⟩ := Option.map_eq_some_iff.mp h
  have h2 := List.find?_some hp
  simp only [decide_eq_true_eq] at h2
  rw [← h2]; exact List.mem_of_find?_eq_some hp
theorem valD_of {kd : List NKD} {k : NestedKey} {d : Dt} (n : (kd.map (·.1)).Nodup) (h : (k, d) ∈ kd) : valD kd k = some d := by
  induction kd with
  | nil => cases h
  | cons p r ih =>
    rw [List.map_cons, List.nodup_cons] at n
    rcases List.mem_cons.mp h with e | h
    · subst e; simp [valD, List.find?_cons]
    · have : p.1 ≠ k := fun e => n.1 (List.mem_map.mpr ⟨_, h, e.symm⟩)
      rw [show valD (p :: r) k = valD r k by simp [valD, List.find?_cons, this]]
      exact ih n.2 h
theorem len_sub {κ : Type} [DecidableEq κ] : ∀ (a b : List κ), a.Nodup → a ⊆ b → a.length ≤ b.length
  | [], _, _, _ => Nat.zero_le _
  | x :: r, b, n, h => by
    rw [List.nodup_cons] at n
    have hx : x ∈ b := h List.mem_cons_self
    have ih := len_sub r (b.erase x) n.2 fun y hy => by
      have ne : y ≠ x := fun e => n.1 (e ▸ hy)
      exact (List.mem_erase_of_ne ne).mpr (h (List.mem_cons_of_mem _ hy))
    have l := List.length_erase_of_mem hx
    have p : 0 < b.length := List.length_pos_of_mem hx
    rw [List.length_cons]
    omega
/-- == tells whether each key has the same value -/
theorem dEq_iff {ka kb : List NKD} (na : (ka.map (·.1)).Nodup) (nb : (kb.map (·.1)).Nodup) (pa : ∀ p ∈ ka, p.2.pure = true) (pb : ∀ p ∈ kb, p.2.pure = true) : dEq ka kb = true ↔ ∀ k, valD ka k = valD kb k := by
  unfold dEq
  rw [Bool.and_eq_true, List.all_eq_true, beq_iff_eq]
  constructor
  · rintro ⟨hl, h⟩
    have sub : ∀ p ∈ ka, valD kb p.1 = some p.2 := fun p hp => by
      have := h p hp
      cases q : valD kb p.1 with
      | none => rw [q] at this; exact absurd this (by simp)
      | some d =>
        rw [q] at this
        rw [Dt.eq_of_beq _ _ (pa p hp) (pb _ (valD_mem q)) this]
    -- keys of ka are those of kb
    have s1 : (ka.map (·.1)) ⊆ (kb.map (·.1)) := fun k hk => by
      obtain ⟨p, hp, rfl⟩ := List.mem_map.mp hk
      exact List.mem_map.mpr ⟨_, valD_mem (sub p hp), rfl⟩
    intro k
    cases q : valD ka k with
    | some d => exact (sub _ (valD_mem q)).symm
    | none =>
      cases r : valD kb k with
      | none => rfl
      | some d =>
        have hk : k ∈ kb.map (·.1) := List.mem_map.mpr ⟨_, valD_mem r, rfl⟩
        by_cases hka : k ∈ ka.map (·.1)
        · obtain ⟨p, hp, rfl⟩ := List.mem_map.mp hka
          rw [valD_of na hp] at q
          cases q
        · have := len_sub (k :: ka.map (·.1)) (kb.map (·.1)) (List.nodup_cons.mpr ⟨hka, na⟩) fun y hy => by
            rcases List.mem_cons.mp hy with e | e
            · rw [e]; exact hk
            · exact s1 e
          simp at this
          omega
  · intro h
    have sub : ∀ {x y : List NKD}, (x.map (·.1)).Nodup → (∀ k, valD x k = valD y k) → (x.map (·.1)) ⊆ (y.map (·.1)) := fun nx hxy k hk => by
      obtain ⟨p, hp, rfl⟩ := List.mem_map.mp hk
      have := hxy p.1
      rw [valD_of nx hp] at this
      exact List.mem_map.mpr ⟨_, valD_mem this.symm, rfl⟩
    refine ⟨?_, fun p hp => ?_⟩
    · have l1 := len_sub _ _ na (sub na h)
      have l2 := len_sub _ _ nb (sub nb fun k => (h k).symm)
      simp at l1 l2
      omega
    · rw [← h p.1, valD_of na hp]
      exact Dt.beq_self _
end GT

namespace GT
open PySem PySem.Spec PyProof.Rows L2
abbrev YD (h : Heap) : List (NestedKey × Addr × Value) → List NKD → Prop := Paired fun y q => y.1 = q.1 ∧ DtIs h q.2 y.2.2 ∧ q.2.depth ≤ 8
section
variable {X : Cx} {pins : List (Addr × Obj)} {σ : L2.St} {H : Hp} {s : Shared}
theorem yd_of (I : Inv X pins σ H s) : ∀ {xs : List (NestedKey × Addr × V)} {ys : List (NestedKey × Addr × Value)} {da : List NKD}, NdRel xs ys → DD X.K H (plainX xs) da → YD s.heap ys da := by
  intro xs ys da r
  induction r generalizing da with
  | nil =>
    intro d
    have d' : DD X.K H [] da := d
    cases d'
    exact .nil
  | @cons p q ps qs h t ih =>
    intro d
    have d' : DD X.K H ((p.1, p.2.2) :: plainX ps) da := d
    cases d' with
    | cons e et => exact .cons ⟨h.1.symm.trans e.1, DtAt.is I _ _ _ e.2.1 h.2.2, e.2.2.2⟩ (ih et)
theorem YD.keys {h : Heap} {ys : List (NestedKey × Addr × Value)} {da : List NKD} (r : YD h ys da) : ys.map (·.1) = da.map (·.1) := by
  induction r with
  | nil => rfl
  | cons h _ ih => rw [List.map_cons, List.map_cons, h.1, ih]
theorem YD.len {h : Heap} {ys : List (NestedKey × Addr × Value)} {da : List NKD} (r : YD h ys da) : ys.length = da.length := Paired.length r
theorem YD.at {h : Heap} {ys : List (NestedKey × Addr × Value)} {da : List NKD} (r : YD h ys da) {k : NestedKey} {p : Addr × Value} (m : (k, p) ∈ ys) : ∃ d, (k, d) ∈ da ∧ DtIs h d p.2 ∧ d.depth ≤ 8 := by
  induction r with
  | nil => cases m
  | @cons y q _ _ e _ ih =>
    rcases List.mem_cons.mp m with z | m
    · subst z
      obtain ⟨k', d'⟩ := q
      obtain ⟨rfl, e2, e3⟩ := e
      exact ⟨_, List.mem_cons_self, e2, e3⟩
    · obtain ⟨d, hd, x⟩ := ih m
      exact ⟨d, List.mem_cons_of_mem _ hd, x⟩
theorem YD.hits {A : Around} {yb : List (NestedKey × Addr × Value)} {db : List NKD} (hu : A.units + 32 < cLine) (rb : YD s.heap yb db) (nb : (db.map (·.1)).Nodup) {ya : List (NestedKey × Addr × Value)} {da : List NKD} (r : YD s.heap ya da) :
    HHits A s yb ya (da.all fun p => match valD db p.1 with
      | none => false
      | some d => Dt.beq p.2 d) := by
  induction r with
  | nil => exact .nil
  | @cons y q _ _ e _ ih =>
    obtain ⟨k, a, u⟩ := y
    obtain ⟨k', d⟩ := q
    obtain ⟨e1, e2, e3⟩ := e
    obtain rfl : k = k' := e1
    rw [List.all_cons]
    cases hv : valD db k with
    | none =>
      simp only [hv, Bool.false_and]
      refine .miss fun p hp => ?_
      obtain ⟨d', hd, _⟩ := rb.at hp
      rw [valD_of nb hd] at hv
      cases hv
    | some d2 =>
      simp only [hv]
      refine .hit ?_ (fun p hp => ?_) ih
      · have hm : k ∈ yb.map (·.1) := by rw [rb.keys]; exact List.mem_map.mpr ⟨_, valD_mem hv, rfl⟩
        obtain ⟨⟨k2, p⟩, hp, ek⟩ := List.mem_map.mp hm
        obtain rfl : k2 = k := ek
        exact ⟨p, hp⟩
      · obtain ⟨d', hd, h1, h2⟩ := rb.at hp
        rw [valD_of nb hd] at hv
        cases hv
        exact eqAt_dt d _ A s u p.2 e2 h1 (by omega)
end
section
variable {P : Program} {w : World} {K : PySem.W.Frag} {X : Cx}
def rEqN (P : Program) (w : World) (K : PySem.W.Frag) : R2 := fun x y H Q => ∃ a b ka kb da db, x = .ref a ∧ y = .ref b ∧ NDR P w K H a ka ∧ NDR P w K H b kb ∧ DD K H ka da ∧ DD K H kb db ∧
  ((da.map (·.1)).Nodup → (db.map (·.1)).Nodup → Q (.bl (dEq da db)) H)
def rNeN (P : Program) (w : World) (K : PySem.W.Frag) : R2 := fun x y H Q => ∃ a b ka kb da db, x = .ref a ∧ y = .ref b ∧ NDR P w K H a ka ∧ NDR P w K H b kb ∧ DD K H ka da ∧ DD K H kb db ∧
  ((da.map (·.1)).Nodup → (db.map (·.1)).Nodup → Q (.bl (!dEq da db)) H)
theorem DictOfH.nd {h : Heap} {P : Program} {w : World} {d : Addr} {ys : List (NestedKey × Addr × Value)} (x : h.DictOfH (nestedKind P w) d ys) : (ys.map (·.1)).Nodup := by
  obtain ⟨_, _, _, _, _, _, _, _, n⟩ := x
  exact n
theorem op_eqN (eP : X.prog = P) (ew : X.w = w) (eK : X.K = K) (hu : X.A.units + 64 < cLine) : OpR X (compareOp .Eq) (rEqN P w K) := by
  subst eP; subst ew; subst eK
  intro pins s σ H x y v u Q I rx ry h
  obtain ⟨a, b, ka, kb, da, db, rfl, rfl, ⟨xa, ea, ksa, rfl⟩, ⟨xb, eb, ksb, rfl⟩, dda, ddb, q⟩ := h
  obtain rfl : v = Value.ref a := rx
  obtain rfl : u = Value.ref b := ry
  obtain ⟨_, ha, ya, ra, oa⟩ := nd_raw I ea ksa
  obtain ⟨_, hb, yb, rb, ob⟩ := nd_raw I eb ksb
  have ja := yd_of I ra dda
  have jb := yd_of I rb ddb
  have na : (da.map (·.1)).Nodup := by rw [← ja.keys]; exact DictOfH.nd oa
  have nb : (db.map (·.1)).Nodup := by rw [← jb.keys]; exact DictOfH.nd ob
  have hu1 : X.A.in1.units = X.A.units + 1 := Around.in1_units ..
  refine h_eq (knd := nestedKind X.prog X.w) (show X.A.in1.units + 8 < cLine by omega) ha hb oa ob (by omega) (fun _ => YD.hits (by omega) jb nb ja) ?_
  refine ⟨.bl _, H, I, rfl, ?_⟩
  rw [ja.len, jb.len]
  exact q na nb
theorem op_neN (eP : X.prog = P) (ew : X.w = w) (eK : X.K = K) (hu : X.A.units + 64 < cLine) : OpR X (compareOp .NotEq) (rNeN P w K) := by
  subst eP; subst ew; subst eK
  intro pins s σ H x y v u Q I rx ry h
  obtain ⟨a, b, ka, kb, da, db, rfl, rfl, ⟨xa, ea, ksa, rfl⟩, ⟨xb, eb, ksb, rfl⟩, dda, ddb, q⟩ := h
  obtain rfl : v = Value.ref a := rx
  obtain rfl : u = Value.ref b := ry
  obtain ⟨_, ha, ya, ra, oa⟩ := nd_raw I ea ksa
  obtain ⟨_, hb, yb, rb, ob⟩ := nd_raw I eb ksb
  have ja := yd_of I ra dda
  have jb := yd_of I rb ddb
  have na : (da.map (·.1)).Nodup := by rw [← ja.keys]; exact DictOfH.nd oa
  have nb : (db.map (·.1)).Nodup := by rw [← jb.keys]; exact DictOfH.nd ob
  have hu1 : X.A.in1.units = X.A.units + 1 := Around.in1_units ..
  refine h_ne (knd := nestedKind X.prog X.w) (show X.A.in1.units + 8 < cLine by omega) ha hb oa ob (by omega) (fun _ => YD.hits (by omega) jb nb ja) ?_
  refine ⟨.bl _, H, I, rfl, ?_⟩
  rw [ja.len, jb.len]
  exact q na nb
end
end GT

/-! ## methods and makers -/
namespace GT
open PySem PySem.Spec PyProof.Rows L2
def Dfm (K : PySem.W.Frag) (C : Addr) (d : He.DefD) : Prop := ∃ (f : Addr) (fd : FuncData), FunD K d.name d.qual d.params d.body d.scope [] [] f fd ∧ Meth K C d.name f
def Dfi (K : PySem.W.Frag) (mg : Str → Option Value) (C : Addr) (x : Str) (d : He.DefD) : Prop := ∃ (f : Addr) (fd : FuncData), FunD K d.name d.qual d.params d.body d.scope [] [] f fd ∧ (Mk K C f ∧ mg x = some (.ref C))
def Mth (P : Program) (w : World) (K : PySem.W.Frag) (mg : Str → Option Value) (base : Heap) (k : Nat) (C : Addr) (m : Str) (ps : List Str) (sp : Sp) : Prop :=
  ∃ (f : Addr) (fd : FuncData), FnOk P w K mg base CX0 k f fd ps sp ∧ Meth K C m f ∧ PySem.W.keepIn K (.ref f) = true ∧ Binds K fd ps []
def Mki (P : Program) (w : World) (K : PySem.W.Frag) (mg : Str → Option Value) (base : Heap) (k : Nat) (C : Addr) (x : Str) (ps : List Str) (sp : Sp) : Prop :=
  ∃ (f : Addr) (fd : FuncData), FnOk P w K mg base CX0 k f fd ps sp ∧ (Mk K C f ∧ mg x = some (.ref C)) ∧ PySem.W.keepIn K (.ref f) = true ∧ Binds K fd ps []
section
variable {X : Cx} {o e : Expr} {es : List Expr} {t : TA} {ta : TE} {x m : Str} {p pos apos : Pos} {ps : List Str} {sp : Sp} {k : Nat} {C : Addr}
theorem pc_meth {pl : Sem Bool} (he : PE X o ta) (c : Cls X.K C) (M : Mth X.prog X.w X.K X.mg X.base k C m ps sp) (hr : Room k X.A) (ha : PA X (e :: es) t)
    (hst : starEach (e :: es) X.env = (false, eval e X.env) :: starEach es X.env := by rfl) (hpl : (backTo pos (starEach es X.env)).any (·.1) = false := by rfl)
    (ht : eval (.Call (.Attribute o m apos) (e :: es) [] pos) X.env = (do
      let ov ← eval o X.env
      standAt apos.atName
      let (f, first) ← holding [ov] (getMethod ov m pl)
      callWith pos f first (backTo pos (starEach (e :: es) X.env)) (backToKw pos (keywordEach [] X.env))) := by rfl) :
    PE X (.Call (.Attribute o m apos) (e :: es) [] pos) (tMeth C m sp [] E0 ta t) := by
  obtain ⟨f, fd, F, hm, hk, hb⟩ := M
  exact pe_meth he c hm F hr hb .nil pass0 ha hst hpl ht
theorem pc_meth0 {pl : Sem Bool} (he : PE X o ta) (c : Cls X.K C) (M : Mth X.prog X.w X.K X.mg X.base k C m ps sp) (hr : Room k X.A)
    (ht : eval (.Call (.Attribute o m apos) [] [] pos) X.env = (do
      let ov ← eval o X.env
      standAt apos.atName
      let (f, first) ← holding [ov] (getMethod ov m pl)
      callWith pos f first (backTo pos (starEach [] X.env)) (backToKw pos (keywordEach [] X.env))) := by rfl) :
    PE X (.Call (.Attribute o m apos) [] [] pos) (tMeth C m sp [] E0 ta tNil) := by
  obtain ⟨f, fd, F, hm, hk, hb⟩ := M
  exact pe_meth0 he c hm F hr hb .nil pass0 ht
theorem pc_make0 (M : Mki X.prog X.w X.K X.mg X.base k C x ps sp) (hr : Room (k + 1) X.A) (hg : Gl X x) (hdb : (x == ("__debug__" : Str)) = false := by decide) : PE X (.Call (.Name x p) [] [] pos) (tMake C sp [] E0 tNil) := by
  obtain ⟨f, fd, F, ⟨hm, hx⟩, hk, hb⟩ := M
  exact pe_make0 hm F hr hg hx hb .nil pass0 hdb
theorem pc_make (M : Mki X.prog X.w X.K X.mg X.base k C x ps sp) (hr : Room (k + 1) X.A) (hg : Gl X x) (ha : PA X (e :: es) t) (hdb : (x == ("__debug__" : Str)) = false := by decide)
    (he : starEach (e :: es) X.env = (false, eval e X.env) :: starEach es X.env := by rfl) (hpl : (backTo pos (starEach es X.env)).any (·.1) = false := by rfl) : PE X (.Call (.Name x p) (e :: es) [] pos) (tMake C sp [] E0 t) := by
  obtain ⟨f, fd, F, ⟨hm, hx⟩, hk, hb⟩ := M
  exact pe_make hm F hr hg hx hb .nil pass0 ha hdb he hpl
end
section
variable {σ : L2.St} {H : Hp} {Q : VK} {ta tv : TE} {t : TA} {K : PySem.W.Frag} {C : Addr} {m f : Str} {sp : Sp} {dvs : List V} {E : XK} {D : Ends}
theorem i_Meth (q : ta σ H fun x H1 => ∃ a dx fs, x = .ref a ∧ H1 a = some (.ins C dx fs) ∧ fs.lookup m = none ∧ t σ H1 fun vs H2 => sp (x :: (vs ++ dvs)) H2 Q E) : tMeth C m sp dvs E ta t σ H Q := q
theorem i_Make (q : t σ H fun vs H1 => ∀ x dx, H1 x = none → H1 dx = none → dx ≠ x → sp (.ref x :: (vs ++ dvs)) (upd (upd H1 dx (.own x)) x (.ins C dx [])) (fun v H2 => v = .non ∧ Q (.ref x) H2) E) : tMake C sp dvs E t σ H Q := q
theorem i_Fld (q : ta σ H fun x H1 => ∃ a C dx fs v, x = .ref a ∧ H1 a = some (.ins C dx fs) ∧ Cls K C ∧ NoAttr K C f ∧ fs.lookup f = some v ∧ Q v H1) : tFld K ta f σ H Q := q
theorem i_sFld (q : tv σ H fun y H1 => ta σ H1 fun x H2 => ∃ a C dx fs, x = .ref a ∧ H2 a = some (.ins C dx fs) ∧ Cls K C ∧ NoAttr K C f ∧ fs.length < 1000 ∧ D.nx σ (upd H2 a (.ins C dx (putF f y fs)))) : sFld K ta tv f D σ H := q
end
/-! ### stamps, pairs of numbers in order -/
def ltP2 (a b : Int × Int) : Bool := decide (a.1 < b.1 ∨ (a.1 = b.1 ∧ a.2 < b.2))
theorem ltP2_eq (a b : Int × Int) : PySem.W.dataLt (Dt.tup [.num a.1, .num a.2]).py (Dt.tup [.num b.1, .num b.2]).py = ltP2 a b := PySem.W.dataLt_ii a.1 a.2 b.1 b.2
theorem al2 (a b : Int × Int) : PySem.W.alike (Dt.tup [.num a.1, .num a.2]).py (Dt.tup [.num b.1, .num b.2]).py = true := rfl
theorem i_LtP {K : PySem.W.Frag} {H : Hp} {Q : VK} {x y : V} {a b : Int × Int} (hx : DtAt K H x (.tup [.num a.1, .num a.2])) (hy : DtAt K H y (.tup [.num b.1, .num b.2])) (q : Q (.bl (ltP2 a b)) H) : rLtO K x y H Q :=
  ⟨_, _, ⟨hx, hy, rfl, rfl, rfl, by simp [Dt.py], by simp [Dt.depth, Dt.depthAll]⟩, by rw [ltP2_eq]; exact q⟩
theorem i_GtP {K : PySem.W.Frag} {H : Hp} {Q : VK} {x y : V} {a b : Int × Int} (hx : DtAt K H x (.tup [.num a.1, .num a.2])) (hy : DtAt K H y (.tup [.num b.1, .num b.2])) (q : Q (.bl (ltP2 b a)) H) : rGtO K x y H Q :=
  ⟨_, _, ⟨hx, hy, rfl, rfl, rfl, by simp [Dt.py], by simp [Dt.depth, Dt.depthAll]⟩, by rw [ltP2_eq]; exact q⟩
end GT

/-! ## sorted, max of data -/
namespace GT
open PySem PySem.Spec PyProof.Rows L2 PySem.W
section
variable {X : Cx} {K : PySem.W.Frag} {H : Hp}
theorem Dt.flat_mem : ∀ {ds : List Dt} {d : Dt}, Dt.flatAll ds = true → d ∈ ds → d.flat = true
  | _ :: _, _, f, e => by
    simp only [Dt.flatAll, Bool.and_eq_true] at f
    rcases List.mem_cons.mp e with e | e
    · subst e; exact f.1
    · exact Dt.flat_mem f.2 e
theorem dts_each {pins : List (Addr × Obj)} {σ : L2.St} {s : Shared} (I : Inv X pins σ H s) : ∀ {xs : List V} {us : List Value} {ds : List Dt}, Vals xs us → DtsAt X.K H xs ds → EachIs (fun (u : Value) (d : Dt) => ∃ x, RelV x u ∧ DtAt X.K H x d) us ds
  | _, _, _, .nil, h => by cases h; exact .nil
  | _, _, _, .cons r rs, h => by
    cases h with
    | cons h1 h2 => exact .cons ⟨_, r, h1⟩ (dts_each I rs h2)
theorem each_dts : ∀ {us : List Value} {ds : List Dt}, EachIs (fun (u : Value) (d : Dt) => ∃ x, RelV x u ∧ DtAt K H x d) us ds → ∃ xs, Vals xs us ∧ DtsAt K H xs ds
  | _, _, .nil => ⟨[], .nil, .nil⟩
  | _, _, .cons ⟨x, r, h⟩ t => by
    obtain ⟨xs, h1, h2⟩ := each_dts t
    exact ⟨x :: xs, .cons r h1, .cons h h2⟩
def leD (d e : Dt) : Bool := dataLe false Dt.py d e
def rSortedD (K : PySem.W.Frag) : List V → Hp → VK → Prop := fun vs H Q => ∃ (a : Addr) (xs : List V) (ds : List Dt), vs = [.ref a] ∧ SqL K H a xs ∧ DtsAt K H xs ds ∧ Dt.flatAll ds = true ∧ Dt.depthAll ds ≤ 8 ∧ AllAlike (ds.map Dt.py) ∧ Sortable (ds.map Dt.py) ∧
  ∀ (p : Addr) (ys : List V), H p = none → DtsAt K H ys (ds.mergeSort leD) → Q (.ref p) (upd H p (.lst ys))
theorem cr_sortedD (hu : X.A.units + 64 < cLine) : CallR X (.builtin "sorted") (rSortedD X.K) := by
  intro pins s σ H vs us Q I r h
  obtain ⟨a, xs, ds, rfl, hs, hd, hf, hdp, hal, hsk, q⟩ := h
  obtain rfl := Vals.ref1 r
  obtain ⟨its, rv, hl, hz⟩ := I.list hs
  have e := dts_each I rv hd
  have er : EachIs (fun v d => ∃ as, Reads s.heap v (Dt.py d) as) its ds := (each_mem e).mono fun u d ⟨⟨x, rx, hx⟩, hm⟩ => ⟨[], DtIs.reads d u (Dt.flat_mem hf hm) (DtAt.is I d x u hx rx)⟩
  have ln : xs.length = ds.length := hd.length
  refine sorted_data hl.isList e er hal hsk (by rw [← ln]; exact hz) (fun d hm => ?_) fun out ho hR => ?_
  · have h1 := Dt.depth_mem hm
    have h2 := Dt.py_depth d
    omega
  · obtain ⟨ys, vy, dy⟩ := each_dts hR
    obtain ⟨ep, he'⟩ := sortedAll_at s.heap its out.toArray
    have hlen : ys.length ≤ sizeLine := by
      have h1 := vy.length
      have : ys.length = out.length := h1
      rw [this, ho, ← ln]; exact hz
    exact ⟨.ref _, upd H (s.heap.objs.size + 1) (.lst ys), I.laid (t' := s.toks) (fun _ _ => sortedAll_old) (Nat.le_succ _) ⟨hlen, out, ep, vy, he'⟩, rfl, q _ ys (I.hok.fresh (Nat.le_succ _)) dy⟩
end
end GT
namespace GT
open PySem PySem.Spec PyProof.Rows L2 PySem.W
section
variable {X : Cx}
theorem each_at {α β : Type} {R : α → β → Prop} : ∀ {us : List α} {ds : List β} {i : Nat} {u : α}, EachIs R us ds → us[i]? = some u → ∃ d, ds[i]? = some d ∧ R u d
  | _, _, _, _, .nil, e => by simp at e
  | _, _, 0, _, .cons r _, e => by simp at e; subst e; exact ⟨_, rfl, r⟩
  | _, _, i + 1, _, .cons _ t, e => by
    obtain ⟨d, h1, h2⟩ := each_at (i := i) t (by simpa using e)
    exact ⟨d, by simpa using h1, h2⟩
theorem maxD_mem : ∀ (xs : List PyData) (x : PyData), maxD x xs ∈ x :: xs
  | [], x => by simp [maxD]
  | y :: ys, x => by
    have e : maxD x (y :: ys) = maxD (if dataLt x y then y else x) ys := rfl
    rw [e]
    have h := maxD_mem ys (if dataLt x y then y else x)
    rcases List.mem_cons.mp h with z | z
    · rw [z]; split <;> simp
    · simp [z]
/-- max(xs, default=None): the data of xs are alike; what is greatest, as it stands -/
def rMaxN (K : PySem.W.Frag) : List V → List V → Hp → VK → Prop := fun vs zs H Q => ∃ (a : Addr) (xs : List V) (ds : List Dt), vs = [.ref a] ∧ zs = [.non] ∧ SqL K H a xs ∧ DtsAt K H xs ds ∧ Dt.flatAll ds = true ∧ Dt.depthAll ds ≤ 8 ∧ AllAlike (ds.map Dt.py) ∧ (∀ d ∈ ds, d.py ≠ .none) ∧
  (ds = [] → Q .non H) ∧ ∀ (d : Dt) (es : List Dt) (x : Dt) (v : V), ds = d :: es → x ∈ ds → x.py = maxD d.py (es.map Dt.py) → DtAt K H v x → Q v H
theorem cr_maxN (hc : X.calm = true) (hu : X.A.units + 64 < cLine) : CallRK X (.builtin "max") [Str.ofString "default"] (rMaxN X.K) := by
  intro pins s σ H vs zs us ws Q I r rz h
  obtain ⟨a, xs, ds, rfl, rfl, hs, hd, hf, hdp, hal, hnn, q0, q1⟩ := h
  obtain rfl := Vals.ref1 r
  obtain ⟨w1, rfl, e1⟩ := vals1 rz
  obtain rfl : w1 = Value.none := e1
  obtain ⟨its, rv, hl, hz⟩ := I.list hs
  have hr : ReadsAll s.heap its (Dt.pys ds) [] := DtAll.reads ds its hf (DtsAt.is I ds xs its hd rv)
  have hr' : ReadsAll s.heap (its.toArray).toList (ds.map Dt.py) [] := by rw [← Dt.pys_map]; simpa using hr
  have ha : AlikeAll (ds.map Dt.py) := ⟨fun x hx y hy => hal x hx y hy, fun x hx => by
    obtain ⟨d, hd, rfl⟩ := List.mem_map.mp hx
    exact hnn d hd⟩
  have hdep : PyData.depthAll (ds.map Dt.py) ≤ 8 := by rw [← Dt.pys_map, Dt.pys_depth]; exact hdp
  refine max_list_default (I.ok.hd hc) hl.isList hr' ha (by omega) (fun hnil h' tk k => ?_) fun y ys i v h' tk bs hx hv hR k => ?_
  · exact ⟨.non, H, I.kept k, rfl, q0 (by simpa using hnil)⟩
  · have hv' : its[i]? = some v := by simpa using hv
    obtain ⟨d, hdi, x, rx, hx2⟩ := each_at (dts_each I rv hd) hv'
    have hdm := List.mem_of_getElem? hdi
    have hrd := PyProof.Rows.Reads.keeps k (DtIs.reads d v (Dt.flat_mem hf hdm) (DtAt.is I d x v hx2 rx))
    have hmm : maxD y ys ∈ ds.map Dt.py := by rw [hx]; exact maxD_mem ys y
    have heq : d.py = maxD y ys := alike_unique _ _ v _ _ (hal _ (List.mem_map.mpr ⟨d, hdm, rfl⟩) _ hmm) hrd hR
    cases ds with
    | nil => cases hx
    | cons d0 es =>
      rw [List.map_cons] at hx
      injection hx with h1 h2
      refine ⟨x, H, I.kept k, rx, q1 d0 es d x rfl hdm (by rw [heq, ← h1, ← h2]) hx2⟩
end
end GT

/-! ## a lambda of one parameter, a tuple: (x[0], x[1], x[2]) -/
namespace GT
open PySem PySem.Spec PyProof.Rows L2
section
variable {prog : Program} {w : World} {A : Around} {E : Value → Shared → Prop} {s : Shared} {env : Env}
theorem raw_ix {x : Str} {p p2 pos : Pos} {kd : Nat} {k : Nat} {t : Addr} {items : Array Value} {v : Value} {m : Str → Option Value} {Q : Value → Shared → Prop} (hk : env.scope.kind = .function) (hl : env.kindOf x = some .local) (hn : s.heap.Ns env.locals m) (hm : m x = some (.ref t)) (ht : IsTup s.heap t items) (hv : items[k]? = some v) (h9 : k < 9)
    (q : Q v { s with toks := s.toks + 1 }) (hd : (x == ("__debug__" : Str)) = false) : wpAny (model prog w) A (eval (.Subscript (.Name x p) (.Constant (.int (k : Int)) kd p2) pos) env) Q E s := by
  have hlt : k < items.size := (Array.getElem?_eq_some_iff.mp hv).1
  refine subD_of (T := "tuple") slot_tuple_getitem.lookup (fun _ _ => rfl) (wpAny_Name (wpAny_loadName_local hk hl hn hm (wpAny_Constant_int ⟨ht.typeIs, ?_⟩)) hd)
  refine getItem_tuple (j := k) ht (by omega) (by omega) ?_ hv q
  unfold seqIndex?
  rw [if_neg (show ¬ (k : Int) < 0 by omega)]
  have h1 : (0 : Int) ≤ (k : Int) := by omega
  have h2 : (k : Int) < (items.size : Int) := by omega
  simp only [h1, h2, decide_true, Bool.and_true, if_true]
  simp
theorem raw_key3 {x : Str} {p0 p1 p2 q0 q1 q2 r0 r1 r2 pos : Pos} {d0 d1 d2 kd : Nat} {t : Addr} {items : Array Value} {v0 v1 v2 : Value} {m : Str → Option Value} {Q : Value → Shared → Prop} (hk : env.scope.kind = .function) (hl : env.kindOf x = some .local) (hn : s.heap.Ns env.locals m) (hm : m x = some (.ref t)) (ht : IsTup s.heap t items)
    (h0 : items[0]? = some v0) (h1 : items[1]? = some v1) (h2 : items[2]? = some v2) (hd : (x == ("__debug__" : Str)) = false)
    (q : Q (.ref s.heap.objs.size) { s with heap := s.heap.push { cls := .type "tuple", data := .seq #[v0, v1, v2] }, toks := s.toks + 3 }) :
    wpAny (model prog w) A (eval (.Tuple [.Subscript (.Name x p0) (.Constant (.int (0 : Int)) d0 q0) r0, .Subscript (.Name x p1) (.Constant (.int (1 : Int)) d1 q1) r1, .Subscript (.Name x p2) (.Constant (.int (2 : Int)) d2 q2) r2] kd pos) env) Q E s := by
  refine wpAny_Tuple ?_
  refine spliced_more (raw_ix (k := 0) hk hl hn hm ht h0 (by decide) ?_ hd)
  refine spliced_more (raw_ix (k := 1) hk hl hn hm ht h1 (by decide) ?_ hd)
  refine spliced_more (raw_ix (k := 2) hk hl hn hm ht h2 (by decide) ?_ hd)
  exact spliced_none ⟨by show 3 ≤ sizeLine; decide, q⟩
/-- the call of such a lambda -/
theorem lam_key3 {f c' t : Addr} {qual x : Str} {params : Arguments} {scope : Scope} {pm ctv : Value} {p0 p1 p2 q0 q1 q2 r0 r1 r2 pos : Pos} {d0 d1 d2 kd : Nat} {items : Array Value} {v0 v1 v2 : Value}
    (of : s.heap.get? f = some (PySem.W.kla_obj "<lambda>" qual params (.Tuple [.Subscript (.Name x p0) (.Constant (.int (0 : Int)) d0 q0) r0, .Subscript (.Name x p1) (.Constant (.int (1 : Int)) d1 q1) r1, .Subscript (.Name x p2) (.Constant (.int (2 : Int)) d2 q2) r2] kd pos) scope [] pm c' ctv))
    (rc : s.heap.CodeRec (.ref c') qual) (nl : s.heap.NoLimit) (room : A.depth < recursionLimit)
    (hbind : bindArgs (PySem.W.kla_fn "<lambda>" qual params (.Tuple [.Subscript (.Name x p0) (.Constant (.int (0 : Int)) d0 q0) r0, .Subscript (.Name x p1) (.Constant (.int (1 : Int)) d1 q1) r1, .Subscript (.Name x p2) (.Constant (.int (2 : Int)) d2 q2) r2] kd pos) scope [] pm (.ref c') ctv) ⟨[.ref t], []⟩ = pure [(x, .ref t)])
    (hk : scope.kind = .function) (co : scope.isCoroutine = false) (gen : scope.isGenerator = false) (hc : ∀ y ∈ scope.names, y.2 ≠ .cell) (hx : scope.names.lookup x = some .local) (hd : (x == ("__debug__" : Str)) = false)
    (ht : IsTup s.heap t items) (h0 : items[0]? = some v0) (h1 : items[1]? = some v1) (h2 : items[2]? = some v2) :
    wpAny (model prog w) A (call (.ref f) [.ref t]) (fun v s' => ∃ h' tk b, s' = { s with heap := h', toks := tk } ∧ (∀ b o, s.heap.get? b = some o → h'.get? b = some o) ∧ v = .ref b ∧ h'.get? b = some { cls := .type "tuple", data := .seq #[v0, v1, v2] }) (fun _ _ => False) s := by
  refine wpAny_call (codeAny_mono (R := fun r s' => ∃ v, r = .ok (.ret v) ∧ ∃ h' tk b, s' = { s with heap := h', toks := tk } ∧ (∀ b o, s.heap.get? b = some o → h'.get? b = some o) ∧ v = .ref b ∧ h'.get? b = some { cls := .type "tuple", data := .seq #[v0, v1, v2] }) ?_ fun r s' h => ?_)
  · refine PySem.W.kla_callFunE room of rfl co gen rfl rc ?_
    rw [hbind]
    refine wpAny_pure (wpAny_newFunctionEnv hc (fun y hy => ?_) (fun h₁ hns hsb => ⟨nl.fresh _ hsb, ?_⟩) hk)
    · rw [List.mem_singleton.mp hy]; exact hx
    · have kp : ∀ b o, s.heap.get? b = some o → h₁.get? b = some o := fun b o e => hsb.extBut b o (Nat.ne_of_lt (Heap.lt_size e)) (Heap.get?_push_of_some _ e)
      have ht1 : IsTup h₁ t items := let ⟨o, e, r⟩ := ht; ⟨o, kp _ _ e, r⟩
      refine PySem.W.kla_codeExpr (raw_key3 (items := items) hk ?_ hns ?_ ht1 h0 h1 h2 hd ?_)
      · first | exact hx | (show scope.names.lookup x = some .local; exact hx) | simpa [Env.kindOf] using hx
      · first | (simp; done) | (show List.lookup x [(x, Value.ref t)] = _; simp [List.lookup])
      · exact ⟨_, rfl, _, _, _, rfl, fun b o e => Heap.get?_push_of_some _ (kp b o e), rfl, Heap.get?_push_size _ rfl⟩
  · obtain ⟨v, rfl, h⟩ := h
    exact h
end
end GT
/-! ## sorted(d, key=f): the keys of a dict -/
namespace GT
open PySem PySem.Spec PySem.Calls PyProof.Rows L2 PySem.W
section
variable {prog : Program} {w : World} {A : Around} {E : Value → Shared → Prop} {s : Shared} {β : Type} {bs : List β} {R : Value → β → Prop}
theorem each_of_items {P : Nat → Value → Prop} {acc : Array Value} (it : ItemsOf P acc bs.length) (h : ∀ (i : Nat) (v : Value) (b : β), P i v → bs[i]? = some b → R v b) : EachIs R acc.toList bs := by
  obtain ⟨hn, hp⟩ := it
  refine EachIs.of_zip (by rw [Array.length_toList]; exact hn) fun p hm => ?_
  obtain ⟨i, hi⟩ := List.getElem?_of_mem hm
  rw [List.getElem?_zip_eq_some] at hi
  refine h i p.1 p.2 (hp i p.1 ?_) hi.2
  rw [← Array.getElem?_toList]; exact hi.1
theorem raw_sorted_dict {d q : Addr} {es : Array DictEntry} {ep : Nat} {Q : Value → Shared → Prop} (k : β → PyData) (lo : (d == sysModules) = false) (hm : s.heap.DictRaw d es ep) (hh : A.handled = none) (hn : es.size ≤ sizeLine) (hes : es.size = bs.length)
    (hit : ∀ (i : Nat) (b : β) (hi : i < es.size), bs[i]? = some b → R es[i].key b) (hal : AllAlike (bs.map k)) (hk : Sortable (bs.map k)) (hu : ∀ x, x ∈ bs → A.units + 2 + (k x).depth < cLine)
    (turn : ∀ (v : Value) (x : β), R v x → x ∈ bs → ∀ (h : Heap) (tk : Nat), (∀ b o, s.heap.get? b = some o → h.get? b = some o) →
      wpAny (model prog w) A.in1.in1 (call (.ref q) [v]) (KeyPure (k x) { s with heap := h, toks := tk }) (fun _ _ => False) { s with heap := h, toks := tk })
    (h : ∀ (out : List Value) (c : Nat) (h1 h' : Heap) (tk : Nat) (a : Addr), (∀ b o, s.heap.get? b = some o → h1.get? b = some o) → (∀ b o, h1.get? b = some o → h'.get? b = some o) → h1.objs.size ≤ a → h'.get? a = some (seqObj "list" (List.toArray out) c) → out.length = bs.length → EachIs R out (bs.mergeSort (dataLe false k)) →
      Q (.ref a) { s with heap := h', toks := tk }) :
    wpAny (model prog w) A (call (.builtin "sorted") [.ref d] [(Str.ofString "key", .ref q)]) Q E s := by
  refine call_function_entry_kw kind_sorted plain_sorted entry_sorted (ksk_s1 _ _) ?_
  unfold Builtin.«sorted»
  refine wpAny_bind (m := checkCount "sorted" 1 1 _) (wpAny_pure ?_)
  refine wpAny_bind (kdu_collect (A := A.in1) (KdlSrc.rawDict lo) hh hm hn fun h1 tk1 acc hk1 hacc => ?_)
  have he : EachIs R acc.toList bs := each_of_items (P := fun i v => ∃ hi : i < es.size, v = es[i].key) ⟨hacc.1.trans hes, hacc.2⟩ fun i v b ⟨hi, e⟩ hb => by rw [e]; exact hit i b hi hb
  have hl : acc.toList.length = bs.length := he.length
  have hz : acc.toList.length ≤ sizeLine := by rw [hl, ← hes]; exact hn
  refine wpAny_bind (wpAny_newList ?_ hz)
  have ho : (h1.push { cls := .type "list", data := .seq acc.toList.toArray }).get? h1.objs.size = some (seqObj "list" acc.toList.toArray 0) := Heap.get?_push_size _ rfl
  refine wpAny_bind (wpAny_holding (wpAny_call_entry_kw slot_list_sort ⟨_, ho, rfl⟩ entry_list_sort ?body (ksk_l1 _ _)))
  case body =>
    rw [ksk_t1]
    refine wpAny_mono (keyH_tree (A := A.in1.in1) (E := fun _ _ => False) (P := fun f s' => ∃ out c h' tk, f = .done (.ret .none) ∧ s' = { s with heap := h', toks := tk } ∧ (∀ b o, h1.get? b = some o → h'.get? b = some o) ∧ h'.get? h1.objs.size = some (seqObj "list" (List.toArray out) c) ∧ out.length = bs.length ∧ EachIs R out (bs.mergeSort (dataLe false k)))
      (kz := bs.map k) (s := { s with heap := h1.push { cls := .type "list", data := .seq acc.toList.toArray }, toks := tk1 }) ho (by rw [List.length_map]; exact hl.symm) hz hal hk (bound_map (A := A.in1.in1) hu)
      (keyH_turns (s := { s with heap := h1.push { cls := .type "list", data := .seq acc.toList.toArray }, toks := tk1 }) he fun v x hR hx h tk kp => turn v x hR hx h tk fun b o e => kp b o (Nat.ne_of_lt (Heap.lt_size (hk1 b o e))) (Heap.get?_push_of_some _ (hk1 b o e)))
      fun h' tk out c kp hD ko => ⟨out, c, h', tk, rfl, rfl, fun b o e => kp b o (Nat.ne_of_lt (Heap.lt_size e)) (Heap.get?_push_of_some _ e), hD, (ko.length (by rw [List.length_map]; exact hl.symm)).trans hl, keyedOut_each k ko he⟩) (fun f s' hf => ?_) fun _ _ e => e.elim
    obtain ⟨out, c, h', tk, rfl, rfl, hkp, hD, ho2, hR2⟩ := hf
    exact ⟨_, rfl, wpAny_pure ⟨_, rfl, h out c h1 h' tk _ hk1 hkp (Nat.le_refl _) hD ho2 hR2⟩⟩
end
end GT

/-! ## rules with K told (for the blocks of comprehensions) -/
namespace GT
open PySem PySem.Spec PyProof.Rows L2
section
variable {X : Cx} {K : PySem.W.Frag}
theorem ix_tupK (e : X.K = K) : IxR X (rIxT K) := by subst e; exact ix_tup
theorem ix_listK (e : X.K = K) : IxR X (rIxL K) := by subst e; exact ix_list
theorem op_eqTK (e : X.K = K) (hu : X.A.units + 64 < cLine) : OpR X (compareOp .Eq) (rEqT K) := by subst e; exact op_eqT hu
theorem op_neTK (e : X.K = K) (hu : X.A.units + 64 < cLine) : OpR X (compareOp .NotEq) (rNeT K) := by subst e; exact op_neT hu
theorem op_inTK (e : X.K = K) (hu : X.A.units + 64 < cLine) : OpR X (compareOp .In) (rInT K) := by subst e; exact op_inT hu
theorem op_notInTK (e : X.K = K) (hu : X.A.units + 64 < cLine) : OpR X (compareOp .NotIn) (rNotInT K) := by subst e; exact op_notInT hu
theorem op_ltOK (e : X.K = K) (hu : X.A.units + 64 < cLine) : OpR X (compareOp .Lt) (rLtO K) := by subst e; exact op_ltO hu
theorem op_gtOK (e : X.K = K) (hu : X.A.units + 64 < cLine) : OpR X (compareOp .Gt) (rGtO K) := by subst e; exact op_gtO hu
theorem pe_fldK {e : Expr} {ta : TE} {f : Str} {pos : Pos} (eK : X.K = K) (he : PE X e ta) (hb : attributeBase e f X.env (eval e X.env) = eval e X.env) : PE X (.Attribute e f pos) (tFld K ta f) := by subst eK; exact pe_fld he hb
end
end GT

/-! ## a lambda made: what its making changes, told exactly -/
namespace GT
open PySem PySem.Spec PyProof.Rows L2 LamX
section
variable {X : Cx} {pins : List (Addr × Obj)} {σ : L2.St} {H : Hp} {s : Shared}
theorem codeO_tbl {c : Addr} {q : Str} : ∀ ps, CodeO c q ≠ .tbl ps := fun ps => codeO_ne ps
/-- the table at P: its code objects, of the name q, are among L -/
structure Tab (H : Hp) (P : Addr) (q : Str) (L : List Addr) : Prop where
  ex : ∃ ps : Array Value, H P = some (.tbl ps) ∧ TriplesOk ps.toList ∧ ∀ (pos : Pos) (cv : Value), codeAmong pos ps.toList = some cv → ∃ c ∈ L, cv = .ref c
  codes : ∀ c ∈ L, H c = some (CodeO c q)
theorem Tab.nil {H : Hp} {P : Addr} {q : Str} (h : H P = some (.tbl #[])) : Tab H P q [] := ⟨⟨#[], h, True.intro, fun pos cv hc => by
  have z : codeAmong pos [] = some cv := hc
  simp [codeAmong] at z⟩, fun c hc => nomatch hc⟩
theorem Tab.stp {H H1 : Hp} {P : Addr} {q : Str} {L M : List Addr} (t : Tab H P q L) (s : Stp M H H1) (nP : P ∉ M) (nL : ∀ c ∈ L, c ∉ M) : Tab H1 P q L :=
  ⟨let ⟨ps, h, r⟩ := t.ex; ⟨ps, s.keep _ _ h nP, r⟩, fun c hc => s.keep _ _ (t.codes c hc) (nL c hc)⟩
theorem Tab.grow {H H1 : Hp} {P : Addr} {q : Str} {L : List Addr} (t : Tab H P q L) (s : Stp [] H H1) : Tab H1 P q L := t.stp s (by simp) (fun _ _ => by simp)
theorem Tab.there {H : Hp} {P : Addr} {q : Str} {L : List Addr} (t : Tab H P q L) : ∃ ps, H P = some (.tbl ps) := let ⟨ps, h, _⟩ := t.ex; ⟨ps, h⟩
/-- the table with one code object more -/
theorem tab_more {P c : Addr} {q : Str} {ps : Array Value} {pos : Pos} {L : List Addr} (hP : H P = some (.tbl ps)) (ht : TriplesOk ps.toList) (ha : ∀ p' cv, codeAmong p' ps.toList = some cv → ∃ c ∈ L, cv = .ref c) (hL : ∀ c ∈ L, H c = some (CodeO c q)) (nC : H c = none) :
    Tab (upd (upd H P (.tbl (ps ++ #[rawInt pos.line, rawInt pos.col, .ref c]))) c (CodeO c q)) P q (c :: L) ∧ Stp [P] H (upd (upd H P (.tbl (ps ++ #[rawInt pos.line, rawInt pos.col, .ref c]))) c (CodeO c q)) := by
  have nPc : P ≠ c := ne_of_none hP nC
  have at_ : ∀ b, b ≠ P → b ≠ c → upd (upd H P (.tbl (ps ++ #[rawInt pos.line, rawInt pos.col, .ref c]))) c (CodeO c q) b = H b := fun b h1 h2 => by rw [upd_ne h2, upd_ne h1]
  refine ⟨⟨⟨_, by rw [upd_ne nPc, upd_same], ?_, fun p' cv hcv => ?_⟩, fun c0 h0 => ?_⟩, ⟨fun b o e n => ?_, fun b xs e => ?_, fun b qs e => ?_⟩⟩
  · rw [Array.toList_append]; exact PySem.TriplesOk_snoc _ _ _ _ ht
  · rw [Array.toList_append] at hcv
    rcases among_app _ ht hcv with z | z
    · obtain ⟨c0, e1, e2⟩ := ha p' cv z
      exact ⟨c0, List.mem_cons_of_mem _ e1, e2⟩
    · exact ⟨c, List.mem_cons_self, z⟩
  · rcases List.mem_cons.mp h0 with z | z
    · rw [z]; exact upd_same
    · have e2 := hL c0 z
      have h1 : c0 ≠ P := fun z => by rw [z, hP] at e2; exact codeO_tbl _ (Option.some.inj e2).symm
      rw [at_ c0 h1 (ne_of_none e2 nC)]; exact e2
  · rw [at_ b (fun z => n (by rw [z]; simp)) (ne_of_none e nC)]; exact e
  · have h1 : b ≠ P := fun z => by rw [z, hP] at e; cases e
    rw [at_ b h1 (ne_of_none e nC)]; exact e
  · by_cases h1 : b = P
    · exact ⟨ps, by rw [h1]; exact hP⟩
    · by_cases h2 : b = c
      · rw [h2, upd_same] at e; exact absurd (Option.some.inj e) (codeO_tbl _)
      · rw [at_ b h1 h2] at e; exact ⟨qs, e⟩
/-- the function object at f stands as it was made -/
def LamO (f : Addr) (ob : Obj) : HO := .ext fun h => h.get? f = some ob
theorem lamO_ok {P : Program} {w : World} {H : Hp} {h : Heap} {f : Addr} {ob : Obj} (e : h.get? f = some ob) : ObjOk P w H h f (LamO f ob) := ⟨e, ⟨ob, e⟩, fun _ _ y k => k _ y⟩
theorem lamO_tbl {f : Addr} {ob : Obj} : ∀ ps, LamO f ob ≠ .tbl ps := fun _ z => nomatch z
/-- the evaluation of a lambda that captures nothing -/
def tLam (P : Addr) (q : Str) (params : Arguments) (body : Expr) (scope : Scope) (clo : List (Str × Addr)) : TE := fun _ H Q => ∃ L, Tab H P q L ∧ ∀ (f c' : Addr) (pm ctv : Value) (H1 : Hp) (L1 : List Addr), Tab H1 P q L1 → (∀ c ∈ L1, c ∈ L ∨ H c = none) → Stp [P] H H1 → H1 c' = some (CodeO c' q) → H f = none →
  H1 f = some (LamO f (PySem.W.kla_obj "<lambda>" q params body scope clo pm c' ctv)) → Q (.ref f) H1
theorem pe_lam {c P : Addr} {params : Arguments} {body : Expr} {scope : Scope} {pos : Pos} (TB : TabB X.base X.mg c P) (hcode : X.env.code = .ref c) (hdef : defaultsOf params X.env = ([], [])) (hfree : ∀ y ∈ scope.names, y.2 ≠ .free) :
    PE X (.Lambda params body scope pos) (tLam P (X.env.qual ++ "<lambda>") params body scope (cloFrom X.env.cells scope.names [])) := by
  refine ⟨fun pins s σ H Q I hh => ?_⟩
  obtain ⟨L, hT, h⟩ := hh
  have hT0 := hT
  obtain ⟨⟨ps, hP, ht, ha⟩, hL⟩ := hT
  have hP' : s.heap.get? P = some { cls := .none, data := .fields ps } := I.hok P _ hP
  have clo := closure_ok (env := X.env) (scope := scope) fun y hy e => absurd e (hfree y hy)
  have bP : s.heap.BuiltinsAt X.mg P := TB.bm.keeps I.bk
  refine PySem.W.kla_eval hdef ?_
  cases hc : codeAmong pos ps.toList with
  | some cv =>
    obtain ⟨c', hcL, rfl⟩ := ha pos cv hc
    have hco := hL c' hcL
    refine PySem.W.kla_makeFunctionHit (mg := X.mg) (c := c) (P := P) (ps := ps) clo I.ok.glob (I.mod.glob.keeps I.bk) hcode (TB.code.keeps I.bk) hP' ht hc bP fun ctv h' tk hx hsz => ?_
    have nf : H h'.objs.size = none := I.hok.fresh hsz
    have st : Stp [] H (upd H h'.objs.size (LamO h'.objs.size (PySem.W.kla_obj "<lambda>" (X.env.qual ++ "<lambda>") params body scope (cloFrom X.env.cells scope.names []) ((X.mg "__name__").getD .none) c' ctv))) := .new nf lamO_tbl
    exact ⟨.ref _, _, I.laid (t' := tk) (fun b o e => Heap.get?_push_of_some _ (hx b o e)) hsz (lamO_ok (Heap.get?_push_size _ rfl)), rfl, h _ c' _ ctv _ L (hT0.grow st) (fun c hc => .inl hc) (st.mono (by simp)) (st.keep _ _ hco (by simp)) nf upd_same⟩
  | none =>
    refine PySem.W.kla_makeFunction (mg := X.mg) (c := c) (P := P) (ps := ps) clo I.ok.glob (I.mod.glob.keeps I.bk) hcode (TB.code.keeps I.bk) hP' ht hc TB.gP bP fun c' ctv h' tk hx hge hlt hrec htb => ?_
    obtain ⟨c2, oc, vs, t, e2, hoc, hd, hv⟩ := hrec
    cases e2
    have nC : H c' = none := I.hok.fresh hge
    obtain ⟨t1, st1⟩ := tab_more (pos := pos) hP ht ha hL nC
    have I1 := inv_table (t' := tk) (more := #[rawInt pos.line, rawInt pos.col, .ref c']) (q := X.env.qual ++ "<lambda>") (h' := h') I hP hx htb hge ⟨oc, vs, t, hoc, hd, hv⟩
    have nf : H h'.objs.size = none := I.hok.fresh (Nat.le_trans hge (Nat.le_of_lt hlt))
    have nf1 := I1.hok.fresh (Nat.le_refl _)
    have st2 : Stp [] _ (upd _ h'.objs.size (LamO h'.objs.size (PySem.W.kla_obj "<lambda>" (X.env.qual ++ "<lambda>") params body scope (cloFrom X.env.cells scope.names []) ((X.mg "__name__").getD .none) c' ctv))) := Stp.new nf1 lamO_tbl
    have co1 := t1.codes c' List.mem_cons_self
    exact ⟨.ref _, _, I1.laid (t' := tk) (a := h'.objs.size) (o := LamO h'.objs.size (PySem.W.kla_obj "<lambda>" (X.env.qual ++ "<lambda>") params body scope (cloFrom X.env.cells scope.names []) ((X.mg "__name__").getD .none) c' ctv)) (fun b o e => Heap.get?_push_of_some _ e) (Nat.le_refl _) (lamO_ok (Heap.get?_push_size _ rfl)), rfl,
      h _ c' _ ctv _ (c' :: L) (t1.grow st2) (fun c hc => (List.mem_cons.mp hc).elim (fun z => .inr (by rw [z]; exact nC)) .inl) (st1.trans (st2.mono (by simp))) (st2.keep _ _ co1 (by simp)) nf upd_same⟩
end
end GT

/-! ## dict comprehensions whose keys are tuples -/
namespace GT
open PySem PySem.Spec PyProof.Rows L2
section
variable {X : Cx} {pins : List (Addr × Obj)} {σ : L2.St} {H : Hp} {s : Shared}
/-- one entry stored by a comprehension -/
theorem nd_store {E : Value → Shared → Prop} {Q : Unit → Shared → Prop} {D a : Addr} {k : NestedKey} {kvs : List NKV} {v : V} {u ku : Value} (hu : X.A.units + 9 < cLine) (I : Inv X pins σ H s) (g : ND X.prog X.w X.K H D kvs) (hk : KyAt X.K H (.ref a) k) (hl : kvs.length < sizeLine)
    (rk : RelV (.ref a) ku) (rv : RelV v u) (h : ∀ s' H', Inv X pins σ H' s' → ND X.prog X.w X.K H' D (putK kvs k v) → Stp [D] H H' → Q () s') : wpAny (model X.prog X.w) X.A (dictSet D ku u) Q E s := by
  obtain ⟨xs, e, ks, rfl⟩ := g
  obtain rfl : ku = Value.ref a := rk
  obtain ⟨z, hd, ys, rel, dd⟩ := nd_raw I (.inl e) ks
  rw [plainX_len] at hl
  have l1 : ys.length ≤ sizeLine := by rw [← Paired.length rel]; exact z
  have l2 : (putX xs k a v).length ≤ sizeLine := by have := putX_len xs k a v; omega
  have st : Stp [D] H (upd H D (ndO X.prog X.w D (putX xs k a v))) := .wr (by simp) e fun _ z => nomatch z
  refine wpAny_dictSet_heap (hsz := l1) (show X.A.units + 8 < cLine by omega) (hk.is I) dd fun h' dd' hs => h _ (upd H D (ndO X.prog X.w D (putX xs k a v))) ?_ ⟨_, upd_same, (ks.put hk).stp st, plainX_put xs k a v⟩ st
  obtain ⟨q, es, ep, hq, h2, h3, h4, _, h5⟩ := dd'
  exact d_write I (by rw [e]; exact True.intro) hs ⟨q, hq⟩ (ndO_ok ⟨l2, hd, _, rel.put k rv, q, es, ep, hq, h2, h3, h4, h5⟩)
/-- {k: v for target in iter if ..}: D the new dict -/
def tDn (P : Program) (w : World) (K : PySem.W.Frag) (wi : TI) (g : TG) (tt : TT) (tk tv : TE) (vs : List Nat) : TE := fun σ H Q => wi σ H fun J H1 => ∀ D H2, H1 D = none → ND P w K H2 D [] → Stp [] H1 H2 → ∃ W : Nat → Nat → Hp → Prop, (∃ m, W 0 m H2) ∧ ∀ i m H, W i m H →
  (J.stop i H ∧ Q (.ref D) H) ∨ (J.go i H ∧ ∃ Nx : Hp → Prop, (∀ H', Nx H' → ∃ m', m' < m ∧ W (i + 1) m' H') ∧ ∀ x H', J.yld i H x H' → g x (wipe σ vs) H' fun σ2 H2 => wipe σ2 vs = wipe σ vs ∧ tt σ2 H2 fun b H3 =>
    if b = true then tk σ2 H3 fun y H4 => tv σ2 H4 fun z H5 => ∃ a kvs k, y = .ref a ∧ ND P w K H5 D kvs ∧ KyAt K H5 (.ref a) k ∧ kvs.length < sizeLine ∧ ∀ H6, ND P w K H6 D (putK kvs k z) → Stp [D] H5 H6 → Nx H6 else Nx H3)
/-- what the block is made of, whatever frame it runs in -/
structure DcB (X : Cx) (scope : Scope) (tg : Expr) (ifs : List Expr) (kx vx : Expr) (g : TG) (tt : TT) (tk tv : TE) : Prop where
  tgt : ∀ (s : Shared) (H : Hp) (C : Addr) (cl : List (Str × Addr)) (fp : List Addr), PG (X.blk s H scope (compEnvC scope cl C X.env) fp) tg g
  tst : ∀ (s : Shared) (H : Hp) (C : Addr) (cl : List (Str × Addr)) (fp : List Addr), PTs (X.blk s H scope (compEnvC scope cl C X.env) fp) ifs tt
  key : ∀ (s : Shared) (H : Hp) (C : Addr) (cl : List (Str × Addr)) (fp : List Addr), PE (X.blk s H scope (compEnvC scope cl C X.env) fp) kx tk
  val : ∀ (s : Shared) (H : Hp) (C : Addr) (cl : List (Str × Addr)) (fp : List Addr), PE (X.blk s H scope (compEnvC scope cl C X.env) fp) vx tv
theorem dn_core {kx vx tg iter : Expr} {ifs : List Expr} {scope : Scope} {own : List (Str × Nat)} {pos pos' : Pos} {wi : TI} {g : TG} {tt : TT} {tk tv : TE} {Q : VK} {use : Option (Value → Sem Unit)} {Qf : Value → Shared → Prop} (hu : X.A.units + 9 < cLine) (hc : X.calm = true) (hN : X.N.Nodup) (I : Inv X pins σ H s) (hi : PI X tg iter wi)
    (ok : BlkOk X.N X.env.scope scope own) (B : DcB X scope tg ifs kx vx g tt tk tv) (fold : ∀ x, foldedSetIterable iter X.env x = pure x) (hq : tDn X.prog X.w X.K wi g tt tk tv (own.map (·.2)) σ H Q)
    (back : ∀ (D C : Addr) (s' : Shared) (m : Str → Option Value) (H' : Hp), Inv X pins σ H' s' → Q (.ref D) H' → s'.heap.Ns C m → FpOk X pins H' C → compPost (model X.prog X.w) X.A X.xe use Qf (.ref D) C (.ok .next) s') :
    wpAny (model X.prog X.w) X.A (comprehension (.DictComp kx vx [⟨tg, iter, ifs, 0⟩] scope pos) scope X.env pos' newDict false (eval iter X.env) use) Qf X.xe s := by
  have captured : ∀ y ∈ scope.names, y.2 = .free → ∃ c, X.env.cells.lookup y.1 = some c := fun y hy e =>
    (ok.free y hy e).elim (fun z => I.ok.has _ (.inl z)) fun z => I.ok.has _ (.inr z)
  refine wpAny_comprehension_free (use := use) rfl fold (closure_ok captured) ok.kind (fun y hy e => by rw [ok.uniq y hy, e]) (thn (hi.run pins s σ H _ I hq) fun _ s1 w1 => thn w1 fun _ s2 w2 => ?_)
  obtain ⟨it, fp, tn, J, H2, rfl, I2, T, t2, f2, body⟩ := w2
  refine wpAny_newObj_type (newEnv_comp ?_)
  -- the new dict at D
  generalize hD : s2.heap.objs.size = D
  have freeD : H2 D = none := I2.hok.fresh (Nat.le_of_eq hD)
  have got : (s2.heap.push { cls := .type "dict", data := .dict #[] }).get? D = some { cls := .type "dict", data := .dict #[] } := by
    rw [← hD]
    exact Heap.get?_push_size _ rfl
  generalize hs3 : ({ s2 with heap := s2.heap.push { cls := .type "dict", data := .dict #[] } } : Shared) = s3
  have hp3 : s3.heap = s2.heap.push { cls := .type "dict", data := .dict #[] } := by rw [← hs3]
  obtain ⟨H3, hH3⟩ : ∃ H3 : Hp, upd H2 D (ndO X.prog X.w D []) = H3 := ⟨_, rfl⟩
  have at3 : H3 D = some (ndO X.prog X.w D []) := by rw [← hH3]; exact upd_same
  have stp3 : Stp [] H2 H3 := by rw [← hH3]; exact .new freeD
  have I3 : Inv X pins σ H3 s3 := by
    rw [← hs3, ← hH3]
    refine I2.laid (a := D) (o := ndO X.prog X.w D []) (t' := s2.toks) (fun b o e => Heap.get?_push_of_some _ e) (Nat.le_of_eq hD) (ndO_ok ⟨Nat.zero_le _, beq_eq_false_iff_ne.mpr (Ne.symm (Nat.ne_of_lt (by rw [← hD]; exact I2.big))), [], .nil, _, #[], 0, got, ⟨rfl, rfl, rfl⟩, rfl, rfl, List.nodup_nil⟩)
  obtain ⟨W, ⟨m0, w0⟩, turn⟩ := body D H3 freeD ⟨[], at3, fun _ z => (nomatch z), rfl⟩ stp3
  have below : ∀ b ∈ fp, b < s2.heap.objs.size := fun b hb => by
    obtain ⟨o, e, _⟩ := T.obj _ _ t2 b hb
    exact Heap.lt_size e
  have f3 : ∀ b ∈ fp, FpOk X pins H3 b ∧ b < s3.heap.objs.size := fun b hb => by
    have lt := below b hb
    refine ⟨⟨?_, (f2 b hb).2⟩, by rw [hp3, Heap.size_push]; exact Nat.lt_succ_of_lt lt⟩
    rw [← hH3, upd_ne (by rw [← hD]; exact Nat.ne_of_lt lt)]
    exact (f2 b hb).1
  have t3 : tn 0 s3.heap := T.keep _ _ _ t2 fun b _ o e => by rw [hp3]; exact Heap.get?_push_of_some _ e
  have J4 := block_start I3 ok hN f3
  have kt := B.tgt s3 H3 s3.heap.objs.size (cellsFrom (s3.heap.objs.size + 1) scope.names (cloFrom X.env.cells scope.names [])) fp
  have kf := B.tst s3 H3 s3.heap.objs.size (cellsFrom (s3.heap.objs.size + 1) scope.names (cloFrom X.env.cells scope.names [])) fp
  have kk := B.key s3 H3 s3.heap.objs.size (cellsFrom (s3.heap.objs.size + 1) scope.names (cloFrom X.env.cells scope.names [])) fp
  have kv := B.val s3 H3 s3.heap.objs.size (cellsFrom (s3.heap.objs.size + 1) scope.names (cloFrom X.env.cells scope.names [])) fp
  have away : ∀ b ∈ fp, H3 b = none := fun b hb => (f3 b hb).1.1
  show codeAny _ _ (.compStart (.DictComp kx vx [⟨tg, iter, ifs, 0⟩] scope pos) 0 (.ref it) (.ref D) (compEnvC scope (cellsFrom (s3.heap.objs.size + 1) scope.names (cloFrom X.env.cells scope.names [])) s3.heap.objs.size X.env)) (compPost (model X.prog X.w) X.A X.xe use Qf (.ref D) s3.heap.objs.size) { s3 with heap := pushCells (s3.heap.push { cls := .type "dict", data := .dict #[] }) scope.names }
  generalize hce : compEnvC scope (cellsFrom (s3.heap.objs.size + 1) scope.names (cloFrom X.env.cells scope.names [])) s3.heap.objs.size X.env = ce at J4 kt kf kk kv ⊢
  have locals_ : ce.locals = s3.heap.objs.size := by rw [← hce]; rfl
  generalize hs4 : ({ s3 with heap := pushCells (s3.heap.push { cls := .type "dict", data := .dict #[] }) scope.names } : Shared) = s4 at J4 ⊢
  have t4 : tn 0 s4.heap := T.keep _ _ _ t3 fun b _ o e => by rw [← hs4]; exact pushCells_keeps _ _ _ _ (Heap.get?_push_of_some _ e)
  -- the iterator's objects are nobody's
  have calmF : ∀ {σ' : L2.St} {H' : Hp} {s' : Shared}, Inv (X.blk s3 H3 scope ce fp) [] σ' H' s' → (∀ b ∈ fp, H' b = none) → ∀ b ∈ fp, FpOk (X.blk s3 H3 scope ce fp) [] H' b := fun {σ' H' s'} I' hn b hb =>
    ⟨hn b hb, (I'.ok.exf b hb).1, I'.ok.exfs b hb, .inl hb, fun x c e => (I'.ok.exf b hb).2 x c e, fun p hp => absurd (show p ∈ ([] : List (Addr × Obj)) ++ [] from hp) (by simp)⟩
  suffices loop : codeAny (model X.prog X.w) X.A (.compLoop (.DictComp kx vx [⟨tg, iter, ifs, 0⟩] scope pos) 0 (.ref it) (.ref D) ce) (compPost (model X.prog X.w) X.A X.xe use Qf (.ref D) s3.heap.objs.size) s4 from
    codeAny_compStart_dict loop (T.self X.A 0 _ _ _ t4 loop)
  refine compLoop_anyD (fun n s' => ∃ i H', Inv (X.blk s3 H3 scope ce fp) [] (wipe σ (own.map (·.2))) H' s' ∧ tn i s'.heap ∧ (∀ b ∈ fp, H' b = none) ∧ W i n H') ?_ m0 ⟨0, H3, J4, t4, away, w0⟩
  rintro n s5 ⟨i, H5, J5, t5, n5, w5⟩
  rcases turn i n H5 w5 with ⟨stop, told⟩ | ⟨go, Nx, less, step⟩
  · refine thnF (T.done (X.blk s3 H3 scope ce fp) rfl rfl rfl hc i [] s5 _ H5 (fun _ _ => False) J5 (calmF J5 n5) t5 stop) fun r s6 ⟨hr6, J6⟩ => ?_
    subst hr6
    have I7 : Inv X pins σ H5 s6 := I3.call' (ch := fp) J6.os J6.base J6.hok J6.bare fun b hb => let f := (f3 b hb).1; ⟨f.2.2.2.1, f.2.1, f.2.2.2.2.1, f.2.2.2.2.2⟩
    have noC : H5 s3.heap.objs.size = none := by
      have z : H5 ce.locals = none := J6.free
      rwa [locals_] at z
    obtain ⟨m, hn, _⟩ := J6.loc
    have hn : s6.heap.Ns ce.locals m := hn
    rw [locals_] at hn
    exact back D _ s6 m H5 I7 told hn (I3.fpOk (Nat.le_refl _) noC)
  · refine thnF (T.item (X.blk s3 H3 scope ce fp) rfl rfl rfl hc i [] s5 _ H5 (fun _ _ => False) J5 (calmF J5 n5) t5 go) fun r s6 ⟨u, hr6, h6⟩ => ?_
    subst hr6
    refine thnF h6 fun _ s7 ⟨x, H7, J7, r7, y7, t7, n7⟩ => ?_
    have P7 := J7.pinned (calmF J7 n7) (T.obj _ _ t7)
    refine thnF (kt.run _ s7 _ H7 x u _ P7 r7 (step x H7 y7)) fun _ s8 ⟨σ8, H8, J8, hw, q8⟩ => thnF (kf.run _ s8 σ8 H8 _ J8 q8) fun b s9 ⟨H9, J9, q9⟩ => ?_
    -- behind a turn
    have next : ∀ {s' : Shared} {H' : Hp}, Inv (X.blk s3 H3 scope ce fp) ([] ++ pinsAt fp s7.heap) σ8 H' s' → Nx H' → ∃ m, m < n ∧ ∃ i H', Inv (X.blk s3 H3 scope ce fp) [] (wipe σ (own.map (·.2))) H' s' ∧ tn i s'.heap ∧ (∀ b ∈ fp, H' b = none) ∧ W i m H' := fun {s' H'} J' nx => by
      obtain ⟨m', lt, w'⟩ := less H' nx
      have stay : ∀ b ∈ fp, ∀ o, s7.heap.get? b = some o → s'.heap.get? b = some o ∧ H' b = none := fun b hb o e =>
        let z := J'.pin (b, o) (List.mem_append_right _ (List.mem_append_right _ (mem_pinsAt hb e)))
        ⟨z.1, z.2.1⟩
      refine ⟨m', lt, i + 1, H', (J'.unpinned (pins := [])).weak (by rw [← hw, wipe_length]) (fun j v e => ?_), T.keep _ _ _ t7 fun b hb o e => (stay b hb o e).1, fun b hb => ?_, w'⟩
      · rw [← hw] at e
        exact (wipe_some e).1
      · obtain ⟨o, e, _⟩ := T.obj _ _ t7 b hb
        exact (stay b hb o e).2
    cases b with
    | false => exact next J9 q9
    | true =>
      refine thnF (kk.run _ s9 σ8 H9 _ J9 q9) fun ku s10 ⟨y, H10, J10, r10, q10⟩ => thnF (kv.run _ s10 σ8 H10 _ J10 q10) fun vu s11 ⟨z, H11, J11, r11, a, kvs, k, ey, g11, k11, l11, nx⟩ => ?_
      subst ey
      exact nd_store (X := X.blk s3 H3 scope ce fp) hu J11 g11 k11 l11 r10 r11 fun s12 H12 J12 g12 st12 => next J12 (nx H12 g12 st12)
section
variable {kx vx tg iter : Expr} {ifs : List Expr} {scope : Scope} {own : List (Str × Nat)} {pos spos : Pos} {wi : TI} {g : TG} {tt : TT} {tk tv : TE} {P : Program} {w : World} {K : PySem.W.Frag} {kr : Nat}
theorem pe_dn (eP : X.prog = P) (ew : X.w = w) (eK : X.K = K) (hr : Room kr X.A) (hc : X.calm = true) (hN : X.N.Nodup) (hi : PI X tg iter wi)
    (ok : BlkOk X.N X.env.scope scope own) (hg : ∀ (s : Shared) (H : Hp) (C : Addr) (cl : List (Str × Addr)) (fp : List Addr), PG (X.blk s H scope (compEnvC scope cl C X.env) fp) tg g) (ht : ∀ (s : Shared) (H : Hp) (C : Addr) (cl : List (Str × Addr)) (fp : List Addr), PTs (X.blk s H scope (compEnvC scope cl C X.env) fp) ifs tt)
    (hk : ∀ (s : Shared) (H : Hp) (C : Addr) (cl : List (Str × Addr)) (fp : List Addr), PE (X.blk s H scope (compEnvC scope cl C X.env) fp) kx tk)
    (hv : ∀ (s : Shared) (H : Hp) (C : Addr) (cl : List (Str × Addr)) (fp : List Addr), PE (X.blk s H scope (compEnvC scope cl C X.env) fp) vx tv) (fold : ∀ x, foldedSetIterable iter X.env x = pure x := by intro _; rfl) :
    PE X (.DictComp kx vx [⟨tg, iter, ifs, 0⟩] scope pos) (tDn P w K wi g tt tk tv (own.map (·.2))) := by
  subst eP ew eK
  refine ⟨fun pins s σ H Q I hq => ?_⟩
  rw [arm_eval_DictComp]
  exact dn_core (hu9 hr) hc hN I hi ok ⟨hg, ht, hk, hv⟩ fold hq fun D C s' m H' I' q hn f => ⟨m, hn, fun h'' sb => ⟨.ref D, H', I'.turned (t' := s'.toks) (fun b o hb e => (sb.2 b hb).trans e) f.1 f.2.1 f.2.2.2.1 f.2.2.2.2.1 f.2.2.2.2.2, rfl, q⟩⟩
/-- kept under a name -/
theorem ps_setDn {i : Nat} {y : Str} {py : Pos} (eP : X.prog = P) (ew : X.w = w) (eK : X.K = K) (hr : Room kr X.A) (hc : X.calm = true) (hN : X.N.Nodup) (hy : X.N[i]? = some y) (hyl : X.env.scope.names.lookup y = some .local)
    (hsw : swapsWith (.DictComp kx vx [⟨tg, iter, ifs, 0⟩] scope pos) (some (.Name y py)) spos.line X.env = pure true) (hi : PI X tg iter wi)
    (ok : BlkOk X.N X.env.scope scope own) (hg : ∀ (s : Shared) (H : Hp) (C : Addr) (cl : List (Str × Addr)) (fp : List Addr), PG (X.blk s H scope (compEnvC scope cl C X.env) fp) tg g) (ht : ∀ (s : Shared) (H : Hp) (C : Addr) (cl : List (Str × Addr)) (fp : List Addr), PTs (X.blk s H scope (compEnvC scope cl C X.env) fp) ifs tt)
    (hk : ∀ (s : Shared) (H : Hp) (C : Addr) (cl : List (Str × Addr)) (fp : List Addr), PE (X.blk s H scope (compEnvC scope cl C X.env) fp) kx tk)
    (hv : ∀ (s : Shared) (H : Hp) (C : Addr) (cl : List (Str × Addr)) (fp : List Addr), PE (X.blk s H scope (compEnvC scope cl C X.env) fp) vx tv) (fold : ∀ x, foldedSetIterable iter X.env x = pure x := by intro _; rfl) :
    PS X (.Assign [.Name y py] (.DictComp kx vx [⟨tg, iter, ifs, 0⟩] scope pos) spos) (tAsg (tDn P w K wi g tt tk tv (own.map (·.2))) (gName i)) := by
  subst eP ew eK
  refine ⟨fun pins s σ H D I hq => ?_⟩
  rw [exec_Assign_Name_used _ _ _ _ hsw]
  have hq : tDn X.prog X.w X.K wi g tt tk tv (own.map (·.2)) σ H (fun x H1 => gName i x σ H1 D.nx) := hq
  refine wpAny_bind (wpAny_standAt (wpAny_bind (wpAny_bind (thn (dn_core (use := some (assign (.Name y py) X.env)) (Qf := fun _ s' => SP X pins D .next s') (hu9 hr) hc hN I hi ok ⟨hg, ht, hk, hv⟩ fold hq fun N C s' m H' I' q hn f => ?_) fun _ s' z => wpAny_pure (wpAny_pure z)))))
  refine wpAny_assign_Name (store_ok2 (v := V.ref N) I' hN hy (.inl hyl) rfl (fun s2 I2 ⟨a, sb, ha⟩ => ?_) (.inr hyl))
  have away : C ≠ a := ha.elim (fun z => by rw [z]; exact f.2.1) fun z e => f.2.2.2.2.1 y a z e.symm
  exact ⟨m, hn.sameBut sb away, fun h3 sb3 => ⟨_, H', I2.turned (t' := s2.toks) (fun b o hb e => (sb3.2 b hb).trans e) f.1 f.2.1 f.2.2.2.1 f.2.2.2.2.1 f.2.2.2.2.2, q⟩⟩
theorem sw_dict {gs : List Comprehension} {py : Pos} {y : Str} {l : Nat} {env : Env} (hk : env.scope.kind = .function) (hy : env.scope.names.lookup y = some .local) (hl : (py.line == pos.line) = true)
    (ha : (scope.names.any fun (n, k) => n == y && (k == .local || k == .cell)) = false) : swapsWith (.DictComp kx vx gs scope pos) (some (.Name y py)) l env = pure true := by
  have ky : env.kindOf y = some .local := hy
  have hb : env.blockKind = .function := by unfold Env.blockKind; rw [hk]; rfl
  simp only [swapsWith, hb, ky, ha, Expr.pos, hl]
  rfl
end
end
section
variable {P : Program} {w : World} {K : PySem.W.Frag} {σ : L2.St} {H : Hp} {Q : VK} {wi : TI} {g : TG} {tt : TT} {tk tv : TE} {vs : List Nat}
theorem i_Dn (q : wi σ H fun J H1 => ∀ D H2, H1 D = none → ND P w K H2 D [] → Stp [] H1 H2 → ∃ W : Nat → Nat → Hp → Prop, (∃ m, W 0 m H2) ∧ ∀ i m H, W i m H →
  (J.stop i H ∧ Q (.ref D) H) ∨ (J.go i H ∧ ∃ Nx : Hp → Prop, (∀ H', Nx H' → ∃ m', m' < m ∧ W (i + 1) m' H') ∧ ∀ x H', J.yld i H x H' → g x (wipe σ vs) H' fun σ2 H2 => wipe σ2 vs = wipe σ vs ∧ tt σ2 H2 fun b H3 =>
    if b = true then tk σ2 H3 fun y H4 => tv σ2 H4 fun z H5 => ∃ a kvs k, y = .ref a ∧ ND P w K H5 D kvs ∧ KyAt K H5 (.ref a) k ∧ kvs.length < sizeLine ∧ ∀ H6, ND P w K H6 D (putK kvs k z) → Stp [D] H5 H6 → Nx H6 else Nx H3)) : tDn P w K wi g tt tk tv vs σ H Q := q
/-- over a list that stays -/
theorem dn_list {a : Addr} {xs : List V} {H2 : Hp} {D : Addr} {Qd : Hp → Prop} (Pv : Nat → Hp → Prop) (h0 : Pv 0 H2) (hl : ∀ i H, i ≤ xs.length → Pv i H → SqL K H a xs)
    (hs : ∀ i x H, xs[i]? = some x → Pv i H → g x (wipe σ vs) H fun σ2 H2 => wipe σ2 vs = wipe σ vs ∧ tt σ2 H2 fun b H3 =>
      if b = true then tk σ2 H3 fun y H4 => tv σ2 H4 fun z H5 => ∃ a kvs k, y = .ref a ∧ ND P w K H5 D kvs ∧ KyAt K H5 (.ref a) k ∧ kvs.length < sizeLine ∧ ∀ H6, ND P w K H6 D (putK kvs k z) → Stp [D] H5 H6 → Pv (i + 1) H6 else Pv (i + 1) H3) (hd : ∀ H, Pv xs.length H → Qd H) :
    ∃ W : Nat → Nat → Hp → Prop, (∃ m, W 0 m H2) ∧ ∀ i m H, W i m H →
      ((Itl K a).stop i H ∧ Qd H) ∨ ((Itl K a).go i H ∧ ∃ Nx : Hp → Prop, (∀ H', Nx H' → ∃ m', m' < m ∧ W (i + 1) m' H') ∧ ∀ x H', (Itl K a).yld i H x H' → g x (wipe σ vs) H' fun σ2 H2 => wipe σ2 vs = wipe σ vs ∧ tt σ2 H2 fun b H3 =>
        if b = true then tk σ2 H3 fun y H4 => tv σ2 H4 fun z H5 => ∃ a kvs k, y = .ref a ∧ ND P w K H5 D kvs ∧ KyAt K H5 (.ref a) k ∧ kvs.length < sizeLine ∧ ∀ H6, ND P w K H6 D (putK kvs k z) → Stp [D] H5 H6 → Nx H6 else Nx H3) := by
  refine ⟨fun i m H => m + i = xs.length ∧ Pv i H, ⟨xs.length, rfl, h0⟩, fun i m H ⟨em, p⟩ => ?_⟩
  have sq := hl i H (by omega) p
  match m, em with
  | 0, em =>
    have e : i = xs.length := by omega
    subst e
    exact .inl ⟨⟨xs, sq, Nat.le_refl _⟩, hd H p⟩
  | m + 1, em =>
    have lt : i < xs.length := by omega
    refine .inr ⟨⟨xs, xs[i], sq, List.getElem?_eq_getElem lt⟩, Pv (i + 1), fun H' p' => ⟨m, Nat.lt_succ_self m, by omega, p'⟩, fun x H' ⟨e, y⟩ => ?_⟩
    subst e
    exact hs i x _ (y xs sq) p
end
end GT

/-! ## sorted(d, key=lambda x: (x[0], x[1], x[2])) -/
namespace GT
open PySem PySem.Spec PyProof.Rows L2 LamX PySem.W
def key3 : Dt → PyData
  | .tup (a :: b :: c :: _) => .tuple [a.py, b.py, c.py]
  | _ => .none
def Has3 (d : Dt) : Prop := ∃ a b c r, d = .tup (a :: b :: c :: r)
theorem key3_depth {d : Dt} (h : Has3 d) (n : d.depth ≤ 8) : (key3 d).depth ≤ 9 := by
  obtain ⟨a, b, c, r, rfl⟩ := h
  have n1 := Dt.py_depth a
  have n2 := Dt.py_depth b
  have n3 := Dt.py_depth c
  simp only [Dt.depth, Dt.depthAll] at n
  simp only [key3, PyData.depth, PyData.depthAll]
  omega
theorem nd_key_at {K : PySem.W.Frag} {H : Hp} {xs : List (NestedKey × Addr × V)} {ds : List Dt} (ks : KeysAt K H xs) (e : xs.map (·.1) = ds.map Dt.key) (f : Dt.flatAll ds = true) {i : Nat} {x : NestedKey × Addr × V} {d : Dt} (hx : xs[i]? = some x) (hd : ds[i]? = some d) : DtAt K H (.ref x.2.1) d := by
  obtain ⟨d', f', k', _, h'⟩ := ks x (List.mem_of_getElem? hx)
  have h1 : (xs.map (·.1))[i]? = some x.1 := by rw [List.getElem?_map, hx]; rfl
  rw [e, List.getElem?_map, hd] at h1
  have h2 : d.key = x.1 := Option.some.inj h1
  rw [← Dt.key_inj d' d f' (Dt.flat_mem f (List.mem_of_getElem? hd)) (k'.trans h2.symm)]
  exact h'
abbrev bod3 (x : Str) (p0 p1 p2 q0 q1 q2 r0 r1 r2 pos : Pos) (d0 d1 d2 kd : Nat) : Expr := .Tuple [.Subscript (.Name x p0) (.Constant (.int (0 : Int)) d0 q0) r0, .Subscript (.Name x p1) (.Constant (.int (1 : Int)) d1 q1) r1, .Subscript (.Name x p2) (.Constant (.int (2 : Int)) d2 q2) r2] kd pos
section
variable {prog : Program} {w : World} {A : Around} {s : Shared} {x q : Str} {params : Arguments} {scope : Scope} {p0 p1 p2 q0 q1 q2 r0 r1 r2 pos : Pos} {d0 d1 d2 kd : Nat} {f c' : Addr} {pm ctv : Value}
/-- one call of the lambda: it tells the key of a datum -/
theorem key3_turn {v : Value} {b : Dt} (hf : s.heap.get? f = some (kla_obj "<lambda>" q params (bod3 x p0 p1 p2 q0 q1 q2 r0 r1 r2 pos d0 d1 d2 kd) scope [] pm c' ctv)) (rc : s.heap.CodeRec (.ref c') q) (nl : s.heap.NoLimit) (room : A.depth < recursionLimit)
    (hbind : ∀ (pm cv ctv v : Value), bindArgs (kla_fn "<lambda>" q params (bod3 x p0 p1 p2 q0 q1 q2 r0 r1 r2 pos d0 d1 d2 kd) scope [] pm cv ctv) ⟨[v], []⟩ = pure [(x, v)])
    (hk : scope.kind = .function) (co : scope.isCoroutine = false) (gen : scope.isGenerator = false) (hcl : ∀ y ∈ scope.names, y.2 ≠ .cell) (hx : scope.names.lookup x = some .local) (hd : (x == ("__debug__" : Str)) = false)
    (h3 : Has3 b) (hbf : b.flat = true) (hdi : DtIs s.heap b v) : wpAny (model prog w) A (call (.ref f) [v]) (KeyPure (key3 b) s) (fun _ _ => False) s := by
  obtain ⟨a1, b1, c1, r1, rfl⟩ := h3
  cases hdi with
  | @tup t its _ ht hall =>
    simp only [Dt.flat, Dt.flatAll, Bool.and_eq_true] at hbf
    obtain ⟨l⟩ := its
    cases hall with
    | @cons _ v0 _ _ g0 hall =>
      cases hall with
      | @cons _ v1 _ _ g1 hall =>
        cases hall with
        | @cons _ v2 _ lr g2 hall =>
          obtain ⟨ot, e1, e2, n2, e4⟩ := ht
          have htup : IsTup s.heap t (Array.mk (v0 :: v1 :: v2 :: lr)) := ⟨ot, e1, e2, n2, e4⟩
          refine wpAny_mono (lam_key3 (x := x) (items := Array.mk (v0 :: v1 :: v2 :: lr)) (v0 := v0) (v1 := v1) (v2 := v2) hf rc nl room (hbind _ _ _ _) hk co gen hcl hx hd htup rfl rfl rfl) (fun u s2 hu => ?_) fun _ _ z => z.elim
          obtain ⟨h2, tk2, b2, rfl, kp2, rfl, hb2⟩ := hu
          exact ⟨h2, tk2, rfl, kp2, .tuple (as := []) hb2 rfl rfl (.cons (as := []) (bs := []) (PyProof.Rows.Reads.keeps kp2 (DtIs.reads a1 v0 hbf.1 g0)) (.cons (as := []) (bs := []) (PyProof.Rows.Reads.keeps kp2 (DtIs.reads b1 v1 hbf.2.1 g1)) (.cons (as := []) (bs := []) (PyProof.Rows.Reads.keeps kp2 (DtIs.reads c1 v2 hbf.2.2.1 g2)) .nil)))⟩
end
section
variable {X : Cx} {x q : Str} {params : Arguments} {scope : Scope} {p0 p1 p2 q0 q1 q2 r0 r1 r2 pos : Pos} {d0 d1 d2 kd : Nat}
def rSortL (P : Program) (w : World) (K : PySem.W.Frag) (q : Str) (params : Arguments) (body : Expr) (scope : Scope) : List V → List V → Hp → VK → Prop := fun vs zs H Q => ∃ (d f c' : Addr) (pm ctv : Value) (kvs : List NKV) (ds : List Dt), vs = [.ref d] ∧ zs = [.ref f] ∧ H f = some (LamO f (kla_obj "<lambda>" q params body scope [] pm c' ctv)) ∧ H c' = some (CodeO c' q) ∧
  ND P w K H d kvs ∧ kvs.map (·.1) = ds.map Dt.key ∧ Dt.flatAll ds = true ∧ Dt.depthAll ds ≤ 8 ∧ (∀ x ∈ ds, Has3 x) ∧ AllAlike (ds.map key3) ∧ Sortable (ds.map key3) ∧
  ∀ (p : Addr) (ys : List V), H p = none → DtsAt K H ys (ds.mergeSort (dataLe false key3)) → Q (.ref p) (upd H p (.lst ys))
theorem cr_sortL {k : Nat} (hc : X.calm = true) (hr : Room (k + 2) X.A)
    (hbind : ∀ (pm cv ctv v : Value), bindArgs (kla_fn "<lambda>" q params (bod3 x p0 p1 p2 q0 q1 q2 r0 r1 r2 pos d0 d1 d2 kd) scope [] pm cv ctv) ⟨[v], []⟩ = pure [(x, v)])
    (hk : scope.kind = .function) (co : scope.isCoroutine = false) (gen : scope.isGenerator = false) (hcl : ∀ y ∈ scope.names, y.2 ≠ .cell) (hx : scope.names.lookup x = some .local) (hd : (x == ("__debug__" : Str)) = false) :
    CallRK X (.builtin "sorted") [Str.ofString "key"] (rSortL X.prog X.w X.K q params (bod3 x p0 p1 p2 q0 q1 q2 r0 r1 r2 pos d0 d1 d2 kd) scope) := by
  intro pins s σ H vs zs us ws Q I r rz h
  obtain ⟨d, f, c', pm, ctv, kvs, ds, rfl, rfl, hf, hco, ⟨xs, e, ks, rfl⟩, hkeys, hfl, hdp, h3, hal, hsk, qq⟩ := h
  obtain rfl := Vals.ref1 r
  obtain rfl := Vals.ref1 rz
  have hun := hr.units
  have hkeys' : xs.map (·.1) = ds.map Dt.key := by rw [← hkeys]; unfold plainX; rw [List.map_map]; rfl
  obtain ⟨hz, lo, ys, rel, o, es, ep, ho, hex, hdat, hen, his, hnd⟩ := nd_raw I (.inl e) ks
  have l1 : es.size = ys.length := size_of_entries hen
  have l2 : xs.length = ys.length := Paired.length rel
  have l3 : xs.length = ds.length := by have := congrArg List.length hkeys'; simpa using this
  have hfob : s.heap.get? f = some (kla_obj "<lambda>" q params (bod3 x p0 p1 p2 q0 q1 q2 r0 r1 r2 pos d0 d1 d2 kd) scope [] pm c' ctv) := (I.hok f _ hf).1
  obtain ⟨oc, vc, tc, hoc, hdc, hvc⟩ : ∃ (oc : Obj) (vs : Array Value) (t : Tok), s.heap.get? c' = some oc ∧ oc.data = .fields vs ∧ vs[1]? = some (.str q t) := (I.hok c' _ hco).1
  have g1 : ∀ (i : Nat) (b : Dt) (hi : i < es.size), ds[i]? = some b → ∃ y, RelV y es[i].key ∧ DtAt X.K H y b := fun i b hi hb => by
    have hi2 : i < xs.length := by omega
    obtain ⟨y, hy, e1, e2, e3⟩ := paired_get rel (List.getElem?_eq_getElem hi2)
    have q1 := entry_at hen i
    rw [hy, Array.getElem?_eq_getElem hi] at q1
    have q2 : es[i] = entryOfKey (nestedKind X.prog X.w) y := Option.some.inj q1
    refine ⟨.ref xs[i].2.1, ?_, nd_key_at ks hkeys' hfl (List.getElem?_eq_getElem hi2) hb⟩
    rw [q2]
    show Value.ref y.2.1 = Value.ref xs[i].2.1
    rw [e2]
  have g2 : ∀ b, b ∈ ds → X.A.units + 2 + (key3 b).depth < cLine := fun b hb => by
    have h1 := key3_depth (h3 b hb) (Nat.le_trans (Dt.depth_mem hb) hdp)
    omega
  have g3 : ∀ (v : Value) (b : Dt), (∃ y, RelV y v ∧ DtAt X.K H y b) → b ∈ ds → ∀ (h : Heap) (tk : Nat), (∀ b o, s.heap.get? b = some o → h.get? b = some o) →
      wpAny (model X.prog X.w) X.A.in1.in1 (call (.ref f) [v]) (KeyPure (key3 b) { s with heap := h, toks := tk }) (fun _ _ => False) { s with heap := h, toks := tk } := fun v b ⟨y, ry, hy⟩ hb h tk kp => by
    have hdi := DtAt.is (s := { s with heap := h, toks := tk }) (I.kept kp) b y v hy ry
    exact key3_turn (s := { s with heap := h, toks := tk }) (kp _ _ hfob) ⟨c', oc, vc, tc, rfl, kp _ _ hoc, hdc, hvc⟩ (I.nolimit.keeps kp) hr.in1.in1.depth hbind hk co gen hcl hx hd (h3 b hb) (Dt.flat_mem hfl hb) hdi
  refine raw_sorted_dict (R := fun (u : Value) (b : Dt) => ∃ y, RelV y u ∧ DtAt X.K H y b) key3 lo ⟨o, ho, hex, hdat⟩ (I.ok.hd hc) (by omega) (by omega) g1 hal hsk g2 g3 fun out c h1 h' tk a hk1 hk2 hle hD hlen hR => ?_
  obtain ⟨yv, vy, dy⟩ := each_dts hR
  have hl9 : yv.length ≤ sizeLine := by
    have h7 := vy.length
    omega
  have I1 : Inv X pins σ H { s with heap := h1, toks := tk } := I.kept hk1
  exact ⟨.ref a, upd H a (.lst yv), I1.laid (t' := tk) hk2 hle ⟨hl9, out, c, vy, hD⟩, rfl, qq a yv (I1.hok.fresh hle) dy⟩
end
end GT

/-! ## the call sorted(d, key=lambda x: (x[0], x[1], x[2])) -/
namespace GT
open PySem PySem.Spec PyProof.Rows L2 LamX PySem.W
/-- a def whose code object is told -/
theorem FunD.okC {P : Program} {w : World} {K : PySem.W.Frag} {mg : Str → Option Value} {base : Heap} {x qual : Str} {params : Arguments} {body : List Stmt} {scope : Scope} {dvs : List V} {kws : List (Str × V)} {f : Addr} {fd : FuncData} {CX : CXT} {N ps : List Str} {k : Nat} {sp : Sp} {c : Addr}
    (F : FunD K x qual params body scope dvs kws f fd) (ec : fd.code = .ref c) (S : FnScope N ps scope) (len : ∀ vs H Q E, sp vs H Q E → vs.length = ps.length)
    (hbody : ∀ (A : Around) (outer : List Env) (s : Shared) (H : Hp) (vs : List V) (Q : VK) (E : XK), Room k (A.deeper (envOfC qual scope s.heap.objs.size f (.ref c))) → sp vs H Q E →
      ∃ t, PSs (cxOf CX P w K mg base N qual scope f (.ref c) A outer s H E) body t ∧ t { nx := fun _ H' => Q .non H', rt := Q } (start N vs) H) : FnOk P w K mg base CX (k + 1) f fd ps sp := by
  obtain ⟨_, _, _, _, _, _, _, cdv, _, _, rfl, lk, hcd, _, _⟩ := F.ex
  obtain rfl : cdv = .ref c := ec
  exact fn_of lk hcd S len fun A outer s H vs Q E hr hsp => hbody A outer s H vs Q E hr hsp
/-- .. found by the head -/
theorem code_told {K : PySem.W.Frag} {d : He.DefD} {fd : FuncData} {dvs : List V} {kws : List (Str × V)} (F : FunD K d.name d.qual d.params d.body d.scope dvs kws (He.fAd K d.at_) fd) : fd.code = .ref (He.codeOf K d.at_) := by
  obtain ⟨_, _, _, _, _, _, _, cdv, _, _, rfl, lk, hcd, _, _⟩ := F.ex
  obtain ⟨c, rfl⟩ := He.codeIn_ref hcd
  rw [He.codeOf_eq lk rfl] <;> rfl
theorem flat_all : ∀ {ds : List Dt}, (∀ z ∈ ds, z.flat = true) → Dt.flatAll ds = true
  | [], _ => rfl
  | d :: ds, h => by rw [Dt.flatAll, h d List.mem_cons_self, flat_all fun z hz => h z (List.mem_cons_of_mem _ hz)]; rfl
def tSortL (P : Program) (w : World) (K : PySem.W.Frag) (T : Addr) (q : Str) (td : TE) : TE := fun σ H Q => td σ H fun x H1 => ∃ L, Tab H1 T q L ∧ ∃ (d : Addr) (kvs : List NKV) (ds : List Dt), x = .ref d ∧ ND P w K H1 d kvs ∧ kvs.map (·.1) = ds.map Dt.key ∧ Dt.flatAll ds = true ∧ Dt.depthAll ds ≤ 8 ∧ (∀ x ∈ ds, Has3 x) ∧ AllAlike (ds.map key3) ∧ Sortable (ds.map key3) ∧
  ∀ (p : Addr) (ys : List V) (H2 : Hp) (L2 : List Addr), Tab H2 T q L2 → (∀ c ∈ L2, c ∈ L ∨ H1 c = none) → Stp [T] H1 H2 → H1 p = none → H2 p = some (.lst ys) → DtsAt K H2 ys (ds.mergeSort (dataLe false key3)) → Q (.ref p) H2
theorem pe_sortL {X : Cx} {P : Program} {w : World} {K : PySem.W.Frag} {c T : Addr} {k : Nat} {x y : Str} {params : Arguments} {scope : Scope} {p0 p1 p2 q0 q1 q2 r0 r1 r2 bpos py pf kpos lpos pos : Pos} {d0 d1 d2 kd i : Nat} (eP : X.prog = P) (ew : X.w = w) (eK : X.K = K) (hr : Room (k + 2) X.A) (hc : X.calm = true) (TB : TabB X.base X.mg c T) (hcode : X.env.code = .ref c)
    (hg : Gl X "sorted") (hm : X.mg "sorted" = none) (he : PE X (.Name y py) (tVar i))
    (hdef : defaultsOf params X.env = ([], []) := by rfl) (hfree : ∀ y ∈ scope.names, y.2 ≠ .free := by decide +kernel) (hclo : cloFrom X.env.cells scope.names [] = [] := by rfl)
    (hbind : ∀ (q : Str) (pm cv ctv v : Value), bindArgs (kla_fn "<lambda>" q params (bod3 x p0 p1 p2 q0 q1 q2 r0 r1 r2 bpos d0 d1 d2 kd) scope [] pm cv ctv) ⟨[v], []⟩ = pure [(x, v)] := by intro _ _ _ _ _; rfl)
    (hk : scope.kind = .function := by rfl) (co : scope.isCoroutine = false := by rfl) (gen : scope.isGenerator = false := by rfl) (hcl : ∀ y ∈ scope.names, y.2 ≠ .cell := by decide +kernel) (hx : scope.names.lookup x = some .local := by decide +kernel) (hd : (x == ("__debug__" : Str)) = false := by decide +kernel) :
    PE X (.Call (.Name "sorted" pf) [.Name y py] [⟨some "key", .Lambda params (bod3 x p0 p1 p2 q0 q1 q2 r0 r1 r2 bpos d0 d1 d2 kd) scope lpos, kpos⟩] pos) (tSortL P w K T (X.env.qual ++ "<lambda>") (tVar i)) := by
  subst eP ew eK
  have all := pe_callBK (p := pf) (pos := pos) (kws := [⟨some "key", .Lambda params (bod3 x p0 p1 p2 q0 q1 q2 r0 r1 r2 bpos d0 d1 d2 kd) scope lpos, kpos⟩]) (cr_sortL (X := X) (q := X.env.qual ++ "<lambda>") (params := params) hc hr (hbind _) hk co gen hcl hx hd) hg hm (by decide +kernel) (pa_cons he pa_nil) (pk_cons (pe_lam TB hcode hdef hfree) pk_nil)
  rw [hclo] at all
  refine ⟨fun pins s σ H Q I h => all.run pins s σ H Q I ?_⟩
  obtain ⟨v, hv, L, hT, d, kvs, ds, rfl, nd, h1, h2, h3, h4, h5, h6, h7⟩ := h
  refine ⟨.ref d, hv, L, hT, fun f c' pm ctv H1 L1 t1 fresh st co1 nf hf => ?_⟩
  obtain ⟨ps, hP⟩ := hT.there
  have dT : d ∉ [T] := by
    obtain ⟨xs, e, _⟩ := nd
    simp only [List.mem_singleton]
    rintro rfl
    rw [hP] at e
    cases e
  refine ⟨d, f, c', pm, ctv, kvs, ds, rfl, rfl, hf, co1, nd.stp st dT, h1, h2, h3, h4, h5, h6, fun p ys np dy => ?_⟩
  have s2 : Stp [] H1 (upd H1 p (.lst ys)) := .new np
  have fl : Dt.flatAll (ds.mergeSort (dataLe false key3)) = true := flat_all fun z hz => Dt.flat_mem h2 ((List.mergeSort_perm _ _).mem_iff.mp hz)
  refine h7 p ys _ L1 (t1.grow s2) fresh (st.trans (s2.mono (by simp))) (st.free np fun z => ?_) upd_same (dy.stp s2 _ _ fl)
  obtain ⟨qs, e⟩ := t1.there
  rw [List.mem_singleton.mp z, e] at np
  cases np
end GT

/-! ## sorted(d): the keys of a dict in order -/
namespace GT
open PySem PySem.Spec PySem.Calls PyProof.Rows L2 PySem.W
section
variable {prog : Program} {w : World} {A : Around} {E : Value → Shared → Prop} {s : Shared} {β : Type} {bs : List β} {R : Value → β → Prop}
theorem raw_sorted_keys {d : Addr} {es : Array DictEntry} {ep : Nat} {Q : Value → Shared → Prop} (enc : β → PyData) (lo : (d == sysModules) = false) (hm : s.heap.DictRaw d es ep) (hh : A.handled = none) (hn : es.size ≤ sizeLine) (hes : es.size = bs.length)
    (hit : ∀ (i : Nat) (b : β) (hi : i < es.size), bs[i]? = some b → R es[i].key b) (er : ∀ (v : Value) (b : β), R v b → b ∈ bs → Reads s.heap v (enc b) []) (hal : AllAlike (bs.map enc)) (hk : Sortable (bs.map enc)) (hu : ∀ x, x ∈ bs → A.units + 2 + (enc x).depth < cLine)
    (h : ∀ (out : List Value) (c : Nat) (h1 h' : Heap) (tk : Nat) (a : Addr), (∀ b o, s.heap.get? b = some o → h1.get? b = some o) → (∀ b o, h1.get? b = some o → h'.get? b = some o) → h1.objs.size ≤ a → h'.get? a = some (seqObj "list" (List.toArray out) c) → out.length = bs.length → EachIs R out (bs.mergeSort (dataLe false enc)) →
      Q (.ref a) { s with heap := h', toks := tk }) :
    wpAny (model prog w) A (call (.builtin "sorted") [.ref d]) Q E s := by
  refine call_function_entry kind_sorted plain_sorted entry_sorted (args_sorted1 _) ?_
  unfold Builtin.«sorted»
  refine wpAny_bind (m := checkCount "sorted" 1 1 _) (wpAny_pure ?_)
  refine wpAny_bind (kdu_collect (A := A.in1) (KdlSrc.rawDict lo) hh hm hn fun h1 tk1 acc hk1 hacc => ?_)
  have he : EachIs R acc.toList bs := each_of_items (P := fun i v => ∃ hi : i < es.size, v = es[i].key) ⟨hacc.1.trans hes, hacc.2⟩ fun i v b ⟨hi, e⟩ hb => by rw [e]; exact hit i b hi hb
  have hl : acc.toList.length = bs.length := he.length
  have hz : acc.toList.length ≤ sizeLine := by rw [hl, ← hes]; exact hn
  refine wpAny_bind (wpAny_newList ?_ hz)
  have ho : (h1.push { cls := .type "list", data := .seq acc.toList.toArray }).get? h1.objs.size = some (seqObj "list" acc.toList.toArray 0) := Heap.get?_push_size _ rfl
  generalize hH2 : h1.push { cls := .type "list", data := .seq acc.toList.toArray } = h2 at ho
  have k2 : ∀ b o, h1.get? b = some o → b ≠ h1.objs.size ∧ b < h2.objs.size ∧ h2.get? b = some o := fun b o q => by
    have l := Heap.lt_size q
    have g : h2.get? b = some o := by rw [← hH2]; exact Heap.get?_push_of_some _ q
    exact ⟨Nat.ne_of_lt l, Heap.lt_size g, g⟩
  have rd : EachIs (fun v b => ∃ as, Reads (sortingHeap h2 h1.objs.size acc.toList) v (enc b) as) acc.toList bs := (each_mem he).mono fun v b ⟨hR, hb⟩ => ⟨[], PyProof.Rows.Reads.keeps (fun b o e => let z := k2 b o (hk1 b o e); sortingHeap_old z.1 z.2.2) (er v b hR hb)⟩
  refine wpAny_bind (wpAny_holding (wpAny_call_entry slot_list_sort ⟨_, ho, rfl⟩ entry_list_sort ?body (args_list_sort _)))
  case body =>
    refine list_sort_vals (κ := dataKind (sortingHeap h2 h1.objs.size acc.toList) (bs.map enc)) (s := { s with heap := h2, toks := tk1 }) ho (SortsAt.data (s := { s with heap := sortingHeap h2 h1.objs.size acc.toList, toks := tk1 }) (each_map (R := fun v d => ∃ as, Reads (sortingHeap h2 h1.objs.size acc.toList) v d as) enc rd) hal hk (bound_map (A := A.in1.in1) hu)) hz ⟨_, rfl, ?_⟩
    obtain ⟨c, hc⟩ := sortedHeap_at (vs := acc.toList) (out := (sortVals (dataKind (sortingHeap h2 h1.objs.size acc.toList) (bs.map enc)) false acc.toList acc.toList).toArray) ho
    exact wpAny_pure ⟨_, rfl, h _ c h1 _ tk1 _ hk1 (fun b o e => (sortedHeap_old (k2 b o e).1 (k2 b o e).2.1).trans (k2 b o e).2.2) (Nat.le_refl _) hc (by rw [sortVals_length false rfl]; exact hl) (sortVals_data false he rd hal)⟩
end
end GT
namespace GT
open PySem PySem.Spec PyProof.Rows L2 PySem.W
section
variable {X : Cx} {P : Program} {w : World} {K : PySem.W.Frag}
/-- sorted(d): d a dict with nested keys, their data ds in the dict's order -/
def rSortK (P : Program) (w : World) (K : PySem.W.Frag) : List V → Hp → VK → Prop := fun vs H Q => ∃ (d : Addr) (kvs : List NKV) (ds : List Dt), vs = [.ref d] ∧ NDR P w K H d kvs ∧ kvs.map (·.1) = ds.map Dt.key ∧ Dt.flatAll ds = true ∧ Dt.depthAll ds ≤ 8 ∧ AllAlike (ds.map Dt.py) ∧ Sortable (ds.map Dt.py) ∧
  ∀ (p : Addr) (ys : List V), H p = none → DtsAt K H ys (ds.mergeSort leD) → Q (.ref p) (upd H p (.lst ys))
theorem cr_sortK (eP : X.prog = P) (ew : X.w = w) (eK : X.K = K) (hc : X.calm = true) (hu : X.A.units + 64 < cLine) : CallR X (.builtin "sorted") (rSortK P w K) := by
  subst eP ew eK
  intro pins s σ H vs us Q I r h
  obtain ⟨d, kvs, ds, rfl, ⟨xs, e, ks, rfl⟩, hkeys, hfl, hdp, hal, hsk, qq⟩ := h
  obtain rfl := Vals.ref1 r
  have hkeys' : xs.map (·.1) = ds.map Dt.key := by rw [← hkeys]; unfold plainX; rw [List.map_map]; rfl
  obtain ⟨hz, lo, ys, rel, o, es, ep, ho, hex, hdat, hen, his, hnd⟩ := nd_raw I e ks
  have l1 : es.size = ys.length := size_of_entries hen
  have l2 : xs.length = ys.length := Paired.length rel
  have l3 : xs.length = ds.length := by have := congrArg List.length hkeys'; simpa using this
  have g1 : ∀ (i : Nat) (b : Dt) (hi : i < es.size), ds[i]? = some b → ∃ y, RelV y es[i].key ∧ DtAt X.K H y b := fun i b hi hb => by
    have hi2 : i < xs.length := by omega
    obtain ⟨y, hy, e1, e2, e3⟩ := paired_get rel (List.getElem?_eq_getElem hi2)
    have q1 := entry_at hen i
    rw [hy, Array.getElem?_eq_getElem hi] at q1
    have q2 : es[i] = entryOfKey (nestedKind X.prog X.w) y := Option.some.inj q1
    refine ⟨.ref xs[i].2.1, ?_, nd_key_at ks hkeys' hfl (List.getElem?_eq_getElem hi2) hb⟩
    rw [q2]
    show Value.ref y.2.1 = Value.ref xs[i].2.1
    rw [e2]
  refine raw_sorted_keys (R := fun (u : Value) (b : Dt) => ∃ y, RelV y u ∧ DtAt X.K H y b) Dt.py lo ⟨o, ho, hex, hdat⟩ (I.ok.hd hc) (by omega) (by omega) g1 (fun v b ⟨y, ry, hy⟩ hb => DtIs.reads b v (Dt.flat_mem hfl hb) (DtAt.is I b y v hy ry)) hal hsk (fun b hb => ?_) fun out c h1 h' tk a hk1 hk2 hle hD hlen hR => ?_
  · have h1 := Dt.depth_mem hb
    have h2 := Dt.py_depth b
    omega
  · obtain ⟨yv, vy, dy⟩ := each_dts hR
    have hl9 : yv.length ≤ sizeLine := by
      have h7 := vy.length
      omega
    have I1 : Inv X pins σ H { s with heap := h1, toks := tk } := I.kept hk1
    exact ⟨.ref a, upd H a (.lst yv), I1.laid (t' := tk) hk2 hle ⟨hl9, out, c, vy, hD⟩, rfl, qq a yv (I1.hok.fresh hle) dy⟩
end
end GT

/-! ## dicts with text keys and data as values; data in order -/
namespace GT
open PySem PySem.Spec PyProof.Rows L2 PySem.W
theorem hu1 {A : Around} {k : Nat} (hr : Room k A) : A.units + 1 < cLine := by have := hr.un; omega
section
variable {σ : L2.St} {H : Hp} {Q : VK} {D : Ends} {R : It → Hp → Prop} {td ty tv : TE}
theorem i_DGet (q : td σ H fun x H1 => ty σ H1 fun y H2 => ∃ a v, x = .ref a ∧ DGet H2 a y (some v) ∧ Q v H2) : tDGet td ty σ H Q := q
theorem i_DIn (q : ty σ H fun y H1 => td σ H1 fun x H2 => ∃ a o, x = .ref a ∧ DGet H2 a y o ∧ Q (.bl o.isSome) H2) : tDIn ty td σ H Q := q
theorem i_DPut (q : tv σ H fun v H1 => td σ H1 fun x H2 => ty σ H2 fun y H3 => ∃ a H4, x = .ref a ∧ DPut H3 a y v H4 ∧ D.nx σ H4) : sDPut td ty tv D σ H := q
theorem i_DNewK (q : ∀ p, H p = none → Q (.ref p) (upd H p (.dK []))) : tDNewK σ H Q := q
theorem i_Keys (q : td σ H fun x H1 => ∃ d o, x = .ref d ∧ ((∃ kvs, H1 d = some (.frz o (.dK kvs)) ∧ R (Itk d o kvs) H1) ∨ ∃ kvs, H1 d = some (.frz o (.dT kvs)) ∧ R (Itkt d o kvs) H1)) : iKeys td σ H R := q
end
/-! ### the dict: texts and what they tell -/
abbrev SD := List (Str × Dt)
abbrev keyS (x : Str) : Key := Sum.inr x
def EntS (K : PySem.W.Frag) (H : Hp) (p : Key × V) (e : Str × Dt) : Prop := p.1 = keyS e.1 ∧ DtAt K H p.2 e.2 ∧ e.2.flat = true
def SdAt (K : PySem.W.Frag) (H : Hp) (d : Addr) (es : SD) : Prop := ∃ kvs, H d = some (.dK kvs) ∧ Paired (EntS K H) kvs es
section
variable {K : PySem.W.Frag} {H H1 : Hp} {M : List Addr} {d : Addr} {es : SD} {kvs : List (Key × V)}
theorem ent_stp (h : Paired (EntS K H) kvs es) (s : Stp M H H1) : Paired (EntS K H1) kvs es := by
  induction h with
  | nil => exact .nil
  | cons x _ ih => exact .cons ⟨x.1, DtAt.stp s _ _ x.2.2 x.2.1, x.2.2⟩ ih
theorem SdAt.stp (h : SdAt K H d es) (s : Stp M H H1) (n : d ∉ M) : SdAt K H1 d es := let ⟨kvs, e, p⟩ := h; ⟨kvs, s.keep _ _ e n, ent_stp p s⟩
theorem ent_keys (h : Paired (EntS K H) kvs es) : kvs.map (·.1) = es.map fun e => keyS e.1 := by
  induction h with
  | nil => rfl
  | cons x _ ih => rw [List.map_cons, List.map_cons, ih, x.1]
theorem ent_len (h : Paired (EntS K H) kvs es) : kvs.length = es.length := by
  have := congrArg List.length (ent_keys h)
  simpa using this
theorem ent_at (h : Paired (EntS K H) kvs es) {i : Nat} {p : Key × V} (e : kvs[i]? = some p) : ∃ r, es[i]? = some r ∧ EntS K H p r := by
  induction h generalizing i with
  | nil => simp at e
  | cons x _ ih =>
    cases i with
    | zero => simp at e; subst e; exact ⟨_, rfl, x⟩
    | succ i => simpa using ih (i := i) (by simpa using e)
theorem ent_none (h : Paired (EntS K H) kvs es) {k : Str} (n : k ∉ es.map (·.1)) : valV kvs (keyS k) = none := by
  induction h with
  | nil => rfl
  | @cons p e ps qs x _ ih =>
    rw [List.map_cons, List.mem_cons, not_or] at n
    rw [valV_neg (fun z => n.1 (by rw [x.1] at z; exact (Sum.inr.inj z).symm))]
    exact ih n.2
theorem ent_val (h : Paired (EntS K H) kvs es) (nd : (es.map (·.1)).Nodup) {i : Nat} {p : Key × V} (e : kvs[i]? = some p) : valV kvs p.1 = some p.2 := by
  refine valV_of ?_ (List.mem_of_getElem? e)
  rw [ent_keys h]
  rw [show (es.map fun e => keyS e.1) = (es.map (·.1)).map keyS by rw [List.map_map]; rfl]
  clear h e
  generalize es.map (·.1) = l at nd
  induction l with
  | nil => exact .nil
  | cons a l ih =>
    rw [List.nodup_cons] at nd
    rw [List.map_cons, List.nodup_cons]
    exact ⟨fun z => nd.1 (by obtain ⟨b, hb, e⟩ := List.mem_map.mp z; cases Sum.inr.inj e; exact hb), ih nd.2⟩
/-- isinstance(d, dict) -/
theorem SdAt.isi {Q : VK} (h : SdAt K H d es) (q : Q (.bl true) H) (e : kitB "dict" "dict" = some true := by decide +kernel) : rIsi K [.ref d, .ty "dict"] H Q := by
  obtain ⟨kvs, hd, _⟩ := h
  exact ⟨.ref d, .ty "dict", _, _, true, rfl, .ty "dict", .base (.dK hd), kit_ty e, q⟩
/-- d[text] = value: a new text -/
theorem sd_put {k : Str} {v : V} {x : Dt} {P : Hp → Prop} (h : SdAt K H d es) (n : k ∉ es.map (·.1)) (l : es.length ≤ 1000) (hv : DtAt K H v x) (f : x.flat = true)
    (q : ∀ H4, SdAt K H4 d (es ++ [(k, x)]) → Stp [d] H H4 → P H4) : ∃ H4, DPut H d (.str k) v H4 ∧ P H4 := by
  obtain ⟨kvs, hd, p⟩ := h
  have pn := ent_none p n
  have pl := ent_len p
  have s : Stp [d] H (upd H d (.dK (putK kvs (keyS k) v))) := .wr (by simp) hd fun _ z => nomatch z
  have s2 := s
  rw [L2.putK_new v pn] at s2
  refine ⟨_, DPut.k (k := keyS k) hd (Nat.lt_of_le_of_lt (show kvs.length ≤ 1000 by omega) (by decide)), q _ ⟨_, upd_same, ?_⟩ s⟩
  rw [L2.putK_new v pn]
  exact Paired.snoc (ent_stp p s2) ⟨rfl, DtAt.stp s2 _ _ f hv, f⟩
end
/-! ### data in order, whatever they are -/
theorem leD_total : PySem.W.TotalLe leD := by
  have h : PySem.W.TotalLe (PySem.W.dataLe false Dt.py) := by
    unfold PySem.W.dataLe
    exact PySem.W.sortLe_total _ _ _
  exact h
theorem dt_perm_map {α : Type} {f : α → Dt} : ∀ {ds : List Dt} {as : List α}, ds.Perm (as.map f) → ∃ bs : List α, bs.Perm as ∧ ds = bs.map f
  | [], as, p => by
    have : as = [] := by
      have := p.length_eq
      cases as with
      | nil => rfl
      | cons _ _ => simp at this
    subst this; exact ⟨[], .refl _, rfl⟩
  | d :: ds, as, p => by
    have hm := p.mem_iff.mp List.mem_cons_self
    obtain ⟨a, ha, ea⟩ := List.mem_map.mp hm
    obtain ⟨l, r, rfl⟩ := List.append_of_mem ha
    have p2 : ds.Perm ((l ++ r).map f) := by
      have q := p.trans (List.perm_middle (a := a) (l₁ := l) (l₂ := r) |>.map f)
      rw [List.map_cons, ea] at q
      exact (List.perm_cons d).mp q
    obtain ⟨bs, pb, eb⟩ := dt_perm_map p2
    exact ⟨a :: bs, (pb.cons a).trans List.perm_middle.symm, by rw [List.map_cons, ea, eb]⟩
/-- sorted: some order of the same, ascending -/
theorem dt_order {α : Type} (f : α → Dt) (as : List α) : ∃ bs : List α, bs.Perm as ∧ (bs.Pairwise fun a b => leD (f a) (f b) = true) ∧ (as.map f).mergeSort leD = bs.map f := by
  have asc := PySem.W.sort_pairwise leD_total (as.map f)
  obtain ⟨bs, pb, eb⟩ := dt_perm_map (List.mergeSort_perm (as.map f) leD)
  rw [eb, List.pairwise_map] at asc
  exact ⟨bs, pb, asc, eb⟩
/-- texts -/
def leT (a b : Str) : Bool := leD (.txt a) (.txt b)
theorem leT_eq (a b : Str) : leT a b = !decide (b.cps.toList < a.cps.toList) := by
  unfold leT leD
  rw [PySem.W.dataLe_eq]
  show (!PySem.W.dataLt (Dt.txt b).py (Dt.txt a).py) = _
  rw [show (Dt.txt b).py = .str b from rfl, show (Dt.txt a).py = .str a from rfl, PySem.W.dataLt_str]
theorem leT_anti {a b : Str} (h1 : leT a b = true) (h2 : leT b a = true) : a = b := by
  rw [leT_eq, Bool.not_eq_true', decide_eq_false_iff_not] at h1 h2
  refine PySem.W.str_of_cps (List.le_antisymm ?_ ?_)
  · exact List.not_lt.mp h1
  · exact List.not_lt.mp h2
/-- the same first part: the second one counts -/
theorem leD_second (d : Dt) (a b : Str) (al : PySem.W.alike d.py d.py = true) (ev : PyData.eqv d.py d.py = true) : leD (.tup [d, .txt a]) (.tup [d, .txt b]) = leT a b := by
  rw [leT_eq]
  unfold leD
  rw [PySem.W.dataLe_eq]
  show (!PySem.W.dataLt (Dt.tup [d, .txt b]).py (Dt.tup [d, .txt a]).py) = _
  rw [show (Dt.tup [d, .txt b]).py = .tuple [d.py, .str b] from rfl, show (Dt.tup [d, .txt a]).py = .tuple [d.py, .str a] from rfl, PySem.W.dataLt_pair al (by simp [PySem.W.alike]), if_pos ev, PySem.W.dataLt_str]
  by_cases e : PyData.eqv (.str b) (.str a) = true
  · rw [if_pos e]
    have e2 : b = a := by simpa [PyData.eqv] using e
    rw [e2]
    simp
  · rw [if_neg e]
/-- a list comprehension over the keys of a dict -/
theorem lc_k {d : Addr} {o : Obj} {kvs : List (Key × V)} {g : TG} {tt : TT} {te : TE} {vs : List Nat} {σ : L2.St} {H1 : Hp} {D : Addr} {Qd : Hp → Prop} (Pv : Nat → Hp → Prop) (h0 : Pv 0 (upd H1 D (.lst []))) (hl : ∀ i H, i ≤ kvs.length → Pv i H → H d = some (.frz o (.dK kvs)))
    (hs : ∀ i p H, kvs[i]? = some p → Pv i H → g (kV p.1) (wipe σ vs) H fun σ2 H2 => wipe σ2 vs = wipe σ vs ∧ tt σ2 H2 fun b H3 =>
      if b = true then te σ2 H3 fun y H4 => ∃ acc, H4 D = some (.lst acc) ∧ acc.length < sizeLine ∧ Pv (i + 1) (upd H4 D (.lst (acc ++ [y]))) else Pv (i + 1) H3) (hd : ∀ H, Pv kvs.length H → Qd H) :
    ∃ W : Nat → Nat → Hp → Prop, (∃ m, W 0 m (upd H1 D (.lst []))) ∧ ∀ i m H, W i m H →
      ((Itk d o kvs).stop i H ∧ Qd H) ∨ ((Itk d o kvs).go i H ∧ ∃ Nx : Hp → Prop, (∀ H', Nx H' → ∃ m', m' < m ∧ W (i + 1) m' H') ∧ ∀ x H', (Itk d o kvs).yld i H x H' → g x (wipe σ vs) H' fun σ2 H2 => wipe σ2 vs = wipe σ vs ∧ tt σ2 H2 fun b H3 =>
        if b = true then te σ2 H3 fun y H4 => ∃ acc, H4 D = some (.lst acc) ∧ acc.length < sizeLine ∧ Nx (upd H4 D (.lst (acc ++ [y]))) else Nx H3) := by
  refine ⟨fun i m H => m = kvs.length - i ∧ i ≤ kvs.length ∧ Pv i H, ⟨kvs.length, by simp, Nat.zero_le _, h0⟩, ?_⟩
  rintro i m H ⟨rfl, hi, p⟩
  have q := hl i H hi p
  by_cases hlt : i < kvs.length
  · refine .inr ⟨⟨q, hlt⟩, Pv (i + 1), fun H' p' => ⟨kvs.length - (i + 1), by omega, rfl, hlt, p'⟩, fun x H' y => ?_⟩
    obtain ⟨e, k, v, hz, rfl⟩ := y
    subst e
    exact hs i (k, v) _ hz p
  · have e : i = kvs.length := by omega
    subst e
    exact .inl ⟨⟨q, Nat.le_refl _⟩, hd H p⟩
/-- len(d) -/
def rLenN (P : Program) (w : World) (K : PySem.W.Frag) : List V → Hp → VK → Prop := fun vs H Q => ∃ (d : Addr) (kvs : List NKV), vs = [.ref d] ∧ NDR P w K H d kvs ∧ Q (.int kvs.length) H
theorem call_lenN {X : Cx} : CallR X (.builtin "len") (rLenN X.prog X.w X.K) := by
  intro pins s σ H vs us Q I r h
  obtain ⟨d, kvs, rfl, ⟨xs, e, ks, rfl⟩, q⟩ := h
  obtain rfl := Vals.ref1 r
  obtain ⟨z, hd, ys, rel, dd⟩ := nd_raw I e ks
  have hl : (plainX xs).length = ys.length := by rw [plainX_len]; exact Paired.length rel
  have hn := line63
  have hz : xs.length = ys.length := Paired.length rel
  refine PySem.call_len_dictH hd dd (by omega) ?_
  exact ⟨.int (plainX xs).length, H, I.tok _, ⟨_, by rw [hl]⟩, q⟩
end GT

/-! ## get with a default, setdefault, index of data, enumerate in a dict comprehension -/
namespace GT
open PySem PySem.Spec PyProof.Rows L2
section
variable {X : Cx} {pins : List (Addr × Obj)} {σ : L2.St} {H : Hp} {s : Shared} {d a : Addr} {k : NestedKey} {kvs : List NKV} {v z : V} {u r : Value} {A : Around} {E : Value → Shared → Prop} {xs : List (NestedKey × Addr × V)}
theorem nd_get2 {Q : Value → Shared → Prop} (hu : A.units + 9 < cLine) (I : Inv X pins σ H s) (g : NDR X.prog X.w X.K H d kvs) (hk : KyAt X.K H (.ref a) k) (rd : RelV z r) (h : ∀ w' s', Inv X pins σ H s' → RelV ((valV kvs k).getD z) w' → Q w' s') :
    wpAny (model X.prog X.w) A (call (.builtin "dict.get") [.ref d, .ref a, r]) Q E s := by
  obtain ⟨xs, e, ks, rfl⟩ := g
  obtain ⟨zz, hd, ys, rel, dd⟩ := nd_raw I e ks
  refine call_meetsIn PySem.F.slot_dict_get dd.typeIs PySem.F.entry_dict_get (PySem.F.args_dict_get_3 _ _ _) (meetsH_dict_get_default (nestedKind X.prog X.w) d a hd r) ⟨nd_room hu, k, ys, hk.is I, dd, h _ _ (I.tok _) ?_⟩
  exact (rel.val k).getD rd
theorem nd_setd {Q : Value → Shared → Prop} (hu : A.units + 9 < cLine) (I : Inv X pins σ H s) (e : H d = some (ndO X.prog X.w d xs)) (ks : KeysAt X.K H xs) (hk : KyAt X.K H (.ref a) k) (hl : xs.length < sizeLine) (rd : RelV z r)
    (h1 : ∀ v w' s', valV (plainX xs) k = some v → Inv X pins σ H s' → RelV v w' → Q w' s') (h2 : ∀ s', valV (plainX xs) k = none → Inv X pins σ (upd H d (ndO X.prog X.w d (putX xs k a z))) s' → Q r s') :
    wpAny (model X.prog X.w) A (call (.builtin "dict.setdefault") [.ref d, .ref a, r]) Q E s := by
  obtain ⟨zz, hd, ys, rel, dd⟩ := nd_raw I (.inl e) ks
  have hz : ys.length ≤ sizeLine := by rw [← Paired.length rel]; exact zz
  have hl2 : (putX xs k a z).length ≤ sizeLine := by have := putX_len xs k a z; omega
  have hv := rel.val k
  refine call_setdefault_heap (hsz := hz) (nd_room hu) (hk.is I) hd dd (fun p hp => ?_) fun hn h' dd' hs => h2 _ ?_ ?_
  · rw [hp] at hv
    cases q : valV (plainX xs) k with
    | none => rw [q] at hv; exact (show False from hv).elim
    | some v => rw [q] at hv; exact h1 v _ _ q (I.tok _) hv
  · rw [hn] at hv
    cases q : valV (plainX xs) k with
    | none => rfl
    | some v => rw [q] at hv; exact (show False from hv).elim
  · obtain ⟨q, es, ep, hq, h2, h3, h4, _, h5⟩ := dd'
    exact d_write I (by rw [e]; exact True.intro) hs ⟨q, hq⟩ (ndO_ok ⟨hl2, hd, _, rel.put k rd, q, es, ep, hq, h2, h3, h4, h5⟩)
theorem nd_base (I : Inv X pins σ H s) (g : NDR X.prog X.w X.K H d kvs) : s.TypeIs (.ref d) "dict" ∧ ∀ b, Value.ref d = .ref b → ∃ ob, s.heap.get? b = some ob ∧ ob.dict = none := by
  obtain ⟨xs, e, ks, rfl⟩ := g
  obtain ⟨z, hd, ys, rel, dd⟩ := nd_raw I e ks
  refine ⟨dd.typeIs, fun b q => ?_⟩
  cases q
  obtain ⟨ob, _, _, h1, h2, _⟩ := dd
  exact ⟨ob, h1, h2.2.1⟩
end
/-- d.get(y, z) -/
def tNGet2 (P : Program) (w : World) (K : PySem.W.Frag) (td ty tx : TE) : TE := fun σ H Q => td σ H fun x H1 => ∃ d kvs, x = .ref d ∧ NDR P w K H1 d kvs ∧ ty σ H1 fun y H2 => tx σ H2 fun z H3 => ∃ a kvs k, y = .ref a ∧ NDR P w K H3 d kvs ∧ KyAt K H3 (.ref a) k ∧ Q ((valV kvs k).getD z) H3
/-- d.setdefault(y, z) -/
def tNSetd (P : Program) (w : World) (K : PySem.W.Frag) (td ty tx : TE) : TE := fun σ H Q => td σ H fun x H1 => ∃ d kvs, x = .ref d ∧ NDR P w K H1 d kvs ∧ ty σ H1 fun y H2 => tx σ H2 fun z H3 => ∃ a kvs k, y = .ref a ∧ ND P w K H3 d kvs ∧ KyAt K H3 (.ref a) k ∧ kvs.length < sizeLine ∧
  (∀ v, valV kvs k = some v → Q v H3) ∧ (valV kvs k = none → ∀ H4, ND P w K H4 d (putK kvs k z) → Stp [d] H3 H4 → Q z H4)
section
variable {X : Cx} {o e f : Expr} {td ty tx : TE} {apos cpos : Pos} {P : Program} {w : World} {K : PySem.W.Frag}
theorem pe_nget2K {k : Nat} (eP : X.prog = P) (ew : X.w = w) (eK : X.K = K) (hr : Room k X.A) (ho : PE X o td) (he : PE X e ty) (hf : PE X f tx) (m : M2 X o "get" apos e f cpos) : PE X (.Call (.Attribute o "get" apos) [e, f] [] cpos) (tNGet2 P w K td ty tx) := by
  subst eP ew eK
  refine ⟨fun pins s σ H Q I h => ?_⟩
  refine wpAny_Call_method m.base m.few m.line PySem.F.plainAttrs_dict PySem.F.slot_dict_get PySem.F.type_dict_get (thn (ho.run pins s σ H _ I h) fun u s1 ⟨x, H1, I1, rx, d, kvs, ex, g, q1⟩ => ?_)
  subst ex
  obtain rfl : u = Value.ref d := rx
  obtain ⟨t1, t2⟩ := nd_base I1 g
  refine ⟨t1, t2, ?_⟩
  rw [m.trees]
  refine Calls.callWith_builtin rfl (Calls.evalArgs_plain (Calls.spliced_cons (thn (he.run pins s1 σ H1 _ I1 q1) fun iv s2 ⟨y, H2, I2, ry, q2⟩ =>
    Calls.spliced_cons (thn (hf.run pins s2 σ H2 _ I2 q2) fun fv s3 ⟨z, H3, I3, rz, a, kv, k, ey, g3, hk, q3⟩ => Calls.spliced_nil ?_))))
  subst ey
  obtain rfl : iv = Value.ref a := ry
  exact nd_get2 (hu9 hr) I3 g3 hk rz fun w' s4 I4 rw' => ⟨_, H3, I4, rw', q3⟩
theorem pe_nsetdK {k : Nat} (eP : X.prog = P) (ew : X.w = w) (eK : X.K = K) (hr : Room k X.A) (ho : PE X o td) (he : PE X e ty) (hf : PE X f tx) (m : M2 X o "setdefault" apos e f cpos) : PE X (.Call (.Attribute o "setdefault" apos) [e, f] [] cpos) (tNSetd P w K td ty tx) := by
  subst eP ew eK
  refine ⟨fun pins s σ H Q I h => ?_⟩
  refine wpAny_Call_method m.base m.few m.line PySem.F.plainAttrs_dict PySem.F.slot_dict_setdefault PySem.F.type_dict_setdefault (thn (ho.run pins s σ H _ I h) fun u s1 ⟨x, H1, I1, rx, d, kvs, ex, g, q1⟩ => ?_)
  subst ex
  obtain rfl : u = Value.ref d := rx
  obtain ⟨t1, t2⟩ := nd_base I1 g
  refine ⟨t1, t2, ?_⟩
  rw [m.trees]
  refine Calls.callWith_builtin rfl (Calls.evalArgs_plain (Calls.spliced_cons (thn (he.run pins s1 σ H1 _ I1 q1) fun iv s2 ⟨y, H2, I2, ry, q2⟩ =>
    Calls.spliced_cons (thn (hf.run pins s2 σ H2 _ I2 q2) fun fv s3 ⟨z, H3, I3, rz, a, kv, k, ey, ⟨xs, e3, ks, exs⟩, hk, hl, q3, q4⟩ => Calls.spliced_nil ?_))))
  subst ey exs
  obtain rfl : iv = Value.ref a := ry
  rw [plainX_len] at hl
  refine nd_setd (hu9 hr) I3 e3 ks hk hl rz (fun v w' s4 hv I4 rw' => ⟨v, H3, I4, rw', q3 v hv⟩) fun s4 hn I4 => ?_
  have st : Stp [d] H3 (upd H3 d (ndO X.prog X.w d (putX xs k a z))) := .wr (by simp) e3 fun _ z => nomatch z
  exact ⟨z, _, I4, rz, q4 hn _ ⟨_, upd_same, (ks.put hk).stp st, plainX_put xs k a z⟩ st⟩
end
section
variable {σ : L2.St} {H : Hp} {Q : VK} {td ty tx : TE} {ta : TA} {R : It → Hp → Prop} {P : Program} {w : World} {K : PySem.W.Frag}
theorem i_NGet2 (q : td σ H fun x H1 => ∃ d kvs, x = .ref d ∧ NDR P w K H1 d kvs ∧ ty σ H1 fun y H2 => tx σ H2 fun z H3 => ∃ a kvs k, y = .ref a ∧ NDR P w K H3 d kvs ∧ KyAt K H3 (.ref a) k ∧ Q ((valV kvs k).getD z) H3) : tNGet2 P w K td ty tx σ H Q := q
theorem i_NSetd (q : td σ H fun x H1 => ∃ d kvs, x = .ref d ∧ NDR P w K H1 d kvs ∧ ty σ H1 fun y H2 => tx σ H2 fun z H3 => ∃ a kvs k, y = .ref a ∧ ND P w K H3 d kvs ∧ KyAt K H3 (.ref a) k ∧ kvs.length < sizeLine ∧
  (∀ v, valV kvs k = some v → Q v H3) ∧ (valV kvs k = none → ∀ H4, ND P w K H4 d (putK kvs k z) → Stp [d] H3 H4 → Q z H4)) : tNSetd P w K td ty tx σ H Q := q
theorem i_Enum (q : ta σ H fun vs H1 => ∃ a xs, vs = [.ref a] ∧ SqL K H1 a xs ∧ R (Ite K a) H1) : iEnum K ta σ H R := q
end
/-! ### list.index of data -/
section
variable {X : Cx}
def rIndexT (K : PySem.W.Frag) : V → List V → Hp → VK → Prop := fun x xs H Q => ∃ (a : Addr) (y : V) (d : Dt) (ds : List Dt) (j : Nat) (z : Dt), x = V.ref a ∧ xs = [y] ∧ DtAt K H (V.ref a) (.lst ds) ∧ DtAt K H y d ∧ d.depth ≤ 60 ∧ Dt.depthAll ds ≤ 60 ∧
  ds[j]? = some z ∧ Dt.beq z d = true ∧ (∀ (m : Nat) (z' : Dt), m < j → ds[m]? = some z' → Dt.beq z' d = false) ∧ Q (.int (j : Nat)) H
theorem DtAll.get {h : Heap} : ∀ {ds : List Dt} {vs : List Value} {m : Nat} {v : Value}, DtAll h ds vs → vs[m]? = some v → ∃ d, ds[m]? = some d ∧ DtIs h d v
  | _, _, _, _, .nil, e => by simp at e
  | _, _, 0, _, .cons r _, e => by simp at e; subst e; exact ⟨_, rfl, r⟩
  | _, _, m + 1, _, .cons _ t, e => by
    obtain ⟨d, h1, h2⟩ := DtAll.get (m := m) t (by simpa using e)
    exact ⟨d, by simpa using h1, h2⟩
theorem DtAll.len {h : Heap} : ∀ {ds : List Dt} {vs : List Value}, DtAll h ds vs → ds.length = vs.length
  | _, _, .nil => rfl
  | _, _, .cons _ t => by rw [List.length_cons, List.length_cons, DtAll.len t]
theorem mt_indexT (hu : X.A.units + 65 < cLine) : MtR X "list.index" (rIndexT X.K) := by
  intro pins s σ H x xs v us Q I rx rxs h
  obtain ⟨a, y, d, ds, j, z, rfl, rfl, hl, hy, hd1, hd2, hz, hzj, hno, q⟩ := h
  cases rx
  cases rxs with
  | cons ry rt =>
    rename_i uy ut
    cases rt
    have r1 := DtAt.is I d y uy hy ry
    cases hl with
    | lst hs ha =>
      obtain ⟨its, rv, ⟨⟨cls, dd, data, sls⟩, n, ho, hc, hdn, hdt⟩, hlen⟩ := I.list hs
      simp only at hc hdt
      subst hc hdt
      have h4 := DtsAt.is I ds _ its ha rv
      have hn := h4.len
      have hvl := rv.length
      have hsl := sizeLine_eq
      obtain ⟨hjd, _⟩ := List.getElem?_eq_some_iff.mp hz
      have hjl : j < its.length := by omega
      have hj : j < its.toArray.size := by simpa using hjl
      have at_ : ∀ (m : Nat) (hm : m < its.toArray.size) (z' : Dt), ds[m]? = some z' → datOf s.heap its.toArray[m] = z' := by
        intro m hm z' hz'
        have hml : m < its.length := by simpa using hm
        obtain ⟨d', h5, h6⟩ := h4.get (List.getElem?_eq_getElem hml)
        rw [hz'] at h5
        obtain rfl := Option.some.inj h5
        exact datOf_eq (by simpa using h6)
      refine call_meets PySem.F.slot_list_index ⟨_, ho, rfl⟩ PySem.F.entry_list_index (PySem.F.args_list_index_2 _ _)
        (SeqAt.list_indexAt a its.toArray n dd sls uy (fun u => Dt.beq (datOf s.heap u) d) j hj (by omega) ?_ ?_) ⟨ho, ?_, ?_⟩
      · show Dt.beq (datOf s.heap its.toArray[j]) d = true
        rw [at_ j hj z hz]
        exact hzj
      · intro m hm hmj
        have hmd : m < ds.length := by omega
        have hz' : ds[m]? = some ds[m] := List.getElem?_eq_getElem hmd
        show Dt.beq (datOf s.heap its.toArray[m]) d = false
        rw [at_ m hm _ hz']
        exact hno m _ hmj hz'
      · intro w hw
        obtain ⟨c, hc, rc⟩ := DtAll.mem h4 (by simpa using hw)
        show SeqAt.EqAt _ _ _ _ (Dt.beq (datOf s.heap w) d)
        rw [datOf_eq rc]
        have hc2 := Dt.depth_mem hc
        exact eqAt_dt c d _ s _ _ rc r1 (by first | (rw [Around.in1_units, Around.in1_units]; omega) | (rw [Around.in1_units]; omega) | omega)
      · exact ⟨.int (j : Nat), H, I.tok _, ⟨_, rfl⟩, q⟩
end
/-! ### a dict comprehension over enumerate(list) -/
theorem dn_enum {K : PySem.W.Frag} {P : Program} {w : World} {g : TG} {tt : TT} {tk tv : TE} {vs : List Nat} {σ : L2.St} {a : Addr} {xs : List V} {H2 : Hp} {D : Addr} {Qd : Hp → Prop} (Pv : Nat → Hp → Prop) (h0 : Pv 0 H2) (hl : ∀ i H, i ≤ xs.length → Pv i H → SqL K H a xs)
    (hs : ∀ i x H T, xs[i]? = some x → Pv i H → H T = none → g (.ref T) (wipe σ vs) (upd H T (.tup [.int (i : Nat), x])) fun σ2 H2 => wipe σ2 vs = wipe σ vs ∧ tt σ2 H2 fun b H3 =>
      if b = true then tk σ2 H3 fun y H4 => tv σ2 H4 fun z H5 => ∃ a kvs k, y = .ref a ∧ ND P w K H5 D kvs ∧ KyAt K H5 (.ref a) k ∧ kvs.length < sizeLine ∧ ∀ H6, ND P w K H6 D (putK kvs k z) → Stp [D] H5 H6 → Pv (i + 1) H6 else Pv (i + 1) H3) (hd : ∀ H, Pv xs.length H → Qd H) :
    ∃ W : Nat → Nat → Hp → Prop, (∃ m, W 0 m H2) ∧ ∀ i m H, W i m H →
      ((Ite K a).stop i H ∧ Qd H) ∨ ((Ite K a).go i H ∧ ∃ Nx : Hp → Prop, (∀ H', Nx H' → ∃ m', m' < m ∧ W (i + 1) m' H') ∧ ∀ x H', (Ite K a).yld i H x H' → g x (wipe σ vs) H' fun σ2 H2 => wipe σ2 vs = wipe σ vs ∧ tt σ2 H2 fun b H3 =>
        if b = true then tk σ2 H3 fun y H4 => tv σ2 H4 fun z H5 => ∃ a kvs k, y = .ref a ∧ ND P w K H5 D kvs ∧ KyAt K H5 (.ref a) k ∧ kvs.length < sizeLine ∧ ∀ H6, ND P w K H6 D (putK kvs k z) → Stp [D] H5 H6 → Nx H6 else Nx H3) := by
  refine ⟨fun i m H => m + i = xs.length ∧ Pv i H, ⟨xs.length, rfl, h0⟩, fun i m H ⟨em, p⟩ => ?_⟩
  have at_ := hl i H (by omega) p
  match m, em with
  | 0, em =>
    have e : i = xs.length := by omega
    subst e
    exact .inl ⟨⟨xs, at_, Nat.le_refl _⟩, hd H p⟩
  | m + 1, em =>
    have lt : i < xs.length := by omega
    refine .inr ⟨⟨xs, xs[i], at_, List.getElem?_eq_getElem lt⟩, Pv (i + 1), fun H' p' => ⟨m, Nat.lt_succ_self m, by omega, p'⟩, fun x H' ⟨T, z, e, n, eh, hz⟩ => ?_⟩
    subst e eh
    exact hs i z _ T (hz xs at_) p n
theorem hu65 {A : Around} {k : Nat} (hr : Room k A) : A.units + 65 < cLine := by have := hr.un; omega
section
variable {X : Cx} {K : PySem.W.Frag}
theorem mt_indexTK (eK : X.K = K) (hu : X.A.units + 65 < cLine) : MtR X "list.index" (rIndexT K) := by subst eK; exact mt_indexT hu
variable {o e : Expr} {es : List Expr} {to : TE} {t : TA} {name : Str} {apos cpos : Pos} {T id : String} {r : V → List V → Hp → VK → Prop}
theorem pe_bmK (eK : X.K = K) (pa : PlainAttrs T) (slot : Slot T name id) (hty : typeOf (.builtin id) = pure (.type "method_descriptor")) (hm : MtR X id r) (ho : PE X o to) (ha : PA X (e :: es) t)
    (hbase : attributeBase o name X.env (eval o X.env) = eval o X.env := by rfl)
    (hfew : ((backTo cpos (starEach (e :: es) X.env)).all (fun x => !x.1) && (backToKw cpos (keywordEach [] X.env)).all (fun x => x.1.isSome)
      && decide ((e :: es).length + ([] : List Keyword).length + (if ([] : List Keyword).isEmpty then 0 else 1) < 30)) = true := by rfl)
    (hline : (apos.endLine == cpos.line) = true := by rfl) (hs : starEach (e :: es) X.env = (false, eval e X.env) :: starEach es X.env := by rfl) (hplain : (backTo cpos (starEach es X.env)).any (·.1) = false := by rfl) :
    PE X (.Call (.Attribute o name apos) (e :: es) [] cpos) (tBM K T r to t) := by
  subst eK; exact pe_bm pa slot hty hm ho ha hbase hfew hline hs hplain
end
section
variable {P : Program} {w : World} {K : PySem.W.Frag} {H H1 : Hp} {M : List Addr} {d : Addr} {kvs : List NKV}
theorem NDR.stp' (h : NDR P w K H d kvs) (s : Stp M H H1) (n : d ∉ M) : NDR P w K H1 d kvs :=
  let ⟨xs, e, k, q⟩ := h
  ⟨xs, e.elim (fun e => .inl (s.keep _ _ e n)) (fun ⟨o, e⟩ => .inr ⟨o, s.keep _ _ e n⟩), k.stp s, q⟩
end
end GT

/-! ## statements that are never reached; a sign so many times -/
namespace GT
open PySem PySem.Spec PyProof.Rows L2
section
variable {X : Cx}
/-- of a statement that is never reached nothing is asked -/
def tNever : TS := fun _ _ _ => False
theorem ps_never {st : Stmt} : PS X st tNever := ⟨fun pins s σ H D I h => h.elim⟩
def rMulS : R2 := fun x y H Q => ∃ (z : Str) (n : Int), x = .str z ∧ y = .int n ∧ z.length = 1 ∧ 0 ≤ n ∧ n ≤ 1000 ∧ Q (.str (Txt.mul z n)) H
theorem op_mul_str : OpR X (binaryOp .Mult) rMulS := by
  rintro pins s σ H x y u v Q I rx ry ⟨z, n, rfl, rfl, hz, h0, h1, q⟩
  obtain ⟨t, rfl⟩ := (show ∃ t, u = Value.str z t from rx)
  obtain ⟨t2, rfl⟩ := (show ∃ t, v = Value.int n t from ry)
  refine PySem.SB.mul ⟨?_, fun a b => ?_, fun a b => ?_⟩ fun t' k => ⟨.str _, H, I.tok _, ⟨t', rfl⟩, q⟩
  · simp; omega
  · rw [hz]
    have h2 : (1 : Int) ≤ (2 ^ 63 - 1) / n := by
      rw [Int.le_ediv_iff_mul_le (by omega)]; omega
    show ¬ ((1 : Nat) : Int) > (2 ^ 63 - 1) / n
    omega
  · rw [hz]
    have h3 : n.toNat ≤ 1000 := by omega
    have h4 := sizeLine_eq
    unfold PySem.Builtin.Str.tooLong
    rw [decide_eq_false_iff_not, h4]
    omega
end
section
variable {σ : L2.St} {H : Hp} {Q : VK} {te : TE} {R : It → Hp → Prop}
theorem i_Str (q : te σ H fun v H1 => ∃ x, v = .str x ∧ R (Its x) H1) : iStr te σ H R := q
end
end GT

/-! ## set(list of ints) -/
namespace GT
open PySem PySem.Spec PyProof.Rows L2
section
variable {P : Program} {w : World} {A : Around} {E : Value → Shared → Prop} {s : Shared}
/-- the set is filled: what stood before stands -/
def Filled (w : World) (s : Shared) (ns : List Int) (t : Shared) : Prop :=
  ∃ (h2 : Heap) (t2 m : Nat), t = { s with heap := h2, toks := t2 } ∧ SetR w h2 s.heap.objs.size (fun j => decide (j ∈ ns)) m ∧ m ≤ ns.length ∧ ∀ b o, s.heap.get? b = some o → h2.get? b = some o
theorem call_set_ints {l : Addr} {xs : Array Value} {ns : List Int} {Q : Value → Shared → Prop} (nh : A.handled = none) (hl : s.heap.IsList l xs) (hx : IntsAre xs.toList ns) (lim : ns.length + 1 < scanBound)
    (fin : ∀ t, Filled w s ns t → Q (.ref s.heap.objs.size) t) : wpAny (model P w) A (call (.type "set") [.ref l]) Q E s := by
  have size_eq : xs.size = ns.length := by rw [← Array.length_toList]; exact IntsAre.length hx
  obtain ⟨_, _, order⟩ := F.called_set.mro
  have is_made := F.called_set.made
  have is_sub := F.called_set.sub
  have not_type := F.called_set.notType
  have creates := F.called_set.canCreate
  have checked := F.typeCall_set_1 (.ref l)
  refine wpAny_call (codeAny_of_tree (wpAny_pure ⟨Code.quiet_builtin _ (by decide +kernel), codeAny_builtin F.entry_type_call ?_⟩))
  rw [Around.under_plain (weight_type_call_type "set" [.ref l] []) rfl]
  repeat (any_goals (first | assumption | wp_step))
  generalize hN : ({ cls := .type "set", dict := none, data := .set #[] 0 (.fresh 0 0 (!w.params.followText "set-order")) } : Obj) = N
  have ncls : N.cls = .type "set" := by rw [← hN]
  refine codeAny_mono (code_set_led1 (.ref l) (E := E) (Q₁ := fun o t => o = .ref s.heap.objs.size ∧ t = { s with heap := s.heap.push N }) (by rw [hN]; exact ⟨rfl, rfl⟩)) fun r t hr => ?_
  rcases r with _ | f
  · exact hr
  rcases f with o | _ | _ | _
  rotate_left
  all_goals try exact hr.elim
  obtain ⟨rfl, rfl⟩ := hr
  have at_new : (s.heap.push N).get? s.heap.objs.size = some N := Heap.get?_push_size _ (by rw [← hN]; rfl)
  have kind : Shared.TypeIs { s with heap := s.heap.push N } (.ref s.heap.objs.size) "set" := ⟨N, at_new, ncls⟩
  have init_at := F.called_set.init.lookup
  have init_bound := F.called_set.init.bind (.ref s.heap.objs.size)
  repeat (any_goals (first | assumption | wp_step))
  refine codeAny_mono (codeAny_call_builtin (R := wants (fun r t => r = .none ∧ Filled w s ns t) E) F.called_set.init.plain F.entry_set_init (check_set_init_1 kind ?_)) fun r t hr => ?_
  · obtain ⟨⟨c, d, dt, sl⟩, ol, hc, n, hd⟩ := hl
    obtain rfl : c = .type "list" := hc
    obtain rfl : dt = .seq xs n := hd
    have l_old := Heap.lt_size ol
    have ol2 : (s.heap.push N).get? l = some { cls := .type "list", dict := d, data := .seq xs n, slots := sl } := Heap.get?_push_of_some _ ol
    have fact1 := F.sub_list_set
    have fact2 := F.sub_list_frozenset
    have fact3 : (Value.type "list" == Value.type "dict") = false := by decide
    have is_l : (s.heap.push N).IsList l xs := ⟨_, ol2, rfl, n, rfl⟩
    have grown : (s.heap.push N).objs.size = s.heap.objs.size + 1 := Heap.size_push ..
    have apart : l ≠ (s.heap.push N).objs.size := by rw [grown]; exact Nat.ne_of_lt (Nat.lt_succ_of_lt l_old)
    have apart2 : s.heap.objs.size ∉ [(s.heap.push N).objs.size, l] := by
      rw [grown]
      intro z
      rcases List.mem_cons.mp z with z | z
      · exact Nat.ne_of_lt (Nat.lt_succ_self _) z
      · exact Nat.ne_of_gt l_old (List.mem_singleton.mp z)
    subst hN
    unfold Builtin.«set.__init__» noKeywords Builtin.Frozenset.updateFrom
    generalize hPI : pyIter = PI
    wp_walk
    subst hPI
    refine wpAny_pyIter_list is_l ?_
    refine wpAny_bind (wpAny_runValue ?_)
    have out : A.in1.in1.in1.handled = none := by simp [nh]
    refine set_update_ints ((Walks.list out _ l apart xs).toS) s.heap.objs.size apart2 ns size_eq lim (fun i v hv => ?_) xs.size 0 _ (Nat.sub_zero _) (Nat.zero_le _) ⟨⟨_, Heap.get?_push_size _ rfl, rfl, rfl⟩, is_l.push _⟩ ⟨0, Nat.le_refl 0, ?_⟩ fun t m mv hm R => ?_
    · have hi : i < ns.length := by rw [← size_eq]; exact (Array.getElem?_eq_some_iff.mp hv).1
      obtain ⟨k, e⟩ := IntsAre.int_at hx i v (by rw [Array.getElem?_toList]; exact hv)
      refine ⟨ns[i], k, List.getElem?_eq_getElem hi, ?_⟩
      rw [e]
      simp [hi]
    · exact setR_new_at (Heap.get?_push_of_some _ at_new)
    · obtain ⟨h2, g2, d2, t2, os2⟩ := t
      obtain rfl : g2 = s.gens := mv.gens
      obtain rfl : d2 = s.drawn := mv.drawn
      obtain rfl : os2 = s.os := mv.os
      refine wpAny_pure (show wpAny _ _ (ret Value.none) _ _ _ from wpAny_pure ⟨rfl, h2, t2, m, rfl, R, by omega, fun b o e => ?_⟩)
      have old := Heap.lt_size e
      exact mv.heap b o (fun z => (List.mem_cons.mp z).elim (fun z => Nat.ne_of_lt old z) fun z => Nat.ne_of_lt (Nat.lt_succ_of_lt old) ((List.mem_singleton.mp z).trans grown)) (Heap.get?_push_of_some _ (Heap.get?_push_of_some _ e))
  · rcases r with _ | f
    · exact hr
    rcases f with o | _ | _ | _
    rotate_left
    all_goals try exact hr.elim
    obtain ⟨rfl, hf⟩ := hr
    repeat (any_goals (first | assumption | wp_step))
    exact fin _ hf
end
end GT

namespace GT
open PySem PySem.Spec PyProof.Rows L2
/-! ### ascending lists of ints -/
theorem asc_eq : ∀ {l m : List Int}, l.Pairwise (· < ·) → m.Pairwise (· < ·) → (∀ k, k ∈ l ↔ k ∈ m) → l = m
  | [], [], _, _, _ => rfl
  | [], b :: m, _, _, h => absurd ((h b).mpr List.mem_cons_self) (by simp)
  | a :: l, [], _, _, h => absurd ((h a).mp List.mem_cons_self) (by simp)
  | a :: l, b :: m, hl, hm, h => by
    obtain ⟨l1, l2⟩ := List.pairwise_cons.mp hl
    obtain ⟨m1, m2⟩ := List.pairwise_cons.mp hm
    have e : a = b := by
      rcases List.mem_cons.mp ((h a).mp List.mem_cons_self) with z | z
      · exact z
      · rcases List.mem_cons.mp ((h b).mpr List.mem_cons_self) with y | y
        · exact y.symm
        · have := m1 a z
          have := l1 b y
          omega
    subst e
    rw [asc_eq l2 m2 fun k => ?_]
    constructor
    · intro hk
      rcases List.mem_cons.mp ((h k).mp (List.mem_cons_of_mem _ hk)) with z | z
      · have := l1 k hk; omega
      · exact z
    · intro hk
      rcases List.mem_cons.mp ((h k).mpr (List.mem_cons_of_mem _ hk)) with z | z
      · have := m1 k hk; omega
      · exact z
def putA (k : Int) : List Int → List Int
  | [] => [k]
  | a :: l => if k < a then k :: a :: l else if k = a then a :: l else a :: putA k l
theorem putA_mem (k : Int) : ∀ (l : List Int) (x : Int), x ∈ putA k l ↔ x = k ∨ x ∈ l
  | [], x => by simp [putA]
  | a :: l, x => by
    unfold putA
    by_cases h1 : k < a
    · rw [if_pos h1]; simp
    · rw [if_neg h1]
      by_cases h2 : k = a
      · rw [if_pos h2]; simp [h2]
      · rw [if_neg h2, List.mem_cons, putA_mem k l x, List.mem_cons]
        constructor
        · rintro (z | z | z)
          · exact .inr (.inl z)
          · exact .inl z
          · exact .inr (.inr z)
        · rintro (z | z | z)
          · exact .inr (.inl z)
          · exact .inl z
          · exact .inr (.inr z)
theorem putA_asc (k : Int) : ∀ (l : List Int), l.Pairwise (· < ·) → (putA k l).Pairwise (· < ·)
  | [], _ => by simp [putA]
  | a :: l, h => by
    obtain ⟨h1, h2⟩ := List.pairwise_cons.mp h
    unfold putA
    by_cases c1 : k < a
    · rw [if_pos c1]
      refine List.pairwise_cons.mpr ⟨fun x hx => ?_, h⟩
      rcases List.mem_cons.mp hx with z | z
      · omega
      · have := h1 x z; omega
    · rw [if_neg c1]
      by_cases c2 : k = a
      · rw [if_pos c2]; exact h
      · rw [if_neg c2]
        refine List.pairwise_cons.mpr ⟨fun x hx => ?_, putA_asc k l h2⟩
        rcases (putA_mem k l x).mp hx with z | z
        · omega
        · exact h1 x z
/-- the members of a list, ascending, each once -/
def sset : List Int → List Int
  | [] => []
  | k :: l => putA k (sset l)
theorem sset_mem : ∀ (l : List Int) (x : Int), x ∈ sset l ↔ x ∈ l
  | [], x => by simp [sset]
  | k :: l, x => by rw [sset, putA_mem, sset_mem l x, List.mem_cons]
theorem sset_asc : ∀ l : List Int, (sset l).Pairwise (· < ·)
  | [] => by simp [sset]
  | k :: l => putA_asc k _ (sset_asc l)
theorem sset_of {l m : List Int} (h : m.Pairwise (· < ·)) (e : ∀ k, k ∈ m ↔ k ∈ l) : m = sset l := asc_eq h (sset_asc l) fun k => (e k).trans (sset_mem l k).symm
theorem sset_cong {l m : List Int} (e : ∀ k, k ∈ l ↔ k ∈ m) : sset l = sset m := sset_of (sset_asc l) fun k => (sset_mem l k).trans (e k)
theorem asc_nodup {l : List Int} (h : l.Pairwise (· < ·)) : l.Nodup := h.imp fun z => Int.ne_of_lt z
theorem sset_nodup (l : List Int) : (sset l).Nodup := asc_nodup (sset_asc l)
theorem sset_le : ∀ l : List Int, (sset l).length ≤ l.length
  | [] => by simp [sset]
  | k :: l => by
    have h := sset_le l
    have : ∀ m : List Int, (putA k m).length ≤ m.length + 1 := by
      intro m
      induction m with
      | nil => simp [putA]
      | cons a m ih =>
        unfold putA
        by_cases c1 : k < a
        · rw [if_pos c1]; simp
        · rw [if_neg c1]
          by_cases c2 : k = a
          · rw [if_pos c2]; simp
          · rw [if_neg c2, List.length_cons, List.length_cons]; omega
    have := this (sset l)
    rw [sset, List.length_cons]; omega
section
variable {X : Cx} {K : PySem.W.Frag}
theorem ints_vals : ∀ {ns : List Int} {us : List Value}, Vals (ns.map V.int) us → IntsAre us ns
  | [], _, .nil => .nil
  | n :: ns, _, .cons r t => by
    obtain ⟨k, rfl⟩ := r
    exact .cons n k (ints_vals t)
/-- set(xs): xs a list of ints -/
def rSetI (K : PySem.W.Frag) (w : World) : List V → Hp → VK → Prop := fun vs H Q => ∃ (l : Addr) (ns : List Int), vs = [.ref l] ∧ SqL K H l (ns.map V.int) ∧ ns.length ≤ 4000 ∧
  ∀ (p : Addr) (m : Nat), H p = none → m ≤ ns.length → Q (.ref p) (upd H p (SetO w p (fun j => decide (j ∈ ns)) m))
theorem cr_setI (hc : X.calm = true) : CallR X (.type "set") (rSetI X.K X.w) := by
  intro pins s σ H vs us Q I r h
  obtain ⟨l, ns, rfl, hs, hl, q⟩ := h
  obtain rfl := Vals.ref1 r
  obtain ⟨its, rv, pl, hz⟩ := I.list hs
  refine call_set_ints (ns := ns) (I.ok.hd hc) pl.isList (by simpa using ints_vals rv) (by unfold scanBound; omega) fun t ⟨h2, t2, m, e, R, hm, hk⟩ => ?_
  subst e
  exact ⟨.ref _, upd H s.heap.objs.size (SetO X.w s.heap.objs.size (fun j => decide (j ∈ ns)) m), I.laid (t' := t2) hk (Nat.le_refl _) (setO_new R), rfl, q _ m (I.hok.fresh (Nat.le_refl _)) hm⟩
/-- len within a comprehension -/
theorem call_len_seqK (e : X.K = K) : CallR X (.builtin "len") (fun xs H Q => ∃ p ys, xs = [V.ref p] ∧ (SqL K H p ys ∨ SqT K H p ys) ∧ Q (V.int (ys.length : Nat)) H) := by subst e; exact call_len_seq
/-- isinstance within a comprehension -/
theorem call_isiK (e : X.K = K) : CallR X (.builtin "isinstance") (rIsi K) := by subst e; exact call_isi
/-- sorted(set(xs)) -/
theorem sset_i {K : PySem.W.Frag} {w : World} {H : Hp} {Q : VK} {l : Addr} {ns : List Int} (h : SqL K H l (ns.map V.int)) (b : ns.length < 64) (q : ∀ (p : Addr) (H1 : Hp), H p = none → H1 p = some (.lst ((sset ns).map V.int)) → Stp [] H H1 → Q (.ref p) H1) :
    rSetI K w [.ref l] H fun v H' => rSortedSet w [v] H' Q := by
  refine ⟨l, ns, rfl, h, by omega, fun p m hp hm => ⟨p, _, m, rfl, upd_same, by omega, fun os p2 h1 h2 h3 h4 => ?_⟩⟩
  have e : os = sset ns := sset_of h1 fun k => by rw [h2]; simp
  have s1 : Stp [] H (upd H p (SetO w p (fun j => decide (j ∈ ns)) m)) := .new hp
  subst e
  exact q p2 _ (s1.free h4 (by simp)) upd_same (s1.trans (.new h4))
theorem sset_t {K : PySem.W.Frag} {w : World} {σ : L2.St} {H : Hp} {Q : VK} {l : Addr} {ns : List Int} (h : SqL K H l (ns.map V.int)) (b : ns.length < 64) (q : ∀ (p : Addr) (H1 : Hp), H p = none → H1 p = some (.lst ((sset ns).map V.int)) → Stp [] H H1 → Q (.ref p) H1) :
    rSetI K w [.ref l] H fun x H1 => tNil σ H1 fun xs H2 => rSortedSet w (x :: xs) H2 Q := sset_i h b q
/-- sorted(d): the keys of d are ints -/
def rSortDI : List V → Hp → VK → Prop := fun vs H Q => ∃ (d : Addr) (kvs : List (Key × V)) (ns : List Int), vs = [.ref d] ∧ H d = some (.dK kvs) ∧ kvs.map (·.1) = ns.map Sum.inl ∧ ns.length < 64 ∧ ns.Nodup ∧
  ∀ p : Addr, H p = none → Q (.ref p) (upd H p (.lst ((sset ns).map V.int)))
theorem sorted_sset {l ns : List Int} (p : l.Perm ns) (o : l.Pairwise (· ≤ ·)) (nd : ns.Nodup) : l = sset ns := by
  refine sset_of ?_ fun k => p.mem_iff
  have nd' := p.nodup_iff.mpr nd
  exact (o.and nd').imp fun ⟨a, b⟩ => by omega
theorem cr_sortDI (hc : X.calm = true) : CallR X (.builtin "sorted") rSortDI := by
  intro pins s σ H vs us Q I r h
  obtain ⟨d, kvs, ns, rfl, hd, hk, h64, nd, q⟩ := h
  obtain rfl := Vals.ref1 r
  obtain ⟨z, lo, es, rel, at0⟩ := dk_of I.hok hd
  obtain ⟨ep, at1⟩ := at0.dictAt
  have l1 : kvs.length = es.length := Paired.length rel
  have l2 : kvs.length = ns.length := by have := congrArg List.length hk; simpa using this
  refine Calls.call_function_entry kind_sorted plain_sorted entry_sorted (args_sorted1 _) ?_
  unfold Builtin.«sorted»
  refine wpAny_bind (m := checkCount "sorted" 1 1 _) (wpAny_pure ?_)
  refine wpAny_bind (PySem.W.kdu_collect (A := X.A.in1) (PySem.W.kdl_dict (knd := mixKind X.prog X.w) (kvs := es) (ep := ep) lo) (I.ok.hd hc) at1 (by omega) fun h1 tk acc keeps items => ?_)
  have l3 : acc.toList.length = ns.length := by rw [Array.length_toList, items.1]; omega
  have vs_ : Vals (ns.map V.int) acc.toList := by
    refine vals_of_at (by rw [List.length_map, l3]) fun j x u e1 e2 => ?_
    obtain ⟨k, y, e3, e4⟩ := items.2 j u (by rw [← Array.getElem?_toList]; exact e2)
    have e5 : (kvs.map (·.1))[j]? = some k := by rw [KV.keys rel, List.getElem?_map, e3]; rfl
    rw [hk, List.getElem?_map] at e5
    obtain ⟨n, e6, rfl⟩ := Option.map_eq_some_iff.mp e5
    rw [List.getElem?_map, e6] at e1
    cases e1
    exact @keyIs_rel (Sum.inl n) u e4
  have iv := ints_vals vs_
  refine wpAny_bind (wpAny_newList ?_ (by rw [l3, sizeLine_eq]; omega))
  have ho : (h1.push (seqObj "list" acc.toList.toArray 0)).get? h1.objs.size = some (seqObj "list" acc.toList.toArray 0) := Heap.get?_push_size _ rfl
  refine wpAny_bind (wpAny_holding (wpAny_call_entry slot_list_sort ⟨_, ho, rfl⟩ entry_list_sort (list_sort_tree ho iv (by rw [l3]; exact h64) fun out os o1 o2 o3 => ⟨_, rfl, ?_⟩) (args_list_sort _)))
  obtain ⟨c, hc'⟩ := sortedHeap_at (vs := acc.toList) (out := out) ho
  obtain rfl := sorted_sset o2 o3 nd
  have lo2 : ((sset ns).map V.int).length ≤ sizeLine := by rw [List.length_map, o2.length_eq]; exact small64 h64
  have I1 : Inv X pins σ H { s with heap := h1, toks := tk } := I.kept keeps
  refine wpAny_pure ⟨_, rfl, .ref h1.objs.size, upd H h1.objs.size (.lst ((sset ns).map V.int)), I1.laid (t' := tk) (fun b u e2 => ?_) (Nat.le_refl _) (show ObjOk X.prog X.w _ _ _ (.lst ((sset ns).map V.int)) from ⟨lo2, out.toList, c, vals_of_ints o1, hc'⟩), rfl, q _ (I1.hok.fresh (Nat.le_refl _))⟩
  have b2 := Heap.lt_size e2
  show (sortedHeap (h1.push (seqObj "list" acc.toList.toArray 0)) h1.objs.size acc.toList out).get? b = some u
  rw [sortedHeap_old (Nat.ne_of_lt b2) (by rw [size_push']; exact Nat.lt_succ_of_lt b2)]
  exact Heap.get?_push_of_some _ e2
end
end GT

/-! ## lists of texts in order -/
namespace GT
open PySem PySem.Spec PyProof.Rows L2
section
variable {X : Cx} {K : PySem.W.Frag}
def strsD (xs : List Str) : PyData := .list (xs.map PyData.str)
theorem strs_reads {h : Heap} : ∀ {xs : List Str} {us : List Value}, Vals (xs.map V.str) us → ∃ as, ReadsAll h us (xs.map PyData.str) as
  | [], _, .nil => ⟨[], .nil⟩
  | x :: xs, _, .cons r t => by
    obtain ⟨k, rfl⟩ := r
    obtain ⟨as, q⟩ := strs_reads (h := h) t
    exact ⟨[] ++ as, .cons (.str x k) q⟩
theorem strs_alike : ∀ (xs ys : List Str), PySem.W.alikeAll (xs.map PyData.str) (ys.map PyData.str) = true
  | [], _ => by simp [PySem.W.alikeAll]
  | _ :: _, [] => by simp [PySem.W.alikeAll]
  | x :: xs, y :: ys => by
    have := strs_alike xs ys
    simp only [List.map_cons, PySem.W.alikeAll, PySem.W.alike, this, Bool.and_self]
theorem strs_deep : ∀ xs : List Str, PyData.depthAll (xs.map PyData.str) ≤ 2
  | [] => by simp [PyData.depthAll]
  | x :: xs => by
    have := strs_deep xs
    simp only [List.map_cons, PyData.depthAll, PyData.depth]
    omega
/-- xs < ys, lists of texts -/
def rLtLS (K : PySem.W.Frag) : R2 := fun x y H Q => ∃ (a b : Addr) (xs ys : List Str), x = .ref a ∧ y = .ref b ∧ SqL K H a (xs.map V.str) ∧ SqL K H b (ys.map V.str) ∧ Q (.bl (PySem.W.dataLt (strsD xs) (strsD ys))) H
theorem op_ltLS (hu : X.A.units + 64 < cLine) : OpR X (compareOp .Lt) (rLtLS X.K) := by
  intro pins s σ H x y v u Q I rx ry h
  obtain ⟨a, b, xs, ys, rfl, rfl, ha, hb, q⟩ := h
  cases rx
  cases ry
  obtain ⟨i1, r1, p1, _⟩ := I.list ha
  obtain ⟨i2, r2, p2, _⟩ := I.list hb
  obtain ⟨o1, g1, c1, n1, d1⟩ := p1.isList
  obtain ⟨o2, g2, c2, n2, d2⟩ := p2.isList
  obtain ⟨as, e1⟩ := strs_reads (h := s.heap) r1
  obtain ⟨bs, e2⟩ := strs_reads (h := s.heap) r2
  have dp := strs_deep xs
  refine PySem.W.lt_data (da := strsD xs) (db := strsD ys) (Reads.list g1 c1 d1 e1) (Reads.list g2 c2 d2 e2) (by unfold strsD; rw [PySem.W.alike]; exact strs_alike xs ys) (by unfold strsD; simp) ?_ ⟨.bl _, H, I, rfl, q⟩
  unfold strsD
  rw [PyData.depth]
  have : min (1 + PyData.depthAll (xs.map PyData.str)) (PyData.depth (.list (ys.map PyData.str))) ≤ 3 := Nat.le_trans (Nat.min_le_left _ _) (by omega)
  omega
end
end GT

namespace GT
open PySem PySem.Spec PyProof.Rows L2
local macro_rules | `(tactic| walk_at "p") => `(tactic| first
  | (with_reducible apply vl_var; with_unfolding_all rfl)
  | with_reducible exact vl_c
  | ((with_reducible apply vl_I0); (· walk_at "p"); (· walk_at "p"))
  | ((with_reducible apply vl_U); (· walk_at "p"))
  | ((with_reducible apply vl_chain); (· walk_at "p"); (· walk_at "p"); (· walk_at "p"))
  | ((with_reducible apply vl_and); (· walk_at "p"); (· walk_at "p"))
  | ((with_reducible apply vl_or); (· walk_at "p"); (· walk_at "p"))
  | ((with_reducible apply vl_not); (· walk_at "p"))
  | ((with_reducible apply vl_eq); (· walk_at "p"); (· walk_at "p"); (· with_unfolding_all rfl))
  | ((with_reducible apply vl_ne); (· walk_at "p"); (· walk_at "p"); (· with_unfolding_all rfl))
  | ((with_reducible apply tl_test); (· walk_at "p"))
  | ((with_reducible apply tl_B); (· walk_at "p"))
  | ((with_reducible apply tl_and); (· walk_at "p"); (· walk_at "p"))
  | ((with_reducible apply tl_or); (· walk_at "p"); (· walk_at "p"))
  | ((with_reducible apply tl_not); (· walk_at "p")))
local macro_rules | `(tactic| walk_at "g") => `(tactic| first
  | ((with_reducible apply p_AndV); (· walk_at "p"))
  | ((with_reducible apply p_OrV); (· walk_at "p"))
  | ((with_reducible apply p_Chain); (· walk_at "p"))
  | ((with_reducible apply p_And); (· walk_at "p"))
  | ((with_reducible apply p_Or); (· walk_at "p"))
  | ((with_reducible apply j_and); (· walk_at "p"); (· exact fun z => z))
  | ((with_reducible apply j_or); (· walk_at "p"); (· exact fun z => z))
  | (with_reducible apply i_var; with_unfolding_all rfl)
  | with_reducible refine i_C ?_
  | with_reducible refine i_Op ?_
  | with_reducible refine i_Yes ?_
  | with_reducible refine i_Un ?_
  | with_reducible refine i_I0 ?_
  | ((with_reducible refine i_I ?hc ?_); (case hc => first | (show (0 : Int) < _; decide) | exact .inl ⟨by decide, by decide⟩ | exact ⟨by decide, by decide⟩ | exact ⟨by decide, by decide, by decide⟩ | (show (0 : Int) < _; omega) | exact .inl ⟨by omega, by omega⟩ | exact .inr ⟨by decide, by decide⟩))
  | with_reducible refine i_U ?_
  | with_reducible refine i_Test ?_
  | with_reducible refine i_B ?_
  | with_reducible refine i_bl ?_
  | with_reducible refine i_And ?_
  | with_reducible refine i_Or ?_
  | with_reducible refine i_Not ?_
  | with_reducible refine i_Nil ?_
  | with_reducible refine i_Cons ?_
  | with_reducible refine i_Seq ?_
  | with_reducible refine i_Asg ?_
  | with_reducible refine i_Name ?_
  | with_reducible refine i_Ret ?_
  | with_reducible refine i_IfS ?_
  | with_reducible refine i_Drop ?_
  | with_reducible refine i_Next ?_
  | with_reducible refine i_If ?_
  | with_reducible refine i_Call ?_
  | with_reducible refine i_CB ?_
  | with_reducible refine i_Chain ?_
  | with_reducible refine i_AndV ?_
  | with_reducible refine i_OrV ?_
  | with_reducible refine i_NotV ?_
  | with_reducible refine i_blV ?_
  | with_reducible refine i_Tup ?_
  | with_reducible refine i_Lst ?_
  | with_reducible refine i_Par ?_
  | with_reducible refine i_Sl ?_
  | with_reducible refine i_NoPart ?_
  | with_reducible refine i_Part ?_
  | with_reducible refine i_intV ?_
  | with_reducible refine i_BM ?_
  | with_reducible refine i_BM0 ?_
  | with_reducible refine i_For ?_
  | with_reducible refine i_Lc ?_
  | with_reducible refine i_Rng1 ?_
  | with_reducible refine i_Rng2 ?_
  | with_reducible refine i_List ?_
  | with_reducible refine i_Nk ?_
  | with_reducible refine i_Nki ?_
  | with_reducible refine i_NGet ?_
  | with_reducible refine i_NIn ?_
  | with_reducible refine i_NNotIn ?_
  | with_reducible refine i_NPut ?_
  | with_reducible refine i_Meth ?_
  | with_reducible refine i_Make ?_
  | with_reducible refine i_Fld ?_
  | with_reducible refine i_sFld ?_
  | with_reducible refine i_gNil ?_
  | with_reducible refine i_gCons ?_
  | (with_reducible apply i_Aug; with_unfolding_all rfl)
  | ((with_reducible refine i_Eq ?hv ?_); (case hv => with_unfolding_all rfl))
  | ((with_reducible refine i_Ne ?hv ?_); (case hv => with_unfolding_all rfl)))
local macro_rules | `(tactic| walk_at "h") => `(tactic| ((fail_if_success (with_reducible refine i_Lc ?_)); walk_at "g"))

/-! ### the text -/
def topS (i : Nat) : Stmt := PySem.Challenge.pw_graphtwins_k15_shortest_paths.main.body.getD i (.Pass ⟨0, 0, 0, 0⟩)
abbrev s_linked_name : Stmt := topS 1
theorem sc_linked_name : FnScope ["value"] ["value"] (defScope s_linked_name) := ⟨rfl, rfl, rfl, by decide +kernel, rfl, by decide +kernel, by decide +kernel⟩
def d_linked_name : He.DefD := ⟨("linked_name", none), "linked_name", "linked_name", defArgs s_linked_name, defBody s_linked_name, defScope s_linked_name, [], []⟩
abbrev s_Search_init : Stmt := inClass (topS 3) 0
theorem sc_Search_init : FnScope ["self", "starts", "place"] ["self", "starts"] (defScope s_Search_init) := ⟨rfl, rfl, rfl, by decide +kernel, rfl, by decide +kernel, by decide +kernel⟩
def d_Search_init : He.DefD := ⟨("Search", some "__init__"), "__init__", "Search.__init__", defArgs s_Search_init, defBody s_Search_init, defScope s_Search_init, [], []⟩
abbrev s_Search_meet : Stmt := inClass (topS 3) 1
theorem sc_Search_meet : FnScope ["self", "place", "before", "field"] ["self", "place", "before", "field"] (defScope s_Search_meet) := ⟨rfl, rfl, rfl, by decide +kernel, rfl, by decide +kernel, by decide +kernel⟩
def d_Search_meet : He.DefD := ⟨("Search", some "meet"), "meet", "Search.meet", defArgs s_Search_meet, defBody s_Search_meet, defScope s_Search_meet, [], []⟩
abbrev s_Search_next_place : Stmt := inClass (topS 3) 2
theorem sc_Search_next_place : FnScope ["self"] ["self"] (defScope s_Search_next_place) := ⟨rfl, rfl, rfl, by decide +kernel, rfl, by decide +kernel, by decide +kernel⟩
def d_Search_next_place : He.DefD := ⟨("Search", some "next_place"), "next_place", "Search.next_place", defArgs s_Search_next_place, defBody s_Search_next_place, defScope s_Search_next_place, [], []⟩
abbrev s_Search_row_to : Stmt := inClass (topS 3) 3
theorem sc_Search_row_to : FnScope ["self", "place", "row", "before", "field"] ["self", "place"] (defScope s_Search_row_to) := ⟨rfl, rfl, rfl, by decide +kernel, rfl, by decide +kernel, by decide +kernel⟩
def d_Search_row_to : He.DefD := ⟨("Search", some "row_to"), "row_to", "Search.row_to", defArgs s_Search_row_to, defBody s_Search_row_to, defScope s_Search_row_to, [], []⟩
abbrev s_path_to : Stmt := topS 4
theorem sc_path_to : FnScope ["graph", "start", "goal", "search", "number", "field", "target"] ["graph", "start", "goal"] (defScope s_path_to) := ⟨rfl, rfl, rfl, by decide +kernel, rfl, by decide +kernel, by decide +kernel⟩
def d_path_to : He.DefD := ⟨("path_to", none), "path_to", "path_to", defArgs s_path_to, defBody s_path_to, defScope s_path_to, [], []⟩
abbrev s_links_of : Stmt := topS 5
theorem sc_links_of : FnScope ["graph", "number", "_", "objects", "links", "field", "value", "target"] ["graph", "number"] (defScope s_links_of) := ⟨rfl, rfl, rfl, by decide +kernel, rfl, by decide +kernel, by decide +kernel⟩
def d_links_of : He.DefD := ⟨("links_of", none), "links_of", "links_of", defArgs s_links_of, defBody s_links_of, defScope s_links_of, [], []⟩
abbrev s_law_cell : Stmt := topS 7
theorem sc_law_cell : FnScope ["script", "k"] ["script", "k"] (defScope s_law_cell) := ⟨rfl, rfl, rfl, by decide +kernel, rfl, by decide +kernel, by decide +kernel⟩
def d_law_cell : He.DefD := ⟨("_law_cell", none), "_law_cell", "_law_cell", defArgs s_law_cell, defBody s_law_cell, defScope s_law_cell, [], []⟩
abbrev s_law_digits : Stmt := topS 8
theorem sc_law_digits : FnScope ["script", "first", "last", "digits", "k", "cell", "turn", "seed"] ["script", "first", "last"] (defScope s_law_digits) := ⟨rfl, rfl, rfl, by decide +kernel, rfl, by decide +kernel, by decide +kernel⟩
def d_law_digits : He.DefD := ⟨("_law_digits", none), "_law_digits", "_law_digits", defArgs s_law_digits, defBody s_law_digits, defScope s_law_digits, [], []⟩
abbrev s_law_draw : Stmt := topS 9
theorem sc_law_draw : FnScope ["box", "many", "at"] ["box", "many"] (defScope s_law_draw) := ⟨rfl, rfl, rfl, by decide +kernel, rfl, by decide +kernel, by decide +kernel⟩
def d_law_draw : He.DefD := ⟨("_law_draw", none), "_law_draw", "_law_draw", defArgs s_law_draw, defBody s_law_draw, defScope s_law_draw, [], []⟩
abbrev s_law_plain : Stmt := topS 10
theorem sc_law_plain : FnScope ["box", "kind"] ["box"] (defScope s_law_plain) := ⟨rfl, rfl, rfl, by decide +kernel, rfl, by decide +kernel, by decide +kernel⟩
def d_law_plain : He.DefD := ⟨("_law_plain", none), "_law_plain", "_law_plain", defArgs s_law_plain, defBody s_law_plain, defScope s_law_plain, [], []⟩
abbrev s_law_drawn : Stmt := topS 11
theorem sc_law_drawn : FnScope ["box", "most", "same", "many", "things", "k", "fields", "field", "way"] ["box", "most", "same"] (defScope s_law_drawn) := ⟨rfl, rfl, rfl, by decide +kernel, rfl, by decide +kernel, by decide +kernel⟩
def d_law_drawn : He.DefD := ⟨("_law_drawn", none), "_law_drawn", "_law_drawn", defArgs s_law_drawn, defBody s_law_drawn, defScope s_law_drawn, [], []⟩
abbrev s_law_reached : Stmt := topS 12
theorem sc_law_reached : FnScope ["things", "roots", "found", "root", "k", "pair", "rows", "number", "row"] ["things", "roots"] (defScope s_law_reached) := ⟨rfl, rfl, rfl, by decide +kernel, rfl, by decide +kernel, by decide +kernel⟩
def d_law_reached : He.DefD := ⟨("_law_reached", none), "_law_reached", "_law_reached", defArgs s_law_reached, defBody s_law_reached, defScope s_law_reached, [], []⟩
abbrev s_law_any : Stmt := topS 13
theorem sc_law_any : FnScope ["box", "most", "same", "things", "k"] ["box", "most", "same"] (defScope s_law_any) := ⟨rfl, rfl, rfl, by decide +kernel, rfl, by decide +kernel, by decide +kernel⟩
def d_law_any : He.DefD := ⟨("_law_any", none), "_law_any", "_law_any", defArgs s_law_any, defBody s_law_any, defScope s_law_any, [], []⟩
abbrev s_law_goes : Stmt := topS 14
theorem sc_law_goes : FnScope ["graph", "number", "pair"] ["graph", "number"] (defScope s_law_goes) := ⟨rfl, rfl, rfl, by decide +kernel, rfl, by decide +kernel, by decide +kernel⟩
def d_law_goes : He.DefD := ⟨("_law_goes", none), "_law_goes", "_law_goes", defArgs s_law_goes, defBody s_law_goes, defScope s_law_goes, [], []⟩
abbrev s_law : Stmt := topS 15
theorem sc_law : FnScope ["script", "box", "graph", "start", "best", "turn", "k", "pair", "path", "old", "goal"] ["script"] (defScope s_law) := ⟨rfl, rfl, rfl, by decide +kernel, rfl, by decide +kernel, by decide +kernel⟩
def d_law : He.DefD := ⟨("law", none), "law", "law", defArgs s_law, defBody s_law, defScope s_law, [], []⟩
abbrev lv_linked_name : Nat := 1
abbrev lv_Search_init : Nat := 2
abbrev lv_Search_meet : Nat := 1
abbrev lv_Search_next_place : Nat := 1
abbrev lv_Search_row_to : Nat := 1
abbrev lv_path_to : Nat := 4
abbrev lv_links_of : Nat := 2
abbrev lv_law_cell : Nat := 1
abbrev lv_law_digits : Nat := 2
abbrev lv_law_draw : Nat := 1
abbrev lv_law_plain : Nat := 2
abbrev lv_law_drawn : Nat := 3
abbrev lv_law_reached : Nat := 1
abbrev lv_law_any : Nat := 4
abbrev lv_law_goes : Nat := 1
abbrev lv_law : Nat := 5

section
variable {P : Program} {w : World} {K : PySem.W.Frag} {mg : Str → Option Value} {base : Heap}
/-! ### the box of draws -/
structure Box (K : PySem.W.Frag) (b dg : Addr) (H : Hp) : Prop where
  bx : ∃ z : Int, H b = some (.lst [.ref dg, .int z]) ∧ 0 ≤ z
  di : ∃ ns : List Int, H dg = some (.lst (ns.map V.int))
  ne : dg ≠ b
theorem Box.stp {b dg : Addr} {H H1 : Hp} {M : List Addr} (B : Box K b dg H) (s : Stp M H H1) (n1 : b ∉ M) (n2 : dg ∉ M) : Box K b dg H1 := by
  obtain ⟨⟨z, h, hz⟩, ⟨ns, d⟩, ne⟩ := B
  exact ⟨⟨z, s.keep _ _ h n1, hz⟩, ⟨ns, s.keep _ _ d n2⟩, ne⟩
theorem Box.grow {b dg : Addr} {H H1 : Hp} (B : Box K b dg H) (s : Stp [] H H1) : Box K b dg H1 := B.stp s (by simp) (by simp)
theorem Box.nin {b dg p : Addr} {H : Hp} (B : Box K b dg H) (hp : H p = none) : p ∉ [b] := by
  obtain ⟨⟨z, e, _⟩, _, _⟩ := B
  simp
  exact fun z => by rw [z, e] at hp; cases hp
theorem Box.dgn {b dg p : Addr} {H : Hp} (B : Box K b dg H) (hp : H p = none) : dg ≠ p := by
  obtain ⟨_, ⟨ns, h⟩, _⟩ := B
  rintro rfl
  rw [hp] at h; cases h
/-- what is written was not there yet -/
theorem Box.off {b dg p : Addr} {H0 H H1 : Hp} {M : List Addr} (B0 : Box K b dg H0) (B : Box K b dg H) (hp : H0 p = none) (s : Stp [p] H H1) : Box K b dg H1 :=
  B.stp s (fun z => B0.nin hp (by simpa using (List.mem_singleton.mp z).symm)) (fun z => B0.dgn hp (List.mem_singleton.mp z))
def spDraw (K : PySem.W.Frag) : Sp := fun vs H Q _ => ∃ (b dg : Addr) (m : Int), vs = [.ref b, .int m] ∧ 0 < m ∧ Box K b dg H ∧
  ∀ (d : Int) (H1 : Hp), 0 ≤ d → d < m → Stp [b] H H1 → Box K b dg H1 → Q (.int d) H1
theorem cal_draw (F : Df K mg d_law_draw) (B : Blt mg) : Cal P w K mg base lv_law_draw "_law_draw" ["box", "many"] (spDraw K) := by
  obtain ⟨f, fd, F, g⟩ := F
  refine ⟨f, fd, F.ok sc_law_draw (fun vs H Q E h => ?_) (fun cdv A outer s H vs Q E hr h => ⟨_, PSs.nox
    (pss_cons (ps_set (i := 2) sc_law_draw.nd rfl (Or.inl rfl) (pe_ix (ix_listK (K := K) rfl) (pv 0) pe_int (fun _ _ => rfl)))
    (pss_cons (ps_asg (pe_op op_add (pv 2) pe_int) (pg_sub (pv 0) pe_int set_list))
    (pss_cons (ps_if (pt_cmpR op_lt (pv 2) (pe_callB call_len_seq (by rfl) B.len boot_len (pa_cons (pe_ix (ix_listK (K := K) rfl) (pv 0) pe_int (fun _ _ => rfl)) pa_nil)) (nomark _))
      (pss_one (ps_ret (pe_op op_mod (pe_callTy call_int1 (by rfl) B.int boot_int (pa_cons (pe_ix (ix_listK (K := K) rfl) (pe_ix (ix_listK (K := K) rfl) (pv 0) pe_int (fun _ _ => rfl)) (pv 2) (fun _ _ => rfl)) pa_nil)) (pv 1))))
      pss_nil)
    (pss_one (ps_ret pe_int))))), ?_⟩), g, F.kp, F.bindsN fun _ _ _ _ _ _ us hl => match us, hl with | [_, _], _ => rfl⟩
  · obtain ⟨b, dg, m, rfl, _⟩ := h
    rfl
  · obtain ⟨b, dg, m, rfl, hm, ⟨⟨z, hb, hz⟩, ⟨ns, hd⟩, ne⟩, q⟩ := h
    have st : Stp [b] H (upd H b (.lst [.ref dg, .int (z + 1)])) := .wr (by simp) hb fun _ e => by cases e
    have hd0 := st.keep _ _ hd (by simp [ne])
    have hd1 : SqL K (upd H b (.lst [.ref dg, .int (z + 1)])) dg (ns.map V.int) := SqL.of hd0
    have B1 : Box K b dg (upd H b (.lst [.ref dg, .int (z + 1)])) := ⟨⟨z + 1, upd_same, by omega⟩, ⟨ns, hd0⟩, ne⟩
    refine ⟨_, rfl, _, _, _, _, rfl, rfl, SqL.of hb, atI_nat (j := 1) rfl, ?_⟩
    refine ⟨_, rfl, _, _, rfl, rfl, _, rfl, _, _, _, 1, rfl, rfl, hb, rfl, ?_⟩
    refine ⟨_, rfl, _, rfl, _, _, _, _, rfl, rfl, SqL.of upd_same, atI_nat (j := 0) rfl, _, _, rfl, .inl hd1, _, _, rfl, rfl, _, rfl, ?_⟩
    refine i_iteD (fun hlt => ?_) (fun _ => ?_)
    · have hl : z.toNat < ns.length := by rw [List.length_map] at hlt; omega
      have he : atI (ns.map V.int) z = some (.int ns[z.toNat]) := at_of (j := z.toNat) (by omega) (by rw [List.getElem?_map, List.getElem?_eq_getElem hl]; rfl)
      refine ⟨_, rfl, _, _, _, _, rfl, rfl, SqL.of upd_same, atI_nat (j := 0) rfl, _, rfl, _, _, _, _, rfl, rfl, hd1, he, .inl ⟨_, rfl, _, rfl, _, _, rfl, rfl, hm, ?_⟩⟩
      exact q _ _ (Int.emod_nonneg _ (by omega)) (Int.emod_lt_of_pos _ hm) st B1
    · exact q 0 _ (by omega) hm st B1
end

section
variable {P : Program} {w : World} {K : PySem.W.Frag} {mg : Str → Option Value} {base : Heap}
def spCel (K : PySem.W.Frag) : Sp := fun vs H Q _ => ∃ (l : Addr) (ns : List Int) (k : Int), vs = [.ref l, .int k] ∧ 0 ≤ k ∧ SqL K H l (ns.map V.int) ∧ ∀ i : Int, Q (.int i) H
theorem cal_cell (F : Df K mg d_law_cell) (B : Blt mg) : Cal P w K mg base lv_law_cell "_law_cell" ["script", "k"] (spCel K) := by
  obtain ⟨f, fd, F, g⟩ := F
  refine ⟨f, fd, F.ok sc_law_cell (fun vs H Q E h => ?_) (fun cdv A outer s H vs Q E hr h => ⟨_, PSs.nox
    (pss_cons (ps_if (pt_cmpR op_lt (pv 1) (pe_callB call_len_seq (by rfl) B.len boot_len (pa_cons (pv 0) pa_nil)) (nomark _))
      (pss_one (ps_ret (pe_ix (ix_listK (K := K) rfl) (pv 0) (pv 1) (fun _ _ => rfl))))
      pss_nil)
    (pss_one (ps_ret pe_int))), ?_⟩), g, F.kp, F.bindsN fun _ _ _ _ _ _ us hl => match us, hl with | [_, _], _ => rfl⟩
  · obtain ⟨l, ns, k, rfl, _⟩ := h
    rfl
  · obtain ⟨l, ns, k, rfl, hk, hs, q⟩ := h
    refine ⟨_, rfl, _, rfl, _, _, rfl, .inl hs, _, _, rfl, rfl, _, rfl, ?_⟩
    refine i_iteD (fun hlt => ?_) (fun _ => ?_)
    · have hl : k.toNat < ns.length := by rw [List.length_map] at hlt; omega
      exact ⟨_, rfl, _, rfl, _, _, _, _, rfl, rfl, hs, at_of (j := k.toNat) (by omega) (by rw [List.getElem?_map, List.getElem?_eq_getElem hl]; rfl), q _⟩
    · exact q 0
def spDigits (K : PySem.W.Frag) : Sp := fun vs H Q _ => ∃ (l : Addr) (ns : List Int) (a b : Int), vs = [.ref l, .int a, .int b] ∧ 0 ≤ a ∧ a ≤ 1000 ∧ 0 ≤ b ∧ b ≤ 1000 ∧ SqL K H l (ns.map V.int) ∧
  ∀ (p : Addr) (ds : List Int) (H1 : Hp), H p = none → H1 p = some (.lst (ds.map V.int)) → Stp [] H H1 → Q (.ref p) H1
theorem map_snoc (ds : List Int) (d : Int) : ds.map V.int ++ [V.int d] = (ds ++ [d]).map V.int := by simp
theorem cal_digits (F : Df K mg d_law_digits) (B : Blt mg) (C_law_cell : Cal P w K mg base lv_law_cell "_law_cell" ["script", "k"] (spCel K)) : Cal P w K mg base lv_law_digits "_law_digits" ["script", "first", "last"] (spDigits K) := by
  obtain ⟨f, fd, F, g⟩ := F
  refine ⟨f, fd, F.ok sc_law_digits (fun vs H Q E h => ?_) (fun cdv A outer s H vs Q E hr h => ⟨_, PSs.nox
    (pss_cons (ps_set (i := 3) sc_law_digits.nd rfl (Or.inl rfl) (pe_lst pa_nil))
    (pss_cons (ps_for PassesOwn.never rfl (pi_range2 rfl B.range (pa_cons (pv 1) (pa_cons (pv 2) pa_nil))) (pg_name (i := 4) sc_law_digits.nd rfl (Or.inl rfl))
      (pss_cons (ps_set (i := 5) sc_law_digits.nd rfl (Or.inl rfl) (pc_call C_law_cell (hr.mono (by decide)) (by rfl) (pa_cons (pv 0) (pa_cons (pv 4) pa_nil))))
        (C8.pss_cut (ps_if (pt_cmpR op_lt (pv 5) pe_int (nomark _))
          (pss_one (ps_set (i := 5) sc_law_digits.nd rfl (Or.inl rfl) (pe_op op_sub pe_int (pe_op op_mul pe_int (pv 5)))))
          pss_nil)
        (pss_one (ps_if (pt_cmpR op_ge (pv 5) (pe_op op_pow pe_int pe_int) (nomark _))
          (pss_one (ps_for PassesOwn.never rfl (pi_range1 rfl B.range (pa_cons pe_int pa_nil)) (pg_name (i := 6) sc_law_digits.nd rfl (Or.inl rfl))
              (pss_one (ps_if (pt_cmpR op_gt (pv 5) pe_int (nomark _))
                  (pss_cons (ps_expr (pe_bm PySem.F.plainAttrs_list PySem.F.slot_list_append PySem.F.type_list_append mt_append (pv 3) (pa_cons (pe_op op_mod (pe_callTy call_int1 (by rfl) B.int boot_int (pa_cons (pv 5) pa_nil)) pe_int) pa_nil)))
                    (pss_one (ps_set (i := 5) sc_law_digits.nd rfl (Or.inl rfl) (pe_op op_fdiv (pv 5) pe_int))))
                  pss_nil))))
          (pss_cons (ps_set (i := 7) sc_law_digits.nd rfl (Or.inl rfl) (pe_op op_mod (pe_callTy call_int1 (by rfl) B.int boot_int (pa_cons (pe_op op_add (pe_op op_add (pe_op op_mul (pv 5) pe_int) (pe_op op_mul (pv 4) pe_int)) pe_int) pa_nil)) pe_int))
            (pss_one (ps_for PassesOwn.never rfl (pi_range1 rfl B.range (pa_cons pe_int pa_nil)) (pg_name (i := 6) sc_law_digits.nd rfl (Or.inl rfl))
              (pss_cons (ps_set (i := 7) sc_law_digits.nd rfl (Or.inl rfl) (pe_op op_mod (pe_callTy call_int1 (by rfl) B.int boot_int (pa_cons (pe_op op_add (pe_op op_add (pe_op op_mul (pv 7) pe_int) (pe_op op_mul pe_int (pv 6))) pe_int) pa_nil)) pe_int))
                (pss_one (ps_expr (pe_bm PySem.F.plainAttrs_list PySem.F.slot_list_append PySem.F.type_list_append mt_append (pv 3) (pa_cons (pe_op op_mod (pe_callTy call_int1 (by rfl) B.int boot_int (pa_cons (pe_op op_fdiv (pv 7) pe_int) pa_nil)) pe_int) pa_nil)))))))))))))
    (pss_one (ps_ret (pv 3))))), ?_⟩), g, F.kp, F.bindsN fun _ _ _ _ _ _ us hl => match us, hl with | [_, _, _], _ => rfl⟩
  · obtain ⟨l, ns, a, b, rfl, _⟩ := h
    rfl
  · obtain ⟨l, ns, a, b, rfl, ha, ha1, hb0, hb, hs, q⟩ := h
    refine ⟨Nat.zero_le _, fun p hp => ?_⟩
    have s1 : Stp [] H (upd H p (.lst [])) := .new hp
    refine ⟨_, rfl, _, rfl, a, b, rfl, ⟨by omega, by omega, by omega, by omega⟩, ?_⟩
    refine for_range (lo := a) (n := (b - a).toNat) (fun i σ H' => ∃ (y4 y5 y6 y7 : Option V) (ds : List Int), σ = [some (.ref l), some (.int a), some (.int b), some (.ref p), y4, y5, y6, y7] ∧ Stp [] H H' ∧ H' p = some (.lst (ds.map V.int)) ∧ ds.length ≤ 60 * i)
      ⟨none, none, none, none, [], rfl, s1, upd_same, Nat.le_refl _⟩ ?_ ?_
    · rintro i σ H' hi ⟨y4, y5, y6, y7, ds, rfl, s', hd, hl⟩
      have hl0 : ds.length ≤ 60000 := by omega
      refine ⟨_, rfl, _, rfl, l, ns, a + (i : Int), rfl, by omega, s'.seq hs (by simp), fun c0 => ?_⟩
      refine ⟨fun σ2 H2 => H2 = H' ∧ ∃ c : Int, 0 ≤ c ∧ σ2 = [some (.ref l), some (.int a), some (.int b), some (.ref p), some (.int (a + (i : Int))), some (.int c), y6, y7], ?_, ?_⟩
      · refine ⟨_, rfl, _, _, rfl, rfl, _, rfl, i_iteD (fun hc => ?_) (fun hc => ?_)⟩
        · refine ⟨_, rfl, _, _, rfl, rfl, .inl ⟨by decide, by decide⟩, _, _, rfl, rfl, rfl, 1 - 2 * c0, by omega, rfl⟩
        · exact ⟨rfl, c0, by omega, rfl⟩
      · rintro σ2 H2 ⟨rfl, c, hc, rfl⟩
        refine ⟨_, rfl, _, _, rfl, rfl, ⟨by decide, by decide, by decide⟩, _, _, rfl, rfl, _, rfl, i_iteD (fun hbig => ?_) (fun hsm => ?_)⟩
        · refine ⟨60, rfl, by decide, by decide, ?_⟩
          refine for_range (lo := 0) (n := 60) (fun j σ3 H3 => ∃ (y6 : Option V) (c : Int) (es : List Int), σ3 = [some (.ref l), some (.int a), some (.int b), some (.ref p), some (.int (a + (i : Int))), some (.int c), y6, y7] ∧ Stp [] H H3 ∧ H3 p = some (.lst (es.map V.int)) ∧ es.length ≤ 60 * i + j)
            ⟨y6, c, ds, rfl, s', hd, by omega⟩ ?_ ?_
          · rintro j σ3 H3 hj ⟨z6, c1, es, rfl, s3, h3, hl3⟩
            refine ⟨_, rfl, _, _, rfl, rfl, _, rfl, i_iteD (fun hpos => ?_) (fun _ => ?_)⟩
            · refine ⟨_, rfl, .inl ⟨rfl, _, SqL.of h3⟩, _, rfl, .inl ⟨_, rfl, _, _, rfl, rfl, (by show (0 : Int) < 1000; decide), _, _, _, rfl, rfl, h3, ?_, ?_⟩⟩
              · rw [List.length_map]; exact Nat.lt_of_le_of_lt (show es.length ≤ 70000 by omega) (by decide)
              · refine ⟨_, rfl, _, _, rfl, rfl, ⟨by decide, by decide⟩, _, _, es ++ [c1 % 1000], rfl, s3.mut hp, ?_, ?_⟩
                · rw [upd_same, map_snoc]
                · rw [List.length_append, List.length_singleton]; omega
            · exact ⟨_, c1, es, rfl, s3, h3, by omega⟩
          · rintro σ3 H3 ⟨z6, c1, es, rfl, s3, h3, hl3⟩
            exact ⟨_, _, _, _, es, rfl, s3, h3, by omega⟩
        · have hc18 : c < 1000000000000000000 := by
            have e : (10 : Int) ^ (18 : Int).toNat = 1000000000000000000 := by decide
            rw [e] at hsm; omega
          refine ⟨_, rfl, _, _, rfl, rfl, .inl ⟨by omega, by omega⟩, _, rfl, _, _, rfl, rfl, .inl ⟨by omega, by omega⟩, _, _, rfl, rfl, _, _, rfl, rfl, .inl ⟨_, rfl, _, _, rfl, rfl, (by show (0 : Int) < 2147483647; decide), ?_⟩⟩
          refine ⟨12, rfl, by decide, by decide, ?_⟩
          refine for_range (lo := 0) (n := 12) (fun j σ3 H3 => ∃ (y6 : Option V) (sd : Int) (es : List Int), σ3 = [some (.ref l), some (.int a), some (.int b), some (.ref p), some (.int (a + (i : Int))), some (.int c), y6, some (.int sd)] ∧ 0 ≤ sd ∧ sd < 2147483647 ∧ Stp [] H H3 ∧ H3 p = some (.lst (es.map V.int)) ∧ es.length ≤ 60 * i + j)
            ⟨y6, _, ds, rfl, Int.emod_nonneg _ (by decide), Int.emod_lt_of_pos _ (by decide), s', hd, by omega⟩ ?_ ?_
          · rintro j σ3 H3 hj ⟨z6, sd, es, rfl, hs0, hs1, s3, h3, hl3⟩
            refine ⟨_, rfl, _, _, rfl, rfl, .inl ⟨by omega, by omega⟩, _, rfl, _, _, rfl, rfl, .inl ⟨by decide, by decide⟩, _, _, rfl, rfl, _, _, rfl, rfl, .inl ⟨_, rfl, _, _, rfl, rfl, (by show (0 : Int) < 2147483647; decide), ?_⟩⟩
            refine ⟨_, rfl, .inl ⟨rfl, _, SqL.of h3⟩, _, rfl, _, _, rfl, rfl, ⟨by decide, by decide⟩, .inl ⟨_, rfl, _, _, rfl, rfl, (by show (0 : Int) < 1000; decide), _, _, _, rfl, rfl, h3, ?_, ?_⟩⟩
            · rw [List.length_map]; exact Nat.lt_of_le_of_lt (show es.length ≤ 70000 by omega) (by decide)
            · refine ⟨_, _, es ++ [(sd * 16807 + 7 * (0 + (j : Int)) + 1) % 2147483647 / 997 % 1000], rfl, Int.emod_nonneg _ (by decide), Int.emod_lt_of_pos _ (by decide), s3.mut hp, ?_, ?_⟩
              · rw [upd_same, map_snoc]
              · rw [List.length_append, List.length_singleton]; omega
          · rintro σ3 H3 ⟨z6, sd, es, rfl, hs0, hs1, s3, h3, hl3⟩
            exact ⟨_, _, _, _, es, rfl, s3, h3, by omega⟩
    · rintro σ H' ⟨y4, y5, y6, y7, ds, rfl, s', hd, hl⟩
      exact ⟨_, rfl, q p ds H' hp hd s'⟩
end

/-! ### graphs: objects, fields, values -/
theorem numAt {K : PySem.W.Frag} {H : Hp} {v : V} {i : Int} (h : DtAt K H v (.num i)) : v = .int i := by cases h; rfl
theorem txtAt {K : PySem.W.Frag} {H : Hp} {v : V} {x : Str} (h : DtAt K H v (.txt x)) : v = .str x := by cases h; rfl
abbrev strRef : Str := Str.ofString "ref"
inductive Gv where
  | num (i : Int)
  | txt (z : Str)
  | ref (k : Int)
  deriving DecidableEq
def gvD : Gv → Dt
  | .num i => .num i
  | .txt z => .txt z
  | .ref k => .tup [.txt strRef, .num k]
def gvRef : Gv → Option Int
  | .ref k => some k
  | _ => none
abbrev Gf := Str × Gv
def gfD (e : Gf) : Dt := .tup [.txt e.1, gvD e.2]
abbrev Gr := List Int × List (List Gf)
def rowD (r : List Gf) : Dt := .lst (r.map gfD)
def grDt (g : Gr) : Dt := .tup [.lst (g.1.map Dt.num), .lst (g.2.map rowD)]
theorem gvD_flat (x : Gv) : (gvD x).flat = true := by cases x <;> simp [gvD, Dt.flat, Dt.flatAll]
theorem gfD_flat (e : Gf) : (gfD e).flat = true := by simp [gfD, Dt.flat, Dt.flatAll, gvD_flat]
theorem gfs_flat : ∀ l : List Gf, Dt.flatAll (l.map gfD) = true
  | [] => rfl
  | e :: l => by rw [List.map_cons, Dt.flatAll, gfs_flat l, gfD_flat]; rfl
theorem ints_flat : ∀ l : List Int, Dt.flatAll (l.map Dt.num) = true
  | [] => rfl
  | e :: l => by rw [List.map_cons, Dt.flatAll, ints_flat l]; rfl
section
variable {P : Program} {w : World} {K : PySem.W.Frag} {mg : Str → Option Value} {base : Heap}
mutual
theorem dt_grow {H H1 : Hp} (s : Stp [] H H1) : ∀ (d : Dt) (v : V), DtAt K H v d → DtAt K H1 v d
  | .non, _, h => by cases h; exact .non
  | .bl _, _, h => by cases h; exact .bl _
  | .num _, _, h => by cases h; exact .num _
  | .txt _, _, h => by cases h; exact .txt _
  | .tup ds, _, h => by
    cases h with
    | tup h1 h2 => exact .tup (h1.stp s) (dts_grow s ds _ h2)
  | .lst ds, _, h => by
    cases h with
    | lst h1 h2 => exact .lst (s.seq h1 (by simp)) (dts_grow s ds _ h2)
theorem dts_grow {H H1 : Hp} (s : Stp [] H H1) : ∀ (ds : List Dt) (vs : List V), DtsAt K H vs ds → DtsAt K H1 vs ds
  | [], _, h => by cases h; exact .nil
  | d :: ds, _, h => by
    cases h with
    | cons h1 h2 => exact .cons (dt_grow s d _ h1) (dts_grow s ds _ h2)
end
theorem lstAt {H : Hp} {v : V} {ds : List Dt} (h : DtAt K H v (.lst ds)) : ∃ a xs, v = .ref a ∧ SqL K H a xs ∧ DtsAt K H xs ds := by
  cases h with
  | lst h1 h2 => exact ⟨_, _, rfl, h1, h2⟩
theorem mp_get {α : Type} {H : Hp} {f : α → Dt} {es : List α} {vs : List V} {i : Nat} {v : V} (h : DtsAt K H vs (es.map f)) (e : vs[i]? = some v) : ∃ p, es[i]? = some p ∧ DtAt K H v (f p) := by
  obtain ⟨d, h1, h2⟩ := h.getV e
  rw [List.getElem?_map] at h1
  obtain ⟨p, hp, rfl⟩ := Option.map_eq_some_iff.mp h1
  exact ⟨p, hp, h2⟩
theorem grAt {H : Hp} {v : V} {g : Gr} (h : DtAt K H v (grDt g)) : ∃ a rv ov, v = .ref a ∧ TupAt K H a [rv, ov] ∧ DtAt K H rv (.lst (g.1.map Dt.num)) ∧ DtAt K H ov (.lst (g.2.map rowD)) := by
  cases h with
  | @tup a xs _ h1 h2 =>
    cases h2 with
    | cons a1 h2 =>
      cases h2 with
      | cons a2 h2 =>
        cases h2
        exact ⟨a, _, _, rfl, h1, a1, a2⟩
theorem gfAt {H : Hp} {v : V} {e : Gf} (h : DtAt K H v (gfD e)) : ∃ a y, v = .ref a ∧ TupAt K H a [.str e.1, y] ∧ DtAt K H y (gvD e.2) := by
  cases h with
  | @tup a xs _ h1 h2 =>
    cases h2 with
    | cons a1 h2 =>
      cases h2 with
      | cons a2 h2 =>
        cases h2
        obtain rfl := txtAt a1
        exact ⟨a, _, rfl, h1, a2⟩
theorem gvRefAt {H : Hp} {v : V} {k : Int} (h : DtAt K H v (gvD (.ref k))) : ∃ a, v = .ref a ∧ TupAt K H a [.str strRef, .int k] := by
  cases h with
  | @tup a xs _ h1 h2 =>
    cases h2 with
    | cons a1 h2 =>
      cases h2 with
      | cons a2 h2 =>
        cases h2
        obtain rfl := txtAt a1
        obtain rfl := numAt a2
        exact ⟨a, rfl, h1⟩
theorem ints_of {H : Hp} : ∀ {xs : List V} {ns : List Int}, DtsAt K H xs (ns.map Dt.num) → xs = ns.map V.int
  | _, [], h => by cases h; rfl
  | _, n :: ns, h => by
    cases h with
    | cons a b =>
      obtain rfl := numAt a
      rw [ints_of b]; rfl
theorem of_ints {H : Hp} : ∀ (ns : List Int), DtsAt K H (ns.map V.int) (ns.map Dt.num)
  | [] => .nil
  | n :: ns => .cons (.num n) (of_ints ns)
theorem isi_gv {H : Hp} {v : V} {x : Gv} {Q : VK} (dv : DtAt K H v (gvD x)) (q : Q (.bl (gvRef x).isSome) H) : rIsi K [v, .ty "tuple"] H Q := by
  cases x with
  | num i => exact i_Isi "int" false dv q
  | txt z => exact i_Isi "str" false dv q
  | ref k => exact i_Isi "tuple" true dv q
def ovI : Option Int → V
  | some k => .int k
  | none => .non
def spLinkG (K : PySem.W.Frag) : Sp := fun vs H Q _ => ∃ (v : V) (x : Gv), vs = [v] ∧ DtAt K H v (gvD x) ∧ Q (ovI (gvRef x)) H
theorem cal_linked_name (F : Df K mg d_linked_name) (B : Blt mg) : Cal P w K mg base lv_linked_name "linked_name" ["value"] (spLinkG K) := by
  obtain ⟨f, fd, F, g⟩ := F
  refine ⟨f, fd, F.ok sc_linked_name (fun vs H Q E h => ?_) (fun cdv A outer s H vs Q E hr h => ⟨_, PSs.nox
    (pss_cons (ps_if (pt_val (pe_callB call_isi (by rfl) B.isinstance (by decide +kernel) (pa_cons (pv 0) (pa_cons (pe_bltn (v := .ty "tuple") (by rfl) B.tuple (by decide +kernel) rfl) pa_nil))))
      (pss_one (ps_ret (pe_ix (ix_tupK (K := K) rfl) (pv 0) pe_int (fun _ _ => rfl))))
      pss_nil)
    (pss_one (ps_ret pe_non))), ?_⟩), g, F.kp, F.bindsN fun _ _ _ _ _ _ us hl => match us, hl with | [_], _ => rfl⟩
  · obtain ⟨v, x, rfl, _⟩ := h
    rfl
  · obtain ⟨v, x, rfl, dv, q⟩ := h
    repeat walk_at "h"
    refine isi_gv dv ?_
    repeat walk_at "h"
    cases x with
    | num i => refine iteF ?_; exact q
    | txt z => refine iteF ?_; exact q
    | ref k =>
      obtain ⟨a, rfl, ht⟩ := gvRefAt dv
      refine iteT ?_
      repeat walk_at "h"
      exact i_IxT ht.sqt (at_of (j := 1) rfl rfl) q
/-! ### the fields that refer -/
def linksOf (r : List Gf) : List (Str × Int) := r.filterMap fun e => (gvRef e.2).map fun k => (e.1, k)
theorem links_snoc (r : List Gf) (e : Gf) : linksOf (r ++ [e]) = match gvRef e.2 with | none => linksOf r | some k => linksOf r ++ [(e.1, k)] := by
  unfold linksOf
  rw [List.filterMap_append]
  cases h : gvRef e.2 <;> simp [h]
def lkD (e : Str × Int) : Dt := .tup [.txt e.1, .num e.2]
theorem lks_flat : ∀ l : List (Str × Int), Dt.flatAll (l.map lkD) = true
  | [] => rfl
  | e :: l => by rw [List.map_cons, Dt.flatAll, lks_flat l]; rfl
theorem lkAt {H : Hp} {v : V} {e : Str × Int} (h : DtAt K H v (lkD e)) : ∃ a, v = .ref a ∧ TupAt K H a [.str e.1, .int e.2] := by
  cases h with
  | @tup a xs _ h1 h2 =>
    cases h2 with
    | cons a1 h2 =>
      cases h2 with
      | cons a2 h2 =>
        cases h2
        obtain rfl := txtAt a1
        obtain rfl := numAt a2
        exact ⟨a, rfl, h1⟩
theorem links_len (r : List Gf) : (linksOf r).length ≤ r.length := List.length_filterMap_le _ _
def rowAt (g : Gr) (n : Int) : List Gf := g.2.getD n.toNat []
def inG (g : Gr) (n : Int) : Prop := 0 ≤ n ∧ n < (g.2.length : Nat)
/-- few objects, few fields, references to objects that are there -/
def GrOk (g : Gr) : Prop := g.2.length ≤ 12 ∧ (∀ r ∈ g.2, r.length ≤ 4) ∧ ∀ r ∈ g.2, ∀ e ∈ linksOf r, inG g e.2
theorem rowAt_mem {g : Gr} {n : Int} (h : inG g n) : rowAt g n ∈ g.2 := by
  obtain ⟨h1, h2⟩ := h
  have : n.toNat < g.2.length := by omega
  unfold rowAt
  rw [List.getD_eq_getElem?_getD, List.getElem?_eq_getElem this]
  exact List.getElem_mem _
theorem row_get {H : Hp} {ys : List V} {g : Gr} {n : Int} (d : DtsAt K H ys (g.2.map rowD)) (h : inG g n) : ∃ a ws, atI ys n = some (.ref a) ∧ SqL K H a ws ∧ DtsAt K H ws ((rowAt g n).map gfD) := by
  obtain ⟨h1, h2⟩ := h
  have ln : ys.length = g.2.length := by have := d.length; rwa [List.length_map] at this
  have l1 : n.toNat < ys.length := by omega
  have e : ys[n.toNat]? = some ys[n.toNat] := List.getElem?_eq_getElem l1
  obtain ⟨r, hr, dr⟩ := mp_get d e
  obtain ⟨a, ws, ea, hs, dw⟩ := lstAt dr
  have er : rowAt g n = r := by unfold rowAt; rw [List.getD_eq_getElem?_getD, hr]; rfl
  rw [ea] at e
  exact ⟨a, ws, at_of (j := n.toNat) (by omega) e, hs, by rw [er]; exact dw⟩
end

section
variable {P : Program} {w : World} {K : PySem.W.Frag} {mg : Str → Option Value} {base : Heap} {C : Addr}
/-! ### the links of an object -/
def ovD : Option Int → Dt
  | some k => .num k
  | none => .non
def fvD (e : Gf) : Dt := .tup [.txt e.1, ovD (gvRef e.2)]
theorem ovAt {H : Hp} {o : Option Int} : DtAt K H (ovI o) (ovD o) := by cases o; exact .non; exact .num _
theorem at_ov {H : Hp} {v : V} {o : Option Int} (h : DtAt K H v (ovD o)) : v = ovI o := by
  cases o with
  | none => cases h; rfl
  | some k => exact numAt h
theorem fvs_flat : ∀ l : List Gf, Dt.flatAll (l.map fvD) = true
  | [] => rfl
  | e :: l => by
    rw [List.map_cons, Dt.flatAll, fvs_flat l]
    cases h : gvRef e.2 <;> simp [fvD, h, ovD, Dt.flat, Dt.flatAll]
theorem fvAt {H : Hp} {v : V} {e : Gf} (h : DtAt K H v (fvD e)) : ∃ a, v = .ref a ∧ TupAt K H a [.str e.1, ovI (gvRef e.2)] := by
  cases h with
  | @tup a xs _ h1 h2 =>
    cases h2 with
    | cons a1 h2 =>
      cases h2 with
      | cons a2 h2 =>
        cases h2
        obtain rfl := txtAt a1
        obtain rfl := at_ov a2
        exact ⟨a, rfl, h1⟩
def spLinks (K : PySem.W.Frag) : Sp := fun vs H Q _ => ∃ (v : V) (g : Gr) (n : Int), vs = [v, .int n] ∧ DtAt K H v (grDt g) ∧ GrOk g ∧ inG g n ∧
  ∀ (p : Addr) (ws : List V) (H1 : Hp), H p = none → H1 p = some (.lst ws) → DtsAt K H1 ws ((linksOf (rowAt g n)).map lkD) → Stp [] H H1 → Q (.ref p) H1
theorem cal_links_of (F : Df K mg d_links_of) (C_linked_name : Cal P w K mg base lv_linked_name "linked_name" ["value"] (spLinkG K)) : Cal P w K mg base lv_links_of "links_of" ["graph", "number"] (spLinks K) := by
  obtain ⟨f, fd, F, g⟩ := F
  refine ⟨f, fd, F.ok sc_links_of (fun vs H Q E h => ?_) (fun cdv A outer s H vs Q E hr h => ⟨_, PSs.nox
    (pss_cons (ps_asg (pv 0) (pg_tup (by rfl) (pgs_cons (pg_name (i := 2) sc_links_of.nd rfl (Or.inl rfl)) (pgs_cons (pg_name (i := 3) sc_links_of.nd rfl (Or.inl rfl)) pgs_nil))))
    (pss_cons (ps_setLc (i := 4) (own := [("field", 5), ("value", 6)]) (g := gTup _ 2 (gCons (gName 5) (gCons (gName 6) gNil))) (by rfl) sc_links_of.nd rfl rfl (sw_true rfl rfl rfl (by decide +kernel)) (pi_list (pe_ix (ix_listK (K := K) rfl) (pv 3) (pv 1) (fun _ _ => rfl))) (blkOk_by (N := ["graph", "number", "_", "objects", "links", "field", "value", "target"]) (own := [("field", 5), ("value", 6)]) (sc := defScope s_links_of) (by decide +kernel)) (fun _ _ _ _ _ => (pg_tup (by rfl) (pgs_cons (pg_name (i := 5) sc_links_of.nd rfl (Or.inl rfl)) (pgs_cons (pg_name (i := 6) sc_links_of.nd rfl (Or.inl rfl)) pgs_nil)))) (fun _ _ _ _ _ => pts_nil) (fun _ _ _ _ _ => (pe_tup (pa_cons (pv 5) (pa_cons (pc_call C_linked_name (hr.mono (by decide)) (by rfl) (pa_cons (pv 6) pa_nil)) pa_nil)))))
    (pss_one (ps_ret (pe_lc (own := [("field", 5), ("target", 7)]) (g := gTup _ 2 (gCons (gName 5) (gCons (gName 7) gNil))) (by rfl) sc_links_of.nd (pi_list (pv 4)) (blkOk_by (N := ["graph", "number", "_", "objects", "links", "field", "value", "target"]) (own := [("field", 5), ("target", 7)]) (sc := defScope s_links_of) (by decide +kernel)) (fun _ _ _ _ _ => (pg_tup (by rfl) (pgs_cons (pg_name (i := 5) sc_links_of.nd rfl (Or.inl rfl)) (pgs_cons (pg_name (i := 7) sc_links_of.nd rfl (Or.inl rfl)) pgs_nil)))) (fun _ _ _ _ _ => (pts_one (pt_cmpR op_notN (pv 7) pe_non (nomark _)))) (fun _ _ _ _ _ => (pe_tup (pa_cons (pv 5) (pa_cons (pv 7) pa_nil))))))))), ?_⟩), g, F.kp, F.bindsN fun _ _ _ _ _ _ us hl => match us, hl with | [_, _], _ => rfl⟩
  · obtain ⟨v, g, n, rfl, _⟩ := h
    rfl
  · obtain ⟨v, g, n, rfl, dg, ok, hn, q⟩ := h
    obtain ⟨a, rv, ov, rfl, ha, hrv, hov⟩ := grAt dg
    obtain ⟨oa, ys, rfl, hys, dys⟩ := lstAt hov
    obtain ⟨la, ws, hat, hws, dws⟩ := row_get dys hn
    have rl := Nat.le_trans (ok.2.1 _ (rowAt_mem hn)) (by decide : 4 ≤ 20)
    generalize rowAt g n = row at dws rl q
    have wl : ws.length = row.length := by have := dws.length; rwa [List.length_map] at this
    repeat walk_at "h"
    refine i_gTup ha.sqt rfl ?_
    repeat walk_at "h"
    refine i_Lc (i_List ?_)
    repeat walk_at "h"
    refine i_IxL hys hat ?_
    refine ⟨la, rfl, ⟨ws, hws⟩, fun p hp0 => ?_⟩
    refine lc_list (xs := ws) (fun i H' => Stp [] H H' ∧ ∃ acc, H' p = some (.lst acc) ∧ DtsAt K H' acc ((row.take i).map fvD)) ⟨.new hp0, [], upd_same, .nil⟩ (fun i H' _ h => h.1.seq hws (by simp)) ?_ ?_
    · rintro i v H1 hv ⟨s1, acc, h1, d1⟩
      obtain ⟨e, he, de⟩ := mp_get (DtsAt.stp s1 _ _ (gfs_flat _) dws) hv
      obtain ⟨ea, y, rfl, ht, dy⟩ := gfAt de
      have tk : row.take (i + 1) = row.take i ++ [e] := by rw [List.take_add_one, he]; rfl
      refine i_gTup ht.sqt rfl ?_
      repeat walk_at "h"
      refine ⟨rfl, i_Yes ?_⟩
      refine i_ite (fun _ => ?_) (fun z => nomatch z)
      repeat walk_at "h"
      refine ⟨y, e.2, rfl, dy, ?_⟩
      repeat walk_at "h"
      refine ⟨(by decide : 2 ≤ sizeLine), fun t nt => ?_⟩
      have s2 : Stp [] H1 (upd H1 t (.tup [.str e.1, ovI (gvRef e.2)])) := .new nt
      have d2 : DtAt K (upd H1 t (.tup [.str e.1, ovI (gvRef e.2)])) (.ref t) (fvD e) := .tup (.inl upd_same) (.cons (.txt _) (.cons ovAt .nil))
      generalize upd H1 t (.tup [.str e.1, ovI (gvRef e.2)]) = H2 at s2 d2 ⊢
      have h2 := s2.keep _ _ h1 (by simp)
      have al := d1.length
      rw [List.length_map, List.length_take] at al
      have s3 : Stp [p] H2 (upd H2 p (.lst (acc ++ [.ref t]))) := .wr (by simp) h2 fun _ z => nomatch z
      refine ⟨acc, h2, Nat.lt_of_le_of_lt (show acc.length ≤ 1000 by omega) (by decide), (s1.trans s2).mut hp0, _, upd_same, ?_⟩
      rw [tk, List.map_append]
      exact (DtsAt.stp s3 _ _ (fvs_flat _) (DtsAt.stp s2 _ _ (fvs_flat _) d1)).append (.cons (DtAt.stp s3 _ _ (by have := fvs_flat [e]; simpa [Dt.flatAll] using this) d2) .nil)
    · rintro H1 ⟨s1, acc, h1, d1⟩
      rw [wl, List.take_length] at d1
      have al : acc.length = row.length := by have := d1.length; rwa [List.length_map] at this
      repeat walk_at "h"
      refine i_Lc (i_List (i_var rfl ⟨p, rfl, ⟨acc, SqL.of h1⟩, fun p2 hp2 => ?_⟩))
      refine lc_list (xs := acc) (fun i H' => Stp [] H1 H' ∧ ∃ ac2, H' p2 = some (.lst ac2) ∧ DtsAt K H' ac2 ((linksOf (row.take i)).map lkD) ∧ ac2.length ≤ i) ⟨.new hp2, [], upd_same, .nil, Nat.zero_le _⟩ (fun i H' _ h => SqL.of (h.1.keep _ _ h1 (by simp))) ?_ ?_
      · rintro i v H2 hv ⟨s2, ac2, h2, d2, l2⟩
        obtain ⟨e, he, de⟩ := mp_get (DtsAt.stp s2 _ _ (fvs_flat _) d1) hv
        obtain ⟨ea, rfl, ht⟩ := fvAt de
        have tk : row.take (i + 1) = row.take i ++ [e] := by rw [List.take_add_one, he]; rfl
        have hi := (List.getElem?_eq_some_iff.mp he).1
        refine i_gTup ht.sqt rfl ?_
        repeat walk_at "h"
        refine ⟨rfl, ?_⟩
        repeat walk_at "h"
        refine ⟨rfl, ⟨_, rfl, ?_⟩⟩
        cases htg : gvRef e.2 with
        | none =>
          refine i_ite (fun z => by simp [ovI] at z) (fun _ => ?_)
          exact ⟨s2, ac2, h2, by rw [tk, links_snoc, htg]; exact d2, by omega⟩
        | some m =>
          refine i_ite (fun _ => ?_) (fun z => by simp [ovI] at z)
          repeat walk_at "h"
          refine ⟨(by decide : 2 ≤ sizeLine), fun t nt => ?_⟩
          have s4 : Stp [] H2 (upd H2 t (.tup [.str e.1, .int m])) := .new nt
          have d4 : DtAt K (upd H2 t (.tup [.str e.1, .int m])) (.ref t) (lkD (e.1, m)) := .tup (.inl upd_same) (.cons (.txt _) (.cons (.num _) .nil))
          rw [show ovI (some m) = .int m from rfl]
          generalize upd H2 t (.tup [.str e.1, .int m]) = H4 at s4 d4 ⊢
          have h4 := s4.keep _ _ h2 (by simp)
          have s5 : Stp [p2] H4 (upd H4 p2 (.lst (ac2 ++ [.ref t]))) := .wr (by simp) h4 fun _ z => nomatch z
          refine ⟨ac2, h4, Nat.lt_of_le_of_lt (show ac2.length ≤ 1000 by omega) (by decide), (s2.trans s4).mut hp2, _, upd_same, ?_, by rw [List.length_append, List.length_singleton]; omega⟩
          rw [tk, links_snoc, htg, List.map_append]
          exact (DtsAt.stp s5 _ _ (lks_flat _) (DtsAt.stp s4 _ _ (lks_flat _) d2)).append (.cons (DtAt.stp s5 _ _ rfl d4) .nil)
      · rintro H2 ⟨s2, ac2, h2, d2, l2⟩
        rw [al, List.take_length] at d2
        exact q p2 ac2 H2 (s1.free hp2 (by simp)) h2 d2 (s1.trans s2)
end

section
variable {P : Program} {w : World} {K : PySem.W.Frag} {mg : Str → Option Value} {base : Heap} {C : Addr}
/-! ### the law's steps -/
theorem cal_law_goes (F : Df K mg d_law_goes) (B : Blt mg) : Cal P w K mg base lv_law_goes "_law_goes" ["graph", "number"] (spLinks K) := by
  obtain ⟨f, fd, F, g⟩ := F
  refine ⟨f, fd, F.ok sc_law_goes (fun vs H Q E h => ?_) (fun cdv A outer s H vs Q E hr h => ⟨_, PSs.nox
    (pss_one (ps_ret (pe_lc (own := [("pair", 2)]) (g := gName 2) (by rfl) sc_law_goes.nd (pi_list (pe_ix (ix_listK (K := K) rfl) (pe_ix (ix_tupK (K := K) rfl) (pv 0) pe_int (fun _ _ => rfl)) (pv 1) (fun _ _ => rfl))) (blkOk_by (N := ["graph", "number", "pair"]) (own := [("pair", 2)]) (sc := defScope s_law_goes) (by decide +kernel)) (fun _ _ _ _ _ => (pg_name (i := 2) sc_law_goes.nd rfl (Or.inl rfl))) (fun _ _ _ _ _ => (pts_one (pt_val (pe_callB (call_isiK (K := K) rfl) (by rfl) B.isinstance (by decide +kernel) (pa_cons (pe_ix (ix_tupK (K := K) rfl) (pv 2) pe_int (fun _ _ => rfl)) (pa_cons (pe_bltn (v := .ty "tuple") (by rfl) B.tuple (by decide +kernel) rfl) pa_nil)))))) (fun _ _ _ _ _ => (pe_tup (pa_cons (pe_ix (ix_tupK (K := K) rfl) (pv 2) pe_int (fun _ _ => rfl)) (pa_cons (pe_ix (ix_tupK (K := K) rfl) (pe_ix (ix_tupK (K := K) rfl) (pv 2) pe_int (fun _ _ => rfl)) pe_int (fun _ _ => rfl)) pa_nil))))))), ?_⟩), g, F.kp, F.bindsN fun _ _ _ _ _ _ us hl => match us, hl with | [_, _], _ => rfl⟩
  · obtain ⟨v, g, n, rfl, _⟩ := h
    rfl
  · obtain ⟨v, g, n, rfl, dg, ok, hn, q⟩ := h
    obtain ⟨a, rv, ov, rfl, ha, hrv, hov⟩ := grAt dg
    obtain ⟨oa, ys, rfl, hys, dys⟩ := lstAt hov
    obtain ⟨la, ws, hat, hws, dws⟩ := row_get dys hn
    have rl := Nat.le_trans (ok.2.1 _ (rowAt_mem hn)) (by decide : 4 ≤ 20)
    generalize rowAt g n = row at dws rl q
    have wl : ws.length = row.length := by have := dws.length; rwa [List.length_map] at this
    repeat walk_at "h"
    refine i_Lc (i_List ?_)
    repeat walk_at "h"
    refine i_IxT ha.sqt (at_of (j := 1) rfl rfl) ?_
    repeat walk_at "h"
    refine i_IxL hys hat ?_
    refine ⟨la, rfl, ⟨ws, hws⟩, fun p hp0 => ?_⟩
    refine lc_list (xs := ws) (fun i H' => Stp [] H H' ∧ ∃ ac2, H' p = some (.lst ac2) ∧ DtsAt K H' ac2 ((linksOf (row.take i)).map lkD) ∧ ac2.length ≤ i) ⟨.new hp0, [], upd_same, .nil, Nat.zero_le _⟩ (fun i H' _ h => h.1.seq hws (by simp)) ?_ ?_
    · rintro i v H2 hv ⟨s2, ac2, h2, d2, l2⟩
      obtain ⟨e, he, de⟩ := mp_get (DtsAt.stp s2 _ _ (gfs_flat _) dws) hv
      obtain ⟨ea, y, rfl, ht, dy⟩ := gfAt de
      have tk : row.take (i + 1) = row.take i ++ [e] := by rw [List.take_add_one, he]; rfl
      have hi := (List.getElem?_eq_some_iff.mp he).1
      repeat walk_at "h"
      refine ⟨rfl, ?_⟩
      repeat walk_at "h"
      refine i_IxT ht.sqt (at_of (j := 1) rfl rfl) ?_
      repeat walk_at "h"
      refine isi_gv dy ?_
      repeat walk_at "h"
      cases htg : gvRef e.2 with
      | none =>
        refine iteF ?_
        exact ⟨s2, ac2, h2, by rw [tk, links_snoc, htg]; exact d2, by omega⟩
      | some m =>
        obtain ⟨fz, x⟩ := e
        cases x with
        | num i => cases htg
        | txt z => cases htg
        | ref k =>
        obtain rfl : k = m := by simpa [gvRef] using htg
        obtain ⟨ra, rfl, hra⟩ := gvRefAt dy
        refine iteT ?_
        repeat walk_at "h"
        refine i_IxT ht.sqt (at_of (j := 0) rfl rfl) ?_
        repeat walk_at "h"
        refine i_IxT ht.sqt (at_of (j := 1) rfl rfl) ?_
        repeat walk_at "h"
        refine i_IxT hra.sqt (at_of (j := 1) rfl rfl) ?_
        repeat walk_at "h"
        refine ⟨(by decide : 2 ≤ sizeLine), fun t nt => ?_⟩
        have s4 : Stp [] H2 (upd H2 t (.tup [.str fz, .int k])) := .new nt
        have d4 : DtAt K (upd H2 t (.tup [.str fz, .int k])) (.ref t) (lkD (fz, k)) := .tup (.inl upd_same) (.cons (.txt _) (.cons (.num _) .nil))
        generalize upd H2 t (.tup [.str fz, .int k]) = H4 at s4 d4 ⊢
        have h4 := s4.keep _ _ h2 (by simp)
        have s5 : Stp [p] H4 (upd H4 p (.lst (ac2 ++ [.ref t]))) := .wr (by simp) h4 fun _ z => nomatch z
        refine ⟨ac2, h4, Nat.lt_of_le_of_lt (show ac2.length ≤ 1000 by omega) (by decide), (s2.trans s4).mut hp0, _, upd_same, ?_, by rw [List.length_append, List.length_singleton]; omega⟩
        rw [tk, links_snoc, htg, List.map_append]
        exact (DtsAt.stp s5 _ _ (lks_flat _) (DtsAt.stp s4 _ _ (lks_flat _) d2)).append (.cons (DtAt.stp s5 _ _ rfl d4) .nil)
    · rintro H2 ⟨s2, ac2, h2, d2, l2⟩
      rw [wl, List.take_length] at d2
      exact q p ac2 H2 hp0 h2 d2 s2
/-! ### kinds of steps -/
inductive Sg where
  | any
  | rows
  | fld (z : Str)
def sgD : Sg → Dt
  | .any => .tup [.txt (Str.ofString "any")]
  | .rows => .tup [.txt (Str.ofString "rows")]
  | .fld z => .tup [.txt (Str.ofString "field"), .txt z]
def okSg : Sg → Str → Bool
  | .fld y, z => decide (y = z)
  | _, _ => true
theorem sgD_flat (s : Sg) : (sgD s).flat = true := by cases s <;> rfl
def hdSg : Sg → Str
  | .any => Str.ofString "any"
  | .rows => Str.ofString "rows"
  | .fld _ => Str.ofString "field"
theorem sgAt {H : Hp} {v : V} {sg : Sg} (h : DtAt K H v (sgD sg)) : ∃ a xs, v = .ref a ∧ TupAt K H a xs ∧ xs[0]? = some (.str (hdSg sg)) ∧ ∀ z, sg = .fld z → xs[1]? = some (.str z) := by
  cases sg with
  | any =>
    cases h with
    | @tup a xs _ h1 h2 =>
      cases h2 with
      | cons a1 h2 =>
        obtain rfl := txtAt a1
        exact ⟨a, _, rfl, h1, rfl, fun z e => nomatch e⟩
  | rows =>
    cases h with
    | @tup a xs _ h1 h2 =>
      cases h2 with
      | cons a1 h2 =>
        obtain rfl := txtAt a1
        exact ⟨a, _, rfl, h1, rfl, fun z e => nomatch e⟩
  | fld y =>
    cases h with
    | @tup a xs _ h1 h2 =>
      cases h2 with
      | cons a1 h2 =>
        cases h2 with
        | cons a2 h2 =>
          obtain rfl := txtAt a1
          obtain rfl := txtAt a2
          exact ⟨a, _, rfl, h1, rfl, fun z e => by cases e; rfl⟩
def stepAt (g : Gr) (sg : Sg) (n : Int) : List Int := ((linksOf (rowAt g n)).filter fun e => okSg sg e.1).map (·.2)
def lstep (g : Gr) (ns : List Int) (sg : Sg) : List Int := (ns.map (stepAt g sg)).flatten
theorem fl_snocA {α : Type} (f : α → List Int) (l : List α) (x : α) : ((l ++ [x]).map f).flatten = (l.map f).flatten ++ f x := by simp
theorem fil_snoc (sg : Sg) (l : List (Str × Int)) (e : Str × Int) : ((l ++ [e]).filter fun e => okSg sg e.1).map (·.2) = ((l.filter fun e => okSg sg e.1).map (·.2)) ++ (if okSg sg e.1 = true then [e.2] else []) := by
  rw [List.filter_append, List.map_append]
  cases h : okSg sg e.1 <;> simp [h]
theorem lstep_len {g : Gr} (ok : GrOk g) : ∀ {ns : List Int} (sg : Sg), (∀ n ∈ ns, inG g n) → (lstep g ns sg).length ≤ 4 * ns.length
  | [], _, _ => by simp [lstep]
  | n :: ns, sg, h => by
    have h1 := lstep_len ok (ns := ns) sg fun x hx => h x (List.mem_cons_of_mem _ hx)
    have h2 := ok.2.1 _ (rowAt_mem (h n List.mem_cons_self))
    have h3 : (stepAt g sg n).length ≤ (rowAt g n).length := by
      unfold stepAt
      rw [List.length_map]
      exact Nat.le_trans (List.length_filter_le _ _) (links_len _)
    unfold lstep at h1 ⊢
    rw [List.map_cons, List.flatten_cons, List.length_append, List.length_cons]
    omega
theorem stepAt_in {g : Gr} (ok : GrOk g) {n : Int} (h : inG g n) (sg : Sg) : ∀ k ∈ stepAt g sg n, inG g k := by
  intro k hk
  obtain ⟨e, he, rfl⟩ := List.mem_map.mp hk
  exact ok.2.2 _ (rowAt_mem h) e (List.mem_filter.mp he).1
theorem lstep_in {g : Gr} (ok : GrOk g) {ns : List Int} (h : ∀ n ∈ ns, inG g n) (sg : Sg) : ∀ k ∈ lstep g ns sg, inG g k := by
  intro k hk
  obtain ⟨l, hl, hk⟩ := List.mem_flatten.mp hk
  obtain ⟨n, hn, rfl⟩ := List.mem_map.mp hl
  exact stepAt_in ok (h n hn) sg k hk
def spStep (K : PySem.W.Frag) : Sp := fun vs H Q _ => ∃ (v sv : V) (fl : Addr) (g : Gr) (ns : List Int) (sg : Sg), vs = [v, .ref fl, sv] ∧ DtAt K H v (grDt g) ∧ GrOk g ∧ SqL K H fl (ns.map V.int) ∧ (∀ n ∈ ns, inG g n) ∧ ns.length ≤ 100 ∧ DtAt K H sv (sgD sg) ∧
  ∀ (p : Addr) (H1 : Hp), H p = none → H1 p = some (.lst ((lstep g ns sg).map V.int)) → Stp [] H H1 → Q (.ref p) H1
end

section
variable {P : Program} {w : World} {K : PySem.W.Frag} {mg : Str → Option Value} {base : Heap} {C : Addr}
/-! ### the law's walk, step by step -/
def turnR (g : Gr) (f : List Int) : List Int := sset (f ++ lstep g f .rows)
def turns (g : Gr) : Nat → List Int → List Int
  | 0, f => f
  | n + 1, f => turnR g (turns g n f)
def lead1 (g : Gr) (f : List Int) : Sg → List Int
  | .rows => turns g g.2.length f
  | sg => sset (lstep g f sg)
def lead (g : Gr) (f : List Int) (sgs : List Sg) : List Int := sset (sgs.foldl (lead1 g) f)
/-- few numbers of objects -/
def NsOk (g : Gr) (f : List Int) : Prop := (∀ n ∈ f, inG g n) ∧ f.length ≤ 12
theorem in_len {g : Gr} {f : List Int} (nd : f.Nodup) (h : ∀ n ∈ f, inG g n) : f.length ≤ g.2.length := by
  have := len_sub f ((List.range g.2.length).map Int.ofNat) nd fun x hx => by
    obtain ⟨h1, h2⟩ := h x hx
    exact List.mem_map.mpr ⟨x.toNat, List.mem_range.mpr (by omega), by show (x.toNat : Int) = x; omega⟩
  simpa using this
theorem sset_ok {g : Gr} (ok : GrOk g) {f : List Int} (h : ∀ n ∈ f, inG g n) : NsOk g (sset f) := by
  have h' : ∀ n ∈ sset f, inG g n := fun n hn => h n ((sset_mem f n).mp hn)
  have := in_len (sset_nodup f) h'
  exact ⟨h', by have := ok.1; omega⟩
theorem turnR_ok {g : Gr} (ok : GrOk g) {f : List Int} (h : NsOk g f) : NsOk g (turnR g f) :=
  sset_ok ok fun n hn => (List.mem_append.mp hn).elim (h.1 n) (lstep_in ok h.1 .rows n)
theorem turns_ok {g : Gr} (ok : GrOk g) : ∀ (n : Nat) {f : List Int}, NsOk g f → NsOk g (turns g n f)
  | 0, _, h => h
  | n + 1, _, h => turnR_ok ok (turns_ok ok n h)
theorem lead1_ok {g : Gr} (ok : GrOk g) {f : List Int} (h : NsOk g f) (sg : Sg) : NsOk g (lead1 g f sg) := by
  cases sg with
  | rows => exact turns_ok ok _ h
  | any => exact sset_ok ok (lstep_in ok h.1 _)
  | fld z => exact sset_ok ok (lstep_in ok h.1 _)
theorem sgs_flat : ∀ l : List Sg, Dt.flatAll (l.map sgD) = true
  | [] => rfl
  | e :: l => by rw [List.map_cons, Dt.flatAll, sgs_flat l, sgD_flat]; rfl
def isRows : Sg → Bool
  | .rows => true
  | _ => false
theorem hd_rows (sg : Sg) : Dt.beq (.txt (hdSg sg)) (.txt (Str.ofString "rows")) = isRows sg := by
  cases sg with
  | any => show Dt.beq (.txt (Str.ofString "any")) _ = false; decide
  | rows => show Dt.beq (.txt (Str.ofString "rows")) _ = true; decide
  | fld z => show Dt.beq (.txt (Str.ofString "field")) _ = false; decide
def spLead (K : PySem.W.Frag) : Sp := fun vs H Q _ => ∃ (v : V) (fl sl : Addr) (ss : List V) (g : Gr) (ns : List Int) (sgs : List Sg), vs = [v, .ref fl, .ref sl] ∧ DtAt K H v (grDt g) ∧ GrOk g ∧ H fl = some (.lst (ns.map V.int)) ∧ NsOk g ns ∧ SqL K H sl ss ∧ DtsAt K H ss (sgs.map sgD) ∧
  ∀ (p : Addr) (H1 : Hp), H p = none → H1 p = some (.lst ((lead g ns sgs).map V.int)) → Stp [] H H1 → Q (.ref p) H1
end

section
variable {P : Program} {w : World} {K : PySem.W.Frag} {mg : Str → Option Value} {base : Heap} {C : Addr}
/-! ### dicts with ints as keys -/
abbrev keyI (n : Int) : Key := Sum.inl n
/-- a datum that stands whatever is written -/
def Sta (K : PySem.W.Frag) (d : Dt) : Prop := ∀ (M : List Addr) (H H1 : Hp) (v : V), Stp M H H1 → DtAt K H v d → DtAt K H1 v d
theorem Sta.flat {d : Dt} (f : d.flat = true) : Sta K d := fun _ _ _ v s h => DtAt.stp s d v f h
theorem Sta.bl (b : Bool) : Sta K (.bl b) := fun _ _ _ v _ h => by cases h; exact .bl b
/-- the dict at d: its keys, in order, and data for each -/
def EntI (K : PySem.W.Frag) (H : Hp) (p : Key × V) (e : Int × Dt) : Prop := p.1 = keyI e.1 ∧ DtAt K H p.2 e.2 ∧ Sta K e.2
def IdAt (K : PySem.W.Frag) (H : Hp) (d : Addr) (es : List (Int × Dt)) : Prop := ∃ kvs, H d = some (.dK kvs) ∧ Paired (EntI K H) kvs es
theorem entI_stp {H H1 : Hp} {M : List Addr} {kvs : List (Key × V)} {es : List (Int × Dt)} (h : Paired (EntI K H) kvs es) (s : Stp M H H1) : Paired (EntI K H1) kvs es := by
  induction h with
  | nil => exact .nil
  | cons x _ ih => exact .cons ⟨x.1, x.2.2 _ _ _ _ s x.2.1, x.2.2⟩ ih
theorem IdAt.stp {H H1 : Hp} {M : List Addr} {d : Addr} {es : List (Int × Dt)} (h : IdAt K H d es) (s : Stp M H H1) (n : d ∉ M) : IdAt K H1 d es := let ⟨kvs, e, p⟩ := h; ⟨kvs, s.keep _ _ e n, entI_stp p s⟩
theorem entI_keys {H : Hp} {kvs : List (Key × V)} {es : List (Int × Dt)} (h : Paired (EntI K H) kvs es) : kvs.map (·.1) = es.map fun e => keyI e.1 := by
  induction h with
  | nil => rfl
  | cons x _ ih => rw [List.map_cons, List.map_cons, ih, x.1]
theorem entI_len {H : Hp} {kvs : List (Key × V)} {es : List (Int × Dt)} (h : Paired (EntI K H) kvs es) : kvs.length = es.length := by
  have := congrArg List.length (entI_keys h)
  simpa using this
/-- what the dict tells of n -/
def findI (es : List (Int × Dt)) (n : Int) : Option Dt := (es.find? fun e => decide (e.1 = n)).map (·.2)
theorem entI_val {H : Hp} {kvs : List (Key × V)} {es : List (Int × Dt)} (h : Paired (EntI K H) kvs es) (n : Int) :
    (valV kvs (keyI n) = none ∧ findI es n = none) ∨ ∃ v d, valV kvs (keyI n) = some v ∧ findI es n = some d ∧ DtAt K H v d := by
  induction h with
  | nil => exact .inl ⟨rfl, rfl⟩
  | @cons p e ps qs x t ih =>
    by_cases c : e.1 = n
    · refine .inr ⟨p.2, e.2, ?_, ?_, x.2.1⟩
      · unfold valV
        rw [List.find?_cons_of_pos (by rw [x.1, c]; simp)]; rfl
      · unfold findI
        rw [List.find?_cons_of_pos (by simp [c])]; rfl
    · have c' : ¬ p.1 = keyI n := fun z => c (by rw [x.1] at z; exact Sum.inl.inj z)
      rw [valV_neg c']
      have : findI (e :: qs) n = findI qs n := by
        unfold findI
        rw [List.find?_cons_of_neg (by simp [c])]
      rw [this]
      exact ih
theorem findI_mem {es : List (Int × Dt)} {n : Int} : (findI es n).isSome = decide (n ∈ es.map (·.1)) := by
  unfold findI
  rw [Option.isSome_map, Bool.eq_iff_iff, List.find?_isSome, decide_eq_true_eq, List.mem_map]
  constructor
  · rintro ⟨e, h1, h2⟩; exact ⟨e, h1, of_decide_eq_true h2⟩
  · rintro ⟨e, h1, h2⟩; exact ⟨e, h1, by simp [h2]⟩
theorem IdAt.has {H : Hp} {d : Addr} {es : List (Int × Dt)} (h : IdAt K H d es) (n : Int) : ∃ o, DGet H d (.int n) o ∧ o.isSome = decide (n ∈ es.map (·.1)) := by
  obtain ⟨kvs, e, p⟩ := h
  refine ⟨_, DGet.k (k := keyI n) e, ?_⟩
  rw [← findI_mem]
  rcases entI_val p n with ⟨a, b⟩ | ⟨v, x, a, b, _⟩
  · rw [a, b]; rfl
  · rw [a, b]; rfl
theorem IdAt.get {H : Hp} {d : Addr} {es : List (Int × Dt)} (h : IdAt K H d es) {n : Int} {x : Dt} (e : findI es n = some x) : ∃ v, DGet H d (.int n) (some v) ∧ DtAt K H v x := by
  obtain ⟨kvs, hd, p⟩ := h
  rcases entI_val p n with ⟨a, b⟩ | ⟨v, y, a, b, c⟩
  · rw [b] at e; cases e
  · rw [b] at e
    cases e
    exact ⟨v, by rw [← a]; exact DGet.k (k := keyI n) hd, c⟩
theorem IdAt.put {H : Hp} {d : Addr} {es : List (Int × Dt)} {n : Int} {v : V} {x : Dt} {R : Hp → Prop} (h : IdAt K H d es) (nn : n ∉ es.map (·.1)) (l : es.length ≤ 1000) (hv : DtAt K H v x) (f : Sta K x)
    (q : ∀ H4, IdAt K H4 d (es ++ [(n, x)]) → Stp [d] H H4 → R H4) : ∃ H4, DPut H d (.int n) v H4 ∧ R H4 := by
  obtain ⟨kvs, hd, p⟩ := h
  have pl := entI_len p
  have pn : valV kvs (keyI n) = none := by
    rcases entI_val p n with ⟨a, _⟩ | ⟨_, _, _, b, _⟩
    · exact a
    · have := findI_mem (es := es) (n := n)
      rw [b, decide_eq_false nn] at this
      cases this
  have s : Stp [d] H (upd H d (.dK (putK kvs (keyI n) v))) := .wr (by simp) hd fun _ z => nomatch z
  refine ⟨_, DPut.k (k := keyI n) hd (Nat.lt_of_le_of_lt (show kvs.length ≤ 1000 by omega) (by decide)), q _ ⟨_, upd_same, ?_⟩ s⟩
  have s2 := s
  rw [L2.putK_new v pn] at s2 ⊢
  exact Paired.snoc (entI_stp p s2) ⟨rfl, f _ _ _ _ s2 hv, f⟩
/-- d[n] = v anew: what is written is the same -/
theorem IdAt.again {H : Hp} {d : Addr} {es : List (Int × Dt)} {n : Int} {v : V} {x : Dt} {R : Hp → Prop} (h : IdAt K H d es) (he : ∀ e ∈ es, e.1 = n → e.2 = x) (nn : n ∈ es.map (·.1)) (l : es.length ≤ 1000) (hv : DtAt K H v x) (f : Sta K x)
    (q : ∀ H4, IdAt K H4 d es → Stp [d] H H4 → R H4) : ∃ H4, DPut H d (.int n) v H4 ∧ R H4 := by
  obtain ⟨kvs, hd, p⟩ := h
  have pl := entI_len p
  have s : Stp [d] H (upd H d (.dK (putK kvs (keyI n) v))) := .wr (by simp) hd fun _ z => nomatch z
  refine ⟨_, DPut.k (k := keyI n) hd (Nat.lt_of_le_of_lt (show kvs.length ≤ 1000 by omega) (by decide)), q _ ⟨_, upd_same, ?_⟩ s⟩
  have e1 : (kvs.any fun kv => decide (kv.1 = keyI n)) = true := by
    have e2 : (kvs.any fun kv => decide (kv.1 = keyI n)) = (kvs.map (·.1)).any fun k => decide (k = keyI n) := by rw [List.any_map]; rfl
    rw [e2, entI_keys p, List.any_map, List.any_eq_true]
    obtain ⟨e, h1, h2⟩ := List.mem_map.mp nn
    exact ⟨e, h1, by simp [h2]⟩
  have hv2 := f _ _ _ _ s hv
  have p2 := entI_stp p s
  generalize upd H d (.dK (putK kvs (keyI n) v)) = H4 at hv2 p2
  unfold putK
  rw [if_pos e1]
  clear hd pl l q s e1 p nn
  induction p2 with
  | nil => exact .nil
  | @cons a e ps qs y t ih =>
    rw [List.map_cons]
    refine .cons ?_ (ih fun e' h' => he e' (List.mem_cons_of_mem _ h'))
    by_cases c : a.1 = keyI n
    · rw [if_pos c]
      have c2 : e.1 = n := by rw [y.1] at c; exact Sum.inl.inj c
      have := he e List.mem_cons_self c2
      exact ⟨y.1, by rw [this]; exact hv2, y.2.2⟩
    · rw [if_neg c]; exact y
theorem IdAt.sort {H : Hp} {d : Addr} {es : List (Int × Dt)} {Q : VK} (h : IdAt K H d es) (l : es.length < 64) (nd : (es.map (·.1)).Nodup)
    (q : ∀ (p : Addr) (H1 : Hp), H p = none → H1 p = some (.lst ((sset (es.map (·.1))).map V.int)) → Stp [] H H1 → Q (.ref p) H1) : rSortDI [.ref d] H Q := by
  obtain ⟨kvs, hd, p⟩ := h
  refine ⟨d, kvs, es.map (·.1), rfl, hd, ?_, by rw [List.length_map]; exact l, nd, fun p hp => q p _ hp upd_same (.new hp)⟩
  rw [entI_keys p, List.map_map]; rfl
end

section
variable {P : Program} {w : World} {K : PySem.W.Frag} {mg : Str → Option Value} {base : Heap} {C : Addr}
theorem Stp.intoL {M N : List Addr} {H H1 H2 : Hp} (a : Stp M H H1) (n : ∀ c ∈ N, H c = none) (b : Stp N H1 H2) : Stp M H H2 :=
  ⟨fun c o h m => b.keep c o (a.keep c o h m) fun z => (by rw [n c z] at h; cases h), fun c xs h => b.tups c xs (a.tups c xs h), fun c ps h => let ⟨_, e⟩ := b.tbls c ps h; a.tbls c _ e⟩
/-! ### searches -/
abbrev placesS : Str := Str.ofString "places"
abbrev cameS : Str := Str.ofString "came"
abbrev atS : Str := Str.ofString "at"
abbrev Cm := List (Int × (Option Int × Str))
def cmE (e : Int × (Option Int × Str)) : Int × Dt := (e.1, .tup [ovD e.2.1, .txt e.2.2])
def plsOf (cm : Cm) : List Int := cm.map (·.1)
theorem cmE_keys (cm : Cm) : (cm.map cmE).map (·.1) = plsOf cm := by unfold plsOf; rw [List.map_map]; rfl
/-- a search at x: the places that it met, how it came there; n places were looked at -/
structure ScAt (K : PySem.W.Frag) (C : Addr) (H : Hp) (x dx pl cd : Addr) (cm : Cm) (n : Nat) : Prop where
  at_ : H x = some (.ins C dx [(placesS, .ref pl), (cameS, .ref cd), (atS, .int (n : Nat))])
  pl_ : H pl = some (.lst ((plsOf cm).map V.int))
  cd_ : IdAt K H cd (cm.map cmE)
  nd : (plsOf cm).Nodup
structure SeC (K : PySem.W.Frag) (C : Addr) : Prop where
  cls : Cls K C
  pl : NoAttr K C "places"
  cm : NoAttr K C "came"
  at_ : NoAttr K C "at"
variable {H H1 : Hp} {x dx pl cd : Addr} {cm : Cm} {n : Nat}
theorem ScAt.grow (h : ScAt K C H x dx pl cd cm n) (s : Stp [] H H1) : ScAt K C H1 x dx pl cd cm n := ⟨s.keep _ _ h.at_ (by simp), s.keep _ _ h.pl_ (by simp), h.cd_.stp s (by simp), h.nd⟩
theorem ScAt.stp {M : List Addr} (h : ScAt K C H x dx pl cd cm n) (s : Stp M H H1) (n1 : x ∉ M) (n2 : pl ∉ M) (n3 : cd ∉ M) : ScAt K C H1 x dx pl cd cm n := ⟨s.keep _ _ h.at_ n1, s.keep _ _ h.pl_ n2, h.cd_.stp s n3, h.nd⟩
theorem ScAt.ne (h : ScAt K C H x dx pl cd cm n) : pl ≠ x ∧ cd ≠ x ∧ cd ≠ pl := by
  have h1 := h.at_
  have h2 := h.pl_
  obtain ⟨kvs, h3, _⟩ := h.cd_
  refine ⟨?_, ?_, ?_⟩
  · rintro rfl; rw [h2] at h1; cases h1
  · rintro rfl; rw [h3] at h1; cases h1
  · rintro rfl; rw [h3] at h2; cases h2
def meetC (cm : Cm) (p : Int) (b : Option Int) (z : Str) : Cm := if p ∈ plsOf cm then cm else cm ++ [(p, (b, z))]
theorem meetC_len (cm : Cm) (p : Int) (b : Option Int) (z : Str) : (meetC cm p b z).length ≤ cm.length + 1 := by
  unfold meetC
  split <;> simp
theorem i_DNotIn {σ : L2.St} {H : Hp} {Q : VK} {ty td : TE} (q : ty σ H fun y H1 => td σ H1 fun x H2 => ∃ a o, x = .ref a ∧ DGet H2 a y o ∧ Q (.bl (!o.isSome)) H2) : tDNotIn ty td σ H Q := q
def spSMeet (K : PySem.W.Frag) (C : Addr) : Sp := fun vs H Q _ => ∃ (x dx pl cd : Addr) (cm : Cm) (n : Nat) (p : Int) (b : Option Int) (z : Str), vs = [.ref x, .int p, ovI b, .str z] ∧ ScAt K C H x dx pl cd cm n ∧ cm.length ≤ 900 ∧
  ∀ H1, ScAt K C H1 x dx pl cd (meetC cm p b z) n → Stp [pl, cd] H H1 → Q .non H1
theorem mth_Search_meet (F : Dfm K C d_Search_meet) (S : SeC K C) : Mth P w K mg base lv_Search_meet C "meet" ["self", "place", "before", "field"] (spSMeet K C) := by
  obtain ⟨f, fd, F, g⟩ := F
  refine ⟨f, fd, F.ok sc_Search_meet (fun vs H Q E h => ?_) (fun cdv A outer s H vs Q E hr h => ⟨_, PSs.nox
    (pss_one (ps_if (pt_cmp (pc_dnotin (hu1 hr) (pv 1) (pe_fld (pv 0) rfl)))
      (pss_cons (ps_dput (hu1 hr) (pe_fld (pv 0) rfl) (pv 1) (pe_tup (pa_cons (pv 2) (pa_cons (pv 3) pa_nil))) rfl)
        (pss_one (ps_expr (pe_bm PySem.F.plainAttrs_list PySem.F.slot_list_append PySem.F.type_list_append mt_append (pe_fld (pv 0) rfl) (pa_cons (pv 1) pa_nil)))))
      pss_nil)), ?_⟩), g, F.kp, F.bindsN fun _ _ _ _ _ _ us hl => match us, hl with | [_, _, _, _], _ => rfl⟩
  · obtain ⟨x, dx, pl, cd, cm, n, p, b, z, rfl, _⟩ := h
    rfl
  · obtain ⟨x, dx, pl, cd, cm, n, p, b, z, rfl, sc, ln, q⟩ := h
    obtain ⟨n1, n2, n3⟩ := sc.ne
    obtain ⟨ha, hp, hc, nd⟩ := sc
    have pll : (plsOf cm).length = cm.length := by unfold plsOf; rw [List.length_map]
    repeat walk_at "h"
    refine i_DNotIn ?_
    repeat walk_at "h"
    refine ⟨x, C, dx, _, .ref cd, rfl, ha, S.cls, S.cm, rfl, ?_⟩
    obtain ⟨o, ho, oe⟩ := hc.has p
    rw [cmE_keys] at oe
    refine ⟨cd, o, rfl, ho, ?_⟩
    rw [oe]
    refine ⟨_, rfl, ?_⟩
    by_cases c : p ∈ plsOf cm
    · rw [decide_eq_true c]
      refine iteF ?_
      repeat walk_at "h"
      refine q H ?_ (.refl _)
      have : meetC cm p b z = cm := by unfold meetC; rw [if_pos c]
      rw [this]
      exact ⟨ha, hp, hc, nd⟩
    · rw [decide_eq_false c]
      have em : meetC cm p b z = cm ++ [(p, (b, z))] := by unfold meetC; rw [if_neg c]
      rw [em] at q
      refine iteT ?_
      repeat walk_at "h"
      refine i_DPut ?_
      repeat walk_at "h"
      refine ⟨(by decide : 2 ≤ sizeLine), fun t nt => ?_⟩
      have s1 : Stp [] H (upd H t (.tup [ovI b, .str z])) := .new nt
      have d1 : DtAt K (upd H t (.tup [ovI b, .str z])) (.ref t) (.tup [ovD b, .txt z]) := .tup (.inl upd_same) (.cons ovAt (.cons (.txt _) .nil))
      generalize upd H t (.tup [ovI b, .str z]) = H1 at s1 d1 ⊢
      have fl : Sta K (Dt.tup [ovD b, .txt z]) := .flat (by cases b <;> rfl)
      repeat walk_at "h"
      have ha1 := s1.keep _ _ ha (by simp)
      refine ⟨x, C, dx, _, .ref cd, rfl, ha1, S.cls, S.cm, rfl, ?_⟩
      repeat walk_at "h"
      have hc1 := hc.stp s1 (by simp)
      obtain ⟨H4, hput, fin⟩ := hc1.put (n := p) (v := .ref t) (x := .tup [ovD b, .txt z]) (R := fun H4 => IdAt K H4 cd (cm.map cmE ++ [(p, .tup [ovD b, .txt z])]) ∧ Stp [cd] H1 H4) (by rw [cmE_keys]; exact c) (by rw [List.length_map]; omega) d1 fl fun H4 a b => ⟨a, b⟩
      obtain ⟨hc4, s4⟩ := fin
      refine ⟨cd, H4, rfl, hput, ?_⟩
      have s14 := (s1.mono (by simp : ∀ c ∈ [], c ∈ [cd])).trans s4
      have ha4 := s14.keep _ _ ha (by simpa using n2.symm)
      have hp4 := s14.keep _ _ hp (by simpa using n3.symm)
      repeat walk_at "h"
      refine ⟨x, C, dx, _, .ref pl, rfl, ha4, S.cls, S.pl, rfl, ?_⟩
      repeat walk_at "h"
      refine ⟨.inl ⟨rfl, _, SqL.of hp4⟩, ?_⟩
      repeat walk_at "h"
      refine ⟨pl, _, .int p, rfl, rfl, hp4, by rw [List.length_map, pll]; exact Nat.lt_of_le_of_lt (show cm.length ≤ 900 from ln) (by decide), ?_⟩
      have s5 : Stp [pl] H4 (upd H4 pl (.lst ((plsOf cm).map V.int ++ [.int p]))) := .wr (by simp) hp4 fun _ z => nomatch z
      have e5 : plsOf (cm ++ [(p, (b, z))]) = plsOf cm ++ [p] := by unfold plsOf; rw [List.map_append]; rfl
      repeat walk_at "h"
      refine q _ ⟨s5.keep _ _ ha4 (by simpa using n1.symm), by rw [upd_same, e5, map_snoc], ?_, ?_⟩ ((s14.mono (by simp)).trans (s5.mono (by simp)))
      · rw [List.map_append]
        exact hc4.stp s5 (by simpa using n3)
      · rw [e5]
        refine List.nodup_append.mpr ⟨nd, by simp, fun a ha b hb => ?_⟩
        rw [List.mem_singleton.mp hb]
        rintro rfl
        exact c ha
def spSNext (K : PySem.W.Frag) (C : Addr) : Sp := fun vs H Q _ => ∃ (x dx pl cd : Addr) (cm : Cm) (n : Nat), vs = [.ref x] ∧ ScAt K C H x dx pl cd cm n ∧ n ≤ cm.length ∧
  (n = cm.length → Q .non H) ∧ ∀ (p : Int) (H1 : Hp), (plsOf cm)[n]? = some p → ScAt K C H1 x dx pl cd cm (n + 1) → Stp [x] H H1 → Q (.int p) H1
theorem mth_Search_next_place (F : Dfm K C d_Search_next_place) (B : Blt mg) (S : SeC K C) : Mth P w K mg base lv_Search_next_place C "next_place" ["self"] (spSNext K C) := by
  obtain ⟨f, fd, F, g⟩ := F
  refine ⟨f, fd, F.ok sc_Search_next_place (fun vs H Q E h => ?_) (fun cdv A outer s H vs Q E hr h => ⟨_, PSs.nox
    (pss_cons (ps_if (pt_cmpR op_eq (pe_fld (pv 0) rfl) (pe_callB call_len_seq (by rfl) B.len boot_len (pa_cons (pe_fld (pv 0) rfl) pa_nil)) (nomark _))
      (pss_one (ps_ret pe_non))
      pss_nil)
    (pss_cons (ps_fldaug (pv 0) pe_int in_add)
    (pss_one (ps_ret (pe_ix (ix_listK (K := K) rfl) (pe_fld (pv 0) rfl) (pe_op op_sub (pe_fld (pv 0) rfl) pe_int) (fun _ _ => rfl)))))), ?_⟩), g, F.kp, F.bindsN fun _ _ _ _ _ _ us hl => match us, hl with | [_], _ => rfl⟩
  · obtain ⟨x, dx, pl, cd, cm, n, rfl, _⟩ := h
    rfl
  · obtain ⟨x, dx, pl, cd, cm, n, rfl, sc, ln, q0, q1⟩ := h
    obtain ⟨n1, n2, n3⟩ := sc.ne
    obtain ⟨ha, hp, hc, nd⟩ := sc
    have pll : (plsOf cm).length = cm.length := by unfold plsOf; rw [List.length_map]
    repeat walk_at "h"
    refine ⟨x, C, dx, _, _, rfl, ha, S.cls, S.at_, rfl, ?_⟩
    repeat walk_at "h"
    refine ⟨x, C, dx, _, .ref pl, rfl, ha, S.cls, S.pl, rfl, ?_⟩
    repeat walk_at "h"
    refine ⟨pl, _, rfl, .inl (SqL.of hp), ?_⟩
    rw [List.length_map, pll]
    refine i_Eq rfl ⟨_, rfl, ?_⟩
    by_cases c : n = cm.length
    · rw [decide_eq_true (show V.int (n : Nat) = V.int (cm.length : Nat) by rw [c])]
      refine iteT ?_
      repeat walk_at "h"
      exact q0 c
    · rw [decide_eq_false (show ¬ V.int (n : Nat) = V.int (cm.length : Nat) from fun z => c (by injection z with z; omega))]
      refine iteF ?_
      have lt : n < (plsOf cm).length := by omega
      repeat walk_at "h"
      refine ⟨_, rfl, x, C, dx, _, _, rfl, ha, S.cls, S.at_, rfl, ?_⟩
      repeat walk_at "h"
      refine ⟨_, _, rfl, rfl, dx, _, ha, (show 3 < 1000 by decide), ?_⟩
      have s1 : Stp [x] H (upd H x (.ins C dx (putF "at" (.int ((n : Nat) + 1)) [(placesS, .ref pl), (cameS, .ref cd), (atS, .int (n : Nat))]))) := .wr (by simp) ha fun _ z => nomatch z
      have a1 : (upd H x (.ins C dx (putF "at" (.int ((n : Nat) + 1)) [(placesS, .ref pl), (cameS, .ref cd), (atS, .int (n : Nat))]))) x = some (.ins C dx [(placesS, .ref pl), (cameS, .ref cd), (atS, .int ((n + 1 : Nat) : Nat))]) := upd_same
      have sc1 : ScAt K C _ x dx pl cd cm (n + 1) := ⟨a1, s1.keep _ _ hp (by simpa using n1), hc.stp s1 (by simpa using n2), nd⟩
      generalize upd H x (.ins C dx (putF "at" (.int ((n : Nat) + 1)) [(placesS, .ref pl), (cameS, .ref cd), (atS, .int (n : Nat))])) = H1 at s1 a1 sc1 ⊢
      repeat walk_at "h"
      refine ⟨x, C, dx, _, .ref pl, rfl, a1, S.cls, S.pl, rfl, ?_⟩
      repeat walk_at "h"
      refine ⟨x, C, dx, _, _, rfl, a1, S.cls, S.at_, rfl, ?_⟩
      have e1 := List.getElem?_eq_getElem lt
      repeat walk_at "h"
      refine i_IxL (SqL.of sc1.pl_) (at_of (j := n) (by omega) (by rw [List.getElem?_map, e1]; rfl)) ?_
      exact q1 _ _ e1 sc1 s1
def spSInit (K : PySem.W.Frag) (C : Addr) : Sp := fun vs H Q _ => ∃ (x dx l : Addr) (ns : List Int), vs = [.ref x, .ref l] ∧ H x = some (.ins C dx []) ∧ SqL K H l (ns.map V.int) ∧ l ≠ x ∧ ns.length ≤ 900 ∧
  ∀ (pl cd : Addr) (H1 : Hp), H pl = none → H cd = none → ScAt K C H1 x dx pl cd (ns.foldl (fun cm p => meetC cm p none (Str.ofString "")) []) 0 → Stp [x] H H1 → Q .non H1
theorem mki_Search_init (F : Dfi K mg C "Search" d_Search_init) (S : SeC K C) (CL_Search : Cls K C) (M_Search_meet : Mth P w K mg base lv_Search_meet C "meet" ["self", "place", "before", "field"] (spSMeet K C)) : Mki P w K mg base lv_Search_init C "Search" ["self", "starts"] (spSInit K C) := by
  obtain ⟨f, fd, F, g⟩ := F
  refine ⟨f, fd, F.ok sc_Search_init (fun vs H Q E h => ?_) (fun cdv A outer s H vs Q E hr h => ⟨_, PSs.nox
    (pss_cons (ps_fld (pv 0) (pe_lst pa_nil) rfl)
    (pss_cons (ps_fld (pv 0) pe_dnewK rfl)
    (pss_cons (ps_fld (pv 0) pe_int rfl)
    (pss_one (ps_for PassesOwn.never rfl (pi_list (pv 1)) (pg_name (i := 2) sc_Search_init.nd rfl (Or.inl rfl))
      (pss_one (ps_expr (pc_meth (pv 0) CL_Search M_Search_meet (hr.mono (by decide)) (pa_cons (pv 2) (pa_cons pe_non (pa_cons pe_str pa_nil))))))))))), ?_⟩), g, F.kp, F.bindsN fun _ _ _ _ _ _ us hl => match us, hl with | [_, _], _ => rfl⟩
  · obtain ⟨x, dx, l, ns, rfl, _⟩ := h
    rfl
  · obtain ⟨x, dx, l, ns, rfl, hx, hl, lx, ln, q⟩ := h
    repeat walk_at "h"
    refine ⟨Nat.zero_le _, fun pl npl => ?_⟩
    have s1 : Stp [] H (upd H pl (.lst [])) := .new npl
    have p1 : (upd H pl (.lst [])) pl = some (.lst []) := upd_same
    generalize upd H pl (.lst []) = H1 at s1 p1 ⊢
    have x1 := s1.keep _ _ hx (by simp)
    repeat walk_at "h"
    refine ⟨x, C, dx, [], rfl, x1, S.cls, S.pl, by decide, ?_⟩
    have s2 : Stp [x] H1 (upd H1 x (.ins C dx (putF "places" (.ref pl) []))) := .wr (by simp) x1 fun _ z => nomatch z
    have x2 : (upd H1 x (.ins C dx (putF "places" (.ref pl) []))) x = some (.ins C dx [(placesS, .ref pl)]) := upd_same
    have px : pl ≠ x := by
      rintro rfl
      rw [p1] at x1; cases x1
    have p2 := s2.keep _ _ p1 (by simpa using px)
    generalize upd H1 x (.ins C dx (putF "places" (.ref pl) [])) = H2 at s2 x2 p2 ⊢
    repeat walk_at "h"
    refine i_DNewK fun cd ncd => ?_
    have s3 : Stp [] H2 (upd H2 cd (.dK [])) := .new ncd
    have c3 : IdAt K (upd H2 cd (.dK [])) cd (([] : Cm).map cmE) := ⟨[], upd_same, .nil⟩
    have x3 := s3.keep _ _ x2 (by simp)
    have p3 := s3.keep _ _ p2 (by simp)
    have cx : cd ≠ x := (ne_of_none x2 ncd).symm
    generalize upd H2 cd (.dK []) = H3 at s3 c3 x3 p3 ⊢
    repeat walk_at "h"
    refine ⟨x, C, dx, _, rfl, x3, S.cls, S.cm, (show 1 < 1000 by decide), ?_⟩
    have s4 : Stp [x] H3 (upd H3 x (.ins C dx (putF "came" (.ref cd) [(placesS, .ref pl)]))) := .wr (by simp) x3 fun _ z => nomatch z
    have x4 : (upd H3 x (.ins C dx (putF "came" (.ref cd) [(placesS, .ref pl)]))) x = some (.ins C dx [(placesS, .ref pl), (cameS, .ref cd)]) := upd_same
    have p4 := s4.keep _ _ p3 (by simpa using px)
    have c4 := c3.stp s4 (by simpa using cx)
    generalize upd H3 x (.ins C dx (putF "came" (.ref cd) [(placesS, .ref pl)])) = H4 at s4 x4 p4 c4 ⊢
    repeat walk_at "h"
    refine ⟨x, C, dx, _, rfl, x4, S.cls, S.at_, (show 2 < 1000 by decide), ?_⟩
    have s5 : Stp [x] H4 (upd H4 x (.ins C dx (putF "at" (.int 0) [(placesS, .ref pl), (cameS, .ref cd)]))) := .wr (by simp) x4 fun _ z => nomatch z
    have x5 : (upd H4 x (.ins C dx (putF "at" (.int 0) [(placesS, .ref pl), (cameS, .ref cd)]))) x = some (.ins C dx [(placesS, .ref pl), (cameS, .ref cd), (atS, .int ((0 : Nat) : Nat))]) := upd_same
    have p5 := s5.keep _ _ p4 (by simpa using px)
    have c5 := c4.stp s5 (by simpa using cx)
    generalize upd H4 x (.ins C dx (putF "at" (.int 0) [(placesS, .ref pl), (cameS, .ref cd)])) = H5 at s5 x5 p5 c5 ⊢
    have s05 : Stp [x] H H5 := (((((s1.mono (by simp)).trans s2).trans (s3.mono (by simp))).trans s4).trans s5)
    have ncd0 : H cd = none := ((s1.mono (M' := [x]) (by simp)).trans s2).free ncd (by simpa using cx)
    have sc5 : ScAt K C H5 x dx pl cd [] 0 := ⟨x5, p5, c5, by simp [plsOf]⟩
    clear s1 s2 s3 s4 s5 x1 x2 x3 x4 p1 p2 p3 p4 c3 c4 x5 p5 c5
    repeat walk_at "h"
    refine ⟨l, rfl, ⟨_, s05.seq hl (by simpa using lx)⟩, ?_⟩
    refine for_list (xs := ns.map V.int) (fun i σ H' => ∃ y2 : Option V, σ = [some (.ref x), some (.ref l), y2] ∧ Stp [x] H H' ∧ ScAt K C H' x dx pl cd ((ns.take i).foldl (fun cm p => meetC cm p none (Str.ofString "")) []) 0 ∧ ((ns.take i).foldl (fun cm p => meetC cm p none (Str.ofString "")) []).length ≤ i)
      ⟨_, rfl, s05, sc5, Nat.le_refl _⟩ (fun i σ H' _ ⟨_, _, s, _⟩ => s.seq hl (by simpa using lx)) ?_ ?_
    · rintro i v σ H6 hv ⟨y2, rfl, s6, sc6, l6⟩
      rw [List.getElem?_map] at hv
      obtain ⟨p, hp, rfl⟩ := Option.map_eq_some_iff.mp hv
      have tk : ns.take (i + 1) = ns.take i ++ [p] := by rw [List.take_add_one, hp]; rfl
      have hi := (List.getElem?_eq_some_iff.mp hp).1
      rw [tk, List.foldl_append, List.foldl_cons, List.foldl_nil]
      generalize (ns.take i).foldl (fun cm p => meetC cm p none (Str.ofString "")) [] = cm at sc6 l6 ⊢
      repeat walk_at "h"
      refine ⟨x, dx, _, rfl, sc6.at_, rfl, ?_⟩
      repeat walk_at "h"
      refine ⟨x, dx, pl, cd, cm, 0, p, none, Str.ofString "", rfl, sc6, by omega, fun H7 sc7 s7 => ?_⟩
      repeat walk_at "h"
      refine ⟨_, rfl, ?_, sc7, by have := meetC_len cm p none (Str.ofString ""); omega⟩
      exact s6.intoL (fun c hc => by
        rcases List.mem_cons.mp hc with z | z
        · rw [z]; exact npl
        · rw [List.mem_singleton.mp z]; exact ncd0) s7
    · rintro σ H6 ⟨y2, rfl, s6, sc6, l6⟩
      rw [List.length_map, List.take_length] at sc6
      repeat walk_at "h"
      exact q pl cd H6 npl ncd0 sc6 s6
end

section
variable {P : Program} {w : World} {K : PySem.W.Frag} {mg : Str → Option Value} {base : Heap} {C : Addr}
/-! ### a search in breadth -/
theorem pls_meet (cm : Cm) (p : Int) (b : Option Int) (z : Str) : plsOf (meetC cm p b z) = if p ∈ plsOf cm then plsOf cm else plsOf cm ++ [p] := by
  unfold meetC
  split
  · rfl
  · unfold plsOf; rw [List.map_append]; rfl
theorem pls_meet_mem (cm : Cm) (p : Int) (b : Option Int) (z : Str) (k : Int) : k ∈ plsOf (meetC cm p b z) ↔ k ∈ plsOf cm ∨ k = p := by
  rw [pls_meet]
  split
  · exact ⟨.inl, fun h => h.elim id fun e => by rw [e]; assumption⟩
  · simp
/-- the links of n, one behind the other -/
def meets (n : Int) (cm : Cm) (lk : List (Str × Int)) : Cm := lk.foldl (fun cm e => meetC cm e.2 (some n) e.1) cm
theorem meets_mem (n : Int) (k : Int) : ∀ (lk : List (Str × Int)) (cm : Cm), k ∈ plsOf (meets n cm lk) ↔ k ∈ plsOf cm ∨ ∃ e ∈ lk, e.2 = k
  | [], cm => by simp [meets]
  | e :: lk, cm => by
    have h := meets_mem n k lk (meetC cm e.2 (some n) e.1)
    rw [pls_meet_mem] at h
    rw [show meets n cm (e :: lk) = meets n (meetC cm e.2 (some n) e.1) lk from rfl, h]
    constructor
    · rintro ((z | z) | ⟨x, z, y⟩)
      · exact .inl z
      · exact .inr ⟨e, List.mem_cons_self, z.symm⟩
      · exact .inr ⟨x, List.mem_cons_of_mem _ z, y⟩
    · rintro (z | ⟨x, z, y⟩)
      · exact .inl (.inl z)
      · rcases List.mem_cons.mp z with w | w
        · rw [w] at y; exact .inl (.inr y.symm)
        · exact .inr ⟨x, w, y⟩
theorem meetC_pre (cm : Cm) (p : Int) (b : Option Int) (z : Str) : cm <+: meetC cm p b z := by
  unfold meetC
  split
  · exact List.prefix_refl _
  · exact List.prefix_append _ _
theorem meets_pre (n : Int) : ∀ (lk : List (Str × Int)) (cm : Cm), cm <+: meets n cm lk
  | [], cm => List.prefix_refl _
  | e :: lk, cm => (meetC_pre cm e.2 (some n) e.1).trans (meets_pre n lk _)
theorem pls_pre {a b : Cm} (h : a <+: b) : plsOf a <+: plsOf b := by
  obtain ⟨t, rfl⟩ := h
  exact ⟨plsOf t, by unfold plsOf; rw [List.map_append]⟩
theorem pre_get {α : Type} {a b : List α} (h : a <+: b) {i : Nat} {x : α} (e : a[i]? = some x) : b[i]? = some x := by
  obtain ⟨t, rfl⟩ := h
  rw [List.getElem?_append_left (List.getElem?_eq_some_iff.mp e).1]; exact e
/-- what n leads to -/
def tgs (g : Gr) (n : Int) : List Int := (linksOf (rowAt g n)).map (·.2)
theorem stepAt_rows (g : Gr) (n : Int) : stepAt g .rows n = tgs g n := by
  unfold stepAt tgs
  have e : (linksOf (rowAt g n)).filter (fun e => okSg .rows e.1) = linksOf (rowAt g n) := List.filter_eq_self.mpr fun _ _ => rfl
  rw [e]
def Cl (g : Gr) (D : Int → Prop) : Prop := ∀ n, D n → ∀ m ∈ tgs g n, D m
/-- os is the least set that is closed, with ns in it -/
def Least (g : Gr) (ns os : List Int) : Prop := (∀ n ∈ ns, n ∈ os) ∧ Cl g (· ∈ os) ∧ ∀ D : Int → Prop, (∀ n ∈ ns, D n) → Cl g D → ∀ n ∈ os, D n
theorem Least.same {g : Gr} {ns a b : List Int} (h1 : Least g ns a) (h2 : Least g ns b) (k : Int) : k ∈ a ↔ k ∈ b :=
  ⟨h1.2.2 (· ∈ b) h2.1 h2.2.1 k, h2.2.2 (· ∈ a) h1.1 h1.2.1 k⟩
theorem Least.congr {g : Gr} {ns ms a : List Int} (h : Least g ns a) (e : ∀ k, k ∈ ns ↔ k ∈ ms) : Least g ms a :=
  ⟨fun n hn => h.1 n ((e n).mpr hn), h.2.1, fun D h1 h2 => h.2.2 D (fun n hn => h1 n ((e n).mp hn)) h2⟩
theorem tgs_in {g : Gr} (ok : GrOk g) {n : Int} (h : inG g n) : ∀ m ∈ tgs g n, inG g m := by
  intro m hm
  rw [← stepAt_rows] at hm
  exact stepAt_in ok h .rows m hm
/-- a search from ns, k places of ps were looked at -/
structure Bfs (g : Gr) (ns ps : List Int) (k : Nat) : Prop where
  nd : ps.Nodup
  has : ∀ n ∈ ns, n ∈ ps
  low : ∀ D : Int → Prop, (∀ n ∈ ns, D n) → Cl g D → ∀ n ∈ ps, D n
  done : ∀ i n, i < k → ps[i]? = some n → ∀ m ∈ tgs g n, m ∈ ps
  inn : ∀ n ∈ ps, inG g n
theorem Bfs.least {g : Gr} {ns ps : List Int} (h : Bfs g ns ps ps.length) : Least g ns ps :=
  ⟨h.has, fun n hn m hm => by
    obtain ⟨i, hi⟩ := List.mem_iff_getElem?.mp hn
    exact h.done i n (List.getElem?_eq_some_iff.mp hi).1 hi m hm, h.low⟩
theorem Bfs.next {g : Gr} {ns : List Int} {cm : Cm} {k : Nat} {n : Int} (ok : GrOk g) (h : Bfs g ns (plsOf cm) k) (hn : (plsOf cm)[k]? = some n) (nd : (plsOf (meets n cm (linksOf (rowAt g n)))).Nodup) :
    Bfs g ns (plsOf (meets n cm (linksOf (rowAt g n)))) (k + 1) := by
  have pre := pls_pre (meets_pre n (linksOf (rowAt g n)) cm)
  have hmem := List.mem_of_getElem? hn
  have mem : ∀ m, m ∈ plsOf (meets n cm (linksOf (rowAt g n))) ↔ m ∈ plsOf cm ∨ m ∈ tgs g n := fun m => by
    rw [meets_mem]
    unfold tgs
    rw [List.mem_map]
  refine ⟨nd, fun m hm => (mem m).mpr (.inl (h.has m hm)), fun D h1 h2 m hm => ?_, fun i m hi hm t ht => ?_, fun m hm => ?_⟩
  · rcases (mem m).mp hm with z | z
    · exact h.low D h1 h2 m z
    · exact h2 n (h.low D h1 h2 n hmem) m z
  · by_cases c : i = k
    · subst c
      have e := pre_get pre hn
      rw [hm] at e
      obtain rfl := Option.some.inj e
      exact (mem t).mpr (.inr ht)
    · have lt : i < (plsOf cm).length := by
        have := (List.getElem?_eq_some_iff.mp hn).1
        omega
      have e0 := List.getElem?_eq_getElem lt
      have e := pre_get pre e0
      rw [hm] at e
      obtain e1 := Option.some.inj e
      exact (mem t).mpr (.inl (h.done i m (by omega) (by rw [e1]; exact e0) t ht))
  · rcases (mem m).mp hm with z | z
    · exact h.inn m z
    · exact tgs_in ok (h.inn n hmem) m z
theorem start_mem (ns : List Int) : ∀ (cm : Cm) (k : Int), k ∈ plsOf (ns.foldl (fun cm p => meetC cm p none (Str.ofString "")) cm) ↔ k ∈ plsOf cm ∨ k ∈ ns := by
  induction ns with
  | nil => intro cm k; simp
  | cons n ns ih =>
    intro cm k
    rw [List.foldl_cons, ih, pls_meet_mem, List.mem_cons, or_assoc]
theorem Bfs.start {g : Gr} {ns : List Int} (h : ∀ n ∈ ns, inG g n) (nd : (plsOf (ns.foldl (fun cm p => meetC cm p none (Str.ofString "")) [])).Nodup) :
    Bfs g ns (plsOf (ns.foldl (fun cm p => meetC cm p none (Str.ofString "")) [])) 0 := by
  have mem : ∀ k, k ∈ plsOf (ns.foldl (fun cm p => meetC cm p none (Str.ofString "")) []) ↔ k ∈ ns := fun k => by rw [start_mem]; simp [plsOf]
  exact ⟨nd, fun n hn => (mem n).mpr hn, fun D h1 _ n hn => h1 n ((mem n).mp hn), fun i n hi => by omega, fun n hn => h n ((mem n).mp hn)⟩
theorem pls_len (cm : Cm) : (plsOf cm).length = cm.length := by unfold plsOf; rw [List.length_map]
theorem Bfs.len {g : Gr} {ns ps : List Int} {k : Nat} (ok : GrOk g) (h : Bfs g ns ps k) : ps.length ≤ 12 := Nat.le_trans (in_len h.nd h.inn) ok.1
/-- what next_place tells, and the search behind it -/
def Told (cm : Cm) (k : Nat) (num : V) (k' : Nat) : Prop := (num = .non ∧ k = cm.length ∧ k' = k) ∨ ∃ p, num = .int p ∧ (plsOf cm)[k]? = some p ∧ k' = k + 1
theorem next_i {H : Hp} {Q : VK} {E : XK} {x dx pl cd : Addr} {cm : Cm} {k : Nat} (sc : ScAt K C H x dx pl cd cm k) (l : k ≤ cm.length)
    (q : ∀ (num : V) (k' : Nat) (H1 : Hp), Stp [x] H H1 → ScAt K C H1 x dx pl cd cm k' → Told cm k num k' → Q num H1) : spSNext K C [.ref x] H Q E :=
  ⟨x, dx, pl, cd, cm, k, rfl, sc, l, fun e => q .non k H (.refl _) sc (.inl ⟨rfl, e, rfl⟩), fun p H1 hp sc1 s1 => q (.int p) (k + 1) H1 s1 sc1 (.inr ⟨p, rfl, hp, rfl⟩)⟩
/-- the state of the walk at the head of its loop -/
def CW (K : PySem.W.Frag) (C : Addr) (g : Gr) (ns : List Int) (x dx pl cd : Addr) (num : V) (H' : Hp) (m : Nat) : Prop :=
  ∃ (cm : Cm) (k k' : Nat), ScAt K C H' x dx pl cd cm k' ∧ Bfs g ns (plsOf cm) k ∧ k ≤ cm.length ∧ Told cm k num k' ∧ m = 13 - k + (if num = .non then 0 else 1)
def spClos (K : PySem.W.Frag) : Sp := fun vs H Q _ => ∃ (v : V) (fl : Addr) (g : Gr) (ns : List Int), vs = [v, .ref fl] ∧ DtAt K H v (grDt g) ∧ GrOk g ∧ H fl = some (.lst (ns.map V.int)) ∧ NsOk g ns ∧
  ∀ (p : Addr) (os : List Int) (H1 : Hp), H p = none → H1 p = some (.lst (os.map V.int)) → os.Pairwise (· < ·) → Least g ns os → Stp [] H H1 → Q (.ref p) H1
end

/-! ### the law's rounds end -/
theorem lstep_mem {g : Gr} {f : List Int} {sg : Sg} {k : Int} : k ∈ lstep g f sg ↔ ∃ n ∈ f, k ∈ stepAt g sg n := by
  unfold lstep
  rw [List.mem_flatten]
  constructor
  · rintro ⟨l, h1, h2⟩
    obtain ⟨n, hn, rfl⟩ := List.mem_map.mp h1
    exact ⟨n, hn, h2⟩
  · rintro ⟨n, hn, hk⟩
    exact ⟨_, List.mem_map.mpr ⟨n, hn, rfl⟩, hk⟩
theorem turnR_mem {g : Gr} {f : List Int} {k : Int} : k ∈ turnR g f ↔ k ∈ f ∨ ∃ n ∈ f, k ∈ tgs g n := by
  unfold turnR
  rw [sset_mem, List.mem_append, lstep_mem]
  simp only [stepAt_rows]
theorem turns_has {g : Gr} {f : List Int} : ∀ (n : Nat), ∀ k ∈ f, k ∈ turns g n f
  | 0, _, h => h
  | n + 1, k, h => turnR_mem.mpr (.inl (turns_has n k h))
theorem turns_low {g : Gr} {f : List Int} {D : Int → Prop} (h1 : ∀ n ∈ f, D n) (h2 : Cl g D) : ∀ (n : Nat), ∀ k ∈ turns g n f, D k
  | 0, k, h => h1 k h
  | n + 1, k, h => (turnR_mem.mp h).elim (turns_low h1 h2 n k) fun ⟨m, hm, hk⟩ => h2 m (turns_low h1 h2 n m hm) k hk
theorem turns_grow {g : Gr} {f : List Int} : ∀ n : Nat, Cl g (· ∈ turns g n f) ∨ n ≤ (sset (turns g n f)).length
  | 0 => .inr (Nat.zero_le _)
  | n + 1 => by
    rcases Classical.em (Cl g (· ∈ turns g n f)) with c | c
    · refine .inl fun k hk m hm => ?_
      have hk' : k ∈ turns g n f := (turnR_mem.mp hk).elim id fun ⟨x, hx, h⟩ => c x hx k h
      exact turnR_mem.mpr (.inl (c k hk' m hm))
    · rcases turns_grow n with d | d
      · exact absurd d c
      · refine .inr ?_
        have : ∃ x m, x ∈ turns g n f ∧ m ∈ tgs g x ∧ m ∉ turns g n f := by
          apply Classical.byContradiction
          intro no
          exact c fun x hx m hm => Classical.byContradiction fun z => no ⟨x, m, hx, hm, z⟩
        obtain ⟨x, m, hx, hm, hn⟩ := this
        have l := len_sub (m :: sset (turns g n f)) (sset (turns g (n + 1) f)) (List.nodup_cons.mpr ⟨fun z => hn ((sset_mem _ _).mp z), sset_nodup _⟩) fun k hk => by
          rw [sset_mem]
          rcases List.mem_cons.mp hk with z | z
          · rw [z]; exact turnR_mem.mpr (.inr ⟨x, hx, hm⟩)
          · exact turnR_mem.mpr (.inl ((sset_mem _ _).mp z))
        rw [List.length_cons] at l
        omega
theorem turns_least {g : Gr} (ok : GrOk g) {f : List Int} (h : NsOk g f) : Least g f (turns g g.2.length f) := by
  refine ⟨turns_has _, ?_, fun D h1 h2 => turns_low h1 h2 _⟩
  rcases turns_grow (g := g) (f := f) g.2.length with c | c
  · exact c
  · have tok := (turns_ok ok g.2.length h).1
    intro n hn m hm
    apply Classical.byContradiction
    intro z
    have l := in_len (g := g) (f := m :: sset (turns g g.2.length f)) (List.nodup_cons.mpr ⟨fun y => z ((sset_mem _ _).mp y), sset_nodup _⟩) fun k hk => by
      rcases List.mem_cons.mp hk with y | y
      · rw [y]; exact tgs_in ok (tok n hn) m hm
      · exact tok k ((sset_mem _ _).mp y)
    rw [List.length_cons] at l
    omega
/-- what a single step of the program tells -/
def RB (g : Gr) (ns : List Int) (sg : Sg) (os : List Int) : Prop := os.Pairwise (· < ·) ∧ match sg with
  | .rows => Least g ns os
  | sg => os = sset (lstep g ns sg)
theorem sset_sset (l : List Int) : sset (sset l) = sset l := sset_cong fun k => sset_mem l k
theorem rb_lead {g : Gr} (ok : GrOk g) {f os : List Int} {sg : Sg} (h : NsOk g f) (r : RB g (sset f) sg os) : os = sset (lead1 g f sg) := by
  obtain ⟨as, r⟩ := r
  have st : ∀ sg : Sg, sset (lstep g (sset f) sg) = sset (lstep g f sg) := fun sg => sset_cong fun k => by
    rw [lstep_mem, lstep_mem]
    simp only [sset_mem]
  cases sg with
  | rows =>
    have r' : Least g (sset f) os := r
    refine sset_of as fun k => ?_
    exact (r'.congr fun k => sset_mem f k).same (turns_least ok h) k
  | any =>
    have r' : os = sset (lstep g (sset f) .any) := r
    rw [r', st, show lead1 g f .any = sset (lstep g f .any) from rfl, sset_sset]
  | fld z =>
    have r' : os = sset (lstep g (sset f) (.fld z)) := r
    rw [r', st, show lead1 g f (.fld z) = sset (lstep g f (.fld z)) from rfl, sset_sset]
theorem lead_step {g : Gr} {ns : List Int} {sgs : List Sg} {sg : Sg} : sset ((sgs ++ [sg]).foldl (lead1 g) ns) = sset (lead1 g (sgs.foldl (lead1 g) ns) sg) := by
  rw [List.foldl_append]; rfl
theorem leads_ok {g : Gr} (ok : GrOk g) : ∀ (sgs : List Sg) {ns : List Int}, NsOk g ns → NsOk g (sgs.foldl (lead1 g) ns)
  | [], _, h => h
  | sg :: sgs, _, h => leads_ok ok sgs (lead1_ok ok h sg)

section
variable {P : Program} {w : World} {K : PySem.W.Frag} {mg : Str → Option Value} {base : Heap} {C : Addr}
/-! ### single steps of the program -/
def keyB (k : Int) : Int × Dt := (k, .bl true)
theorem keyB_keys (ks : List Int) : (ks.map keyB).map (·.1) = ks := by
  rw [List.map_map]
  exact List.map_id' ks
/-- a new key, or one that is there -/
def addK (ks : List Int) (k : Int) : List Int := if k ∈ ks then ks else ks ++ [k]
theorem addK_mem (ks : List Int) (k x : Int) : x ∈ addK ks k ↔ x ∈ ks ∨ x = k := by
  unfold addK
  split
  · exact ⟨.inl, fun h => h.elim id fun e => by rw [e]; assumption⟩
  · simp
theorem addK_nd {ks : List Int} (h : ks.Nodup) (k : Int) : (addK ks k).Nodup := by
  unfold addK
  split
  · exact h
  · refine List.nodup_append.mpr ⟨h, by simp, fun a ha b hb => ?_⟩
    rw [List.mem_singleton.mp hb]
    rintro rfl
    contradiction
theorem idAt_add {H : Hp} {d : Addr} {ks : List Int} {k : Int} {R : Hp → Prop} (h : IdAt K H d (ks.map keyB)) (l : ks.length ≤ 1000) (q : ∀ H4, IdAt K H4 d ((addK ks k).map keyB) → Stp [d] H H4 → R H4) : ∃ H4, DPut H d (.int k) (.bl true) H4 ∧ R H4 := by
  by_cases c : k ∈ ks
  · have e : addK ks k = ks := by unfold addK; rw [if_pos c]
    rw [e] at q
    exact h.again (x := .bl true) (fun x hx _ => by
      obtain ⟨y, _, rfl⟩ := List.mem_map.mp hx
      rfl) (by rw [keyB_keys]; exact c) (by rw [List.length_map]; exact l) (.bl true) (.bl true) q
  · have e : addK ks k = ks ++ [k] := by unfold addK; rw [if_neg c]
    rw [e, List.map_append] at q
    exact h.put (x := .bl true) (by rw [keyB_keys]; exact c) (by rw [List.length_map]; exact l) (.bl true) (.bl true) q
def spRB (K : PySem.W.Frag) : Sp := fun vs H Q _ => ∃ (v sv : V) (fl : Addr) (g : Gr) (ns : List Int) (sg : Sg), vs = [v, .ref fl, sv] ∧ DtAt K H v (grDt g) ∧ GrOk g ∧ H fl = some (.lst (ns.map V.int)) ∧ NsOk g ns ∧ DtAt K H sv (sgD sg) ∧
  ∀ (p : Addr) (os : List Int) (H1 : Hp), H p = none → H1 p = some (.lst (os.map V.int)) → RB g ns sg os → Stp [] H H1 → Q (.ref p) H1
def isAny : Sg → Bool
  | .any => true
  | _ => false
theorem hd_any (sg : Sg) : Dt.beq (.txt (hdSg sg)) (.txt (Str.ofString "any")) = isAny sg := by
  cases sg with
  | any => show Dt.beq (.txt (Str.ofString "any")) _ = true; decide
  | rows => show Dt.beq (.txt (Str.ofString "rows")) _ = false; decide
  | fld z => show Dt.beq (.txt (Str.ofString "field")) _ = false; decide
theorem txt_beq (a b : Str) : Dt.beq (.txt a) (.txt b) = decide (a = b) := by
  by_cases c : a = b
  · rw [c, Dt.beq_self]; simp
  · rw [decide_eq_false c]
    cases q : Dt.beq (.txt a) (.txt b) with
    | false => rfl
    | true => exact absurd (by have := Dt.eq_of_beq _ _ rfl rfl q; injection this) c
def spFollow (K : PySem.W.Frag) : Sp := fun vs H Q _ => ∃ (v : V) (fl sl : Addr) (ss : List V) (g : Gr) (ns : List Int) (sgs : List Sg), vs = [v, .ref fl, .ref sl] ∧ DtAt K H v (grDt g) ∧ GrOk g ∧ H fl = some (.lst (ns.map V.int)) ∧ NsOk g ns ∧ SqL K H sl ss ∧ DtsAt K H ss (sgs.map sgD) ∧
  ∀ (p : Addr) (H1 : Hp), H p = none → H1 p = some (.lst ((lead g ns sgs).map V.int)) → Stp [] H H1 → Q (.ref p) H1
end

section
variable {P : Program} {w : World} {K : PySem.W.Frag} {mg : Str → Option Value} {base : Heap} {C : Addr}
/-! ### graphs that are drawn -/
theorem pickG {xs : List V} {x : Int} (h0 : 0 ≤ x) (h1 : x < xs.length) : ∃ v, atI xs x = some v ∧ v ∈ xs := by
  have : x.toNat < xs.length := by omega
  exact ⟨xs[x.toNat], at_of (j := x.toNat) (by omega) (List.getElem?_eq_getElem this), List.getElem_mem _⟩
def numsG : List Int := [0, -1, 7, 1000000, -1000000]
def textsG : List Str := [Str.ofString "", Str.ofString "x", Str.ofString "abz"]
def fieldsG : List Str := [Str.ofString "a", Str.ofString "b", Str.ofString "next"]
/-- the values that are drawn, m objects there -/
def drawnGv (m : Int) : Gv → Prop
  | .num i => i ∈ numsG
  | .txt z => z ∈ textsG
  | .ref k => 0 ≤ k ∧ k < m
def spLPlain (K : PySem.W.Frag) : Sp := fun vs H Q _ => ∃ (b dg : Addr), vs = [.ref b] ∧ Box K b dg H ∧
  ∀ (v : V) (x : Gv) (H1 : Hp), (∀ m, drawnGv m x) → gvRef x = none → DtAt K H1 v (gvD x) → Stp [b] H H1 → Box K b dg H1 → Q v H1
theorem cal_law_plain (F : Df K mg d_law_plain) (C_law_draw : Cal P w K mg base lv_law_draw "_law_draw" ["box", "many"] (spDraw K)) : Cal P w K mg base lv_law_plain "_law_plain" ["box"] (spLPlain K) := by
  obtain ⟨f, fd, F, g⟩ := F
  refine ⟨f, fd, F.ok sc_law_plain (fun vs H Q E h => ?_) (fun cdv A outer s H vs Q E hr h => ⟨_, PSs.nox
    (pss_cons (ps_set (i := 1) sc_law_plain.nd rfl (Or.inl rfl) (pc_call C_law_draw (hr.mono (by decide)) (by rfl) (pa_cons (pv 0) (pa_cons pe_int pa_nil))))
    (pss_cons (ps_if (pt_cmpR op_eq (pv 1) pe_int (nomark _))
      (pss_one (ps_ret (pe_ix (ix_listK (K := K) rfl) (pe_lst (pa_cons pe_int (pa_cons (pe_un un_neg pe_int) (pa_cons pe_int (pa_cons pe_int (pa_cons (pe_un un_neg pe_int) pa_nil)))))) (pc_call C_law_draw (hr.mono (by decide)) (by rfl) (pa_cons (pv 0) (pa_cons pe_int pa_nil))) (fun _ _ => rfl))))
      pss_nil)
    (pss_one (ps_ret (pe_ix (ix_listK (K := K) rfl) (pe_lst (pa_cons pe_str (pa_cons pe_str (pa_cons pe_str pa_nil)))) (pc_call C_law_draw (hr.mono (by decide)) (by rfl) (pa_cons (pv 0) (pa_cons pe_int pa_nil))) (fun _ _ => rfl)))))), ?_⟩), g, F.kp, F.bindsN fun _ _ _ _ _ _ us hl => match us, hl with | [_], _ => rfl⟩
  · obtain ⟨b, dg, rfl, _⟩ := h
    rfl
  · obtain ⟨b, dg, rfl, hb, q⟩ := h
    repeat walk_at "h"
    refine ⟨b, dg, 3, rfl, by decide, hb, fun kd H1 k0 k1 s1 b1 => ?_⟩
    repeat walk_at "h"
    refine i_iteD (fun _ => ?_) (fun _ => ?_)
    · repeat walk_at "h"
      refine ⟨(by decide : 5 ≤ sizeLine), fun p hp => ?_⟩
      have s2 : Stp [] H1 (upd H1 p (.lst (numsG.map V.int))) := .new hp
      have h2 : (upd H1 p (.lst (numsG.map V.int))) p = some (.lst (numsG.map V.int)) := upd_same
      have b2 := b1.grow s2
      have pb := b1.nin hp
      generalize hH : upd H1 p (.lst (numsG.map V.int)) = H2 at s2 h2 b2
      repeat walk_at "h"
      refine ⟨b, dg, 5, rfl, by decide, ?_, fun x H3 x0 x1 s3 b3 => ?_⟩
      · exact hH ▸ b2
      have h3 := s3.keep _ _ (hH ▸ h2) pb
      obtain ⟨v, hv, hm⟩ := pickG (xs := numsG.map V.int) x0 (by simpa [numsG] using x1)
      obtain ⟨z, hz, rfl⟩ := List.mem_map.mp hm
      refine i_IxL (SqL.of h3) hv ?_
      exact q _ (.num z) H3 (fun _ => hz) rfl (.num z) ((s1.trans ((hH ▸ s2).mono (by simp))).trans s3) b3
    · repeat walk_at "h"
      refine ⟨(by decide : 3 ≤ sizeLine), fun p hp => ?_⟩
      have s2 : Stp [] H1 (upd H1 p (.lst (textsG.map V.str))) := .new hp
      have h2 : (upd H1 p (.lst (textsG.map V.str))) p = some (.lst (textsG.map V.str)) := upd_same
      have b2 := b1.grow s2
      have pb := b1.nin hp
      generalize hH : upd H1 p (.lst (textsG.map V.str)) = H2 at s2 h2 b2
      repeat walk_at "h"
      refine ⟨b, dg, 3, rfl, by decide, ?_, fun x H3 x0 x1 s3 b3 => ?_⟩
      · exact hH ▸ b2
      have h3 := s3.keep _ _ (hH ▸ h2) pb
      obtain ⟨v, hv, hm⟩ := pickG (xs := textsG.map V.str) x0 (by simpa [textsG] using x1)
      obtain ⟨z, hz, rfl⟩ := List.mem_map.mp hm
      refine i_IxL (SqL.of h3) hv ?_
      exact q _ (.txt z) H3 (fun _ => hz) rfl (.txt z) ((s1.trans ((hH ▸ s2).mono (by simp))).trans s3) b3
/-- a row that stands while only those of M change -/
def KeepR (K : PySem.W.Frag) (M : List Addr) (H : Hp) (v : V) (r : List Gf) : Prop := ∃ (l : Addr) (es : List V), v = .ref l ∧ l ∉ M ∧ H l = some (.lst es) ∧ DtsAt K H es (r.map gfD)
theorem KeepR.stp {M N : List Addr} {H H1 : Hp} {v : V} {r : List Gf} (h : KeepR K M H v r) (s : Stp N H H1) (n : ∀ c ∈ N, c ∈ M) : KeepR K M H1 v r :=
  let ⟨l, es, e, m, hl, d⟩ := h; ⟨l, es, e, m, s.keep _ _ hl fun z => m (n l z), DtsAt.stp s _ _ (gfs_flat _) d⟩
theorem KeepR.all {M N : List Addr} {H H1 : Hp} {vs : List V} {rs : List (List Gf)} (h : Paired (KeepR K M H) vs rs) (s : Stp N H H1) (n : ∀ c ∈ N, c ∈ M) : Paired (KeepR K M H1) vs rs := by
  induction h with
  | nil => exact .nil
  | cons x _ ih => exact .cons (x.stp s n) ih
theorem KeepR.less {M N : List Addr} {H : Hp} {vs : List V} {rs : List (List Gf)} (h : Paired (KeepR K M H) vs rs) (n : ∀ c ∈ N, c ∈ M) : Paired (KeepR K N H) vs rs := by
  induction h with
  | nil => exact .nil
  | cons x _ ih =>
    obtain ⟨l, es, e, m, hl, d⟩ := x
    exact .cons ⟨l, es, e, fun z => m (n l z), hl, d⟩ ih
theorem KeepR.dts {M : List Addr} {H : Hp} {vs : List V} {rs : List (List Gf)} (h : Paired (KeepR K M H) vs rs) : DtsAt K H vs (rs.map rowD) := by
  induction h with
  | nil => exact .nil
  | cons x _ ih =>
    obtain ⟨l, es, rfl, _, hl, d⟩ := x
    exact .cons (.lst (SqL.of hl) d) ih
/-- a drawn row: fields in order, values that are drawn -/
def RowOk (m : Int) (r : List Gf) : Prop := (r.map (·.1)).Sublist fieldsG ∧ ∀ e ∈ r, drawnGv m e.2
def RowsOk (rs : List (List Gf)) : Prop := ∀ r ∈ rs, RowOk (rs.length : Nat) r
/-- objects that stand while only those of M change -/
def KeepT (K : PySem.W.Frag) (M : List Addr) (H : Hp) (p : Addr) (rs : List (List Gf)) : Prop := ∃ ws, p ∉ M ∧ H p = some (.lst ws) ∧ Paired (KeepR K M H) ws rs
theorem KeepT.stp {M N : List Addr} {H H1 : Hp} {p : Addr} {rs : List (List Gf)} (h : KeepT K M H p rs) (s : Stp N H H1) (n : ∀ c ∈ N, c ∈ M) : KeepT K M H1 p rs :=
  let ⟨ws, m, hp, k⟩ := h; ⟨ws, m, s.keep _ _ hp fun z => m (n p z), KeepR.all k s n⟩
def spDrawn (K : PySem.W.Frag) : Sp := fun vs H Q _ => ∃ (b dg : Addr) (most same : Int), vs = [.ref b, .int most, .int same] ∧ 0 < most ∧ most ≤ 12 ∧ 0 < same ∧ Box K b dg H ∧
  ∀ (p : Addr) (rs : List (List Gf)) (H1 : Hp), KeepT K [b] H1 p rs → RowsOk rs → 0 < rs.length → (rs.length : Nat) ≤ most → Stp [b] H H1 → Box K b dg H1 → Q (.ref p) H1
theorem cal_law_drawn (F : Df K mg d_law_drawn) (B : Blt mg) (C_law_draw : Cal P w K mg base lv_law_draw "_law_draw" ["box", "many"] (spDraw K)) (C_law_plain : Cal P w K mg base lv_law_plain "_law_plain" ["box"] (spLPlain K)) : Cal P w K mg base lv_law_drawn "_law_drawn" ["box", "most", "same"] (spDrawn K) := by
  obtain ⟨f, fd, F, g⟩ := F
  refine ⟨f, fd, F.ok sc_law_drawn (fun vs H Q E h => ?_) (fun cdv A outer s H vs Q E hr h => ⟨_, PSs.nox
    (pss_cons (ps_set (i := 3) sc_law_drawn.nd rfl (Or.inl rfl) (pe_op op_add pe_int (pc_call C_law_draw (hr.mono (by decide)) (by rfl) (pa_cons (pv 0) (pa_cons (pv 1) pa_nil)))))
    (pss_cons (ps_set (i := 4) sc_law_drawn.nd rfl (Or.inl rfl) (pe_lst pa_nil))
    (pss_cons (ps_for PassesOwn.never rfl (pi_range1 rfl B.range (pa_cons (pv 3) pa_nil)) (pg_name (i := 5) sc_law_drawn.nd rfl (Or.inl rfl))
      (pss_cons (ps_set (i := 6) sc_law_drawn.nd rfl (Or.inl rfl) (pe_lst pa_nil))
        (pss_cons (ps_for PassesOwn.never rfl (pi_list (pe_lst (pa_cons pe_str (pa_cons pe_str (pa_cons pe_str pa_nil))))) (pg_name (i := 7) sc_law_drawn.nd rfl (Or.inl rfl))
          (pss_cons (ps_set (i := 8) sc_law_drawn.nd rfl (Or.inl rfl) (pc_call C_law_draw (hr.mono (by decide)) (by rfl) (pa_cons (pv 0) (pa_cons pe_int pa_nil))))
            (pss_cons (ps_if (pt_cmpR op_lt (pv 8) pe_int (nomark _))
              (pss_one (ps_expr (pe_bm PySem.F.plainAttrs_list PySem.F.slot_list_append PySem.F.type_list_append mt_append (pv 6) (pa_cons (pe_tup (pa_cons (pv 7) (pa_cons (pe_tup (pa_cons pe_str (pa_cons (pc_call C_law_draw (hr.mono (by decide)) (by rfl) (pa_cons (pv 0) (pa_cons (pv 3) pa_nil))) pa_nil))) pa_nil))) pa_nil))))
              pss_nil)
            (pss_one (ps_if (PW.pt (pw_and (pt_cmpR op_eq (pv 8) pe_int (nomark _)) (pw_and1 (pt_cmpR op_eq (pc_call C_law_draw (hr.mono (by decide)) (by rfl) (pa_cons (pv 0) (pa_cons (pv 2) pa_nil))) pe_int (nomark _)))))
              (pss_one (ps_expr (pe_bm PySem.F.plainAttrs_list PySem.F.slot_list_append PySem.F.type_list_append mt_append (pv 6) (pa_cons (pe_tup (pa_cons (pv 7) (pa_cons (pc_call C_law_plain (hr.mono (by decide)) (by rfl) (pa_cons (pv 0) pa_nil)) pa_nil))) pa_nil))))
              pss_nil)))))
        (pss_one (ps_expr (pe_bm PySem.F.plainAttrs_list PySem.F.slot_list_append PySem.F.type_list_append mt_append (pv 4) (pa_cons (pv 6) pa_nil)))))))
    (pss_one (ps_ret (pv 4)))))), ?_⟩), g, F.kp, F.bindsN fun _ _ _ _ _ _ us hl => match us, hl with | [_, _, _], _ => rfl⟩
  · obtain ⟨b, dg, most, same, rfl, _⟩ := h
    rfl
  · obtain ⟨b, dg, most, same, rfl, m0, m12, sm, hb, q⟩ := h
    repeat walk_at "h"
    refine ⟨b, dg, most, rfl, m0, hb, fun many H1 k0 k1 s1 b1 => ?_⟩
    repeat walk_at "h"
    refine ⟨Nat.zero_le _, fun p np => ?_⟩
    have s2 : Stp [] H1 (upd H1 p (.lst [])) := .new np
    have p2 : (upd H1 p (.lst [])) p = some (.lst []) := upd_same
    have b2 := b1.grow s2
    have pb := b1.nin np
    have pb' : b ≠ p := by simpa using fun z : b = p => pb (by simp [z])
    have pdg := b1.dgn np
    have s12 := s1.trans (s2.mono (M' := [b]) (by simp))
    have np0 : H p = none := s1.free np pb
    generalize upd H1 p (.lst []) = H2 at s2 p2 b2 s12 ⊢
    clear s1 s2 b1 np hb
    repeat walk_at "h"
    refine ⟨1 + many, rfl, by omega, by omega, ?_⟩
    refine for_range (lo := 0) (n := (1 + many).toNat) (fun i σ H' => ∃ (y5 y6 y7 y8 : Option V) (ws : List V) (rs : List (List Gf)), σ = [some (.ref b), some (.int most), some (.int same), some (.int (1 + many)), some (.ref p), y5, y6, y7, y8] ∧ Stp [b] H H' ∧ Box K b dg H' ∧ H' p = some (.lst ws) ∧ Paired (KeepR K [b, p] H') ws rs ∧ rs.length = i ∧ ∀ r ∈ rs, RowOk (1 + many) r)
      ⟨_, _, _, _, [], [], rfl, s12, b2, p2, .nil, rfl, by simp⟩ ?_ ?_
    · rintro i σ H3 hi ⟨y5, y6, y7, y8, ws, rs, rfl, s3, b3, p3, k3, l3, ok3⟩
      repeat walk_at "h"
      refine ⟨Nat.zero_le _, fun fp nfp => ?_⟩
      have s4 : Stp [] H3 (upd H3 fp (.lst [])) := .new nfp
      have f4 : (upd H3 fp (.lst [])) fp = some (.lst []) := upd_same
      have b4 := b3.grow s4
      have fb := b3.nin nfp
      have fb' : b ≠ fp := by simpa using fun z : b = fp => fb (by simp [z])
      have fdg := b3.dgn nfp
      have fpp : fp ≠ p := (ne_of_none p3 nfp).symm
      have s34 := s4.mono (M' := [b]) (by simp)
      generalize upd H3 fp (.lst []) = H4 at s4 f4 b4 s34 ⊢
      clear s4
      repeat walk_at "h"
      refine ⟨(by decide : 3 ≤ sizeLine), fun zp nzp => ?_⟩
      have s5 : Stp [] H4 (upd H4 zp (.lst (fieldsG.map V.str))) := .new nzp
      have z5 : (upd H4 zp (.lst (fieldsG.map V.str))) zp = some (.lst (fieldsG.map V.str)) := upd_same
      have f5 := s5.keep _ _ f4 (by simp)
      have b5 := b4.grow s5
      have zb := b4.nin nzp
      have zf : zp ≠ fp := (ne_of_none f4 nzp).symm
      have s35 := s34.trans (s5.mono (M' := [b]) (by simp))
      refine ⟨zp, rfl, ⟨_, SqL.of z5⟩, ?_⟩
      show ∃ W, _
      generalize hH5 : upd H4 zp (.lst (fieldsG.map V.str)) = H5 at s5 z5 f5 b5 s35
      clear s5
      refine for_list (xs := fieldsG.map V.str) (fun j σ H' => ∃ (y7 y8 : Option V) (es : List V) (r : List Gf), σ = [some (.ref b), some (.int most), some (.int same), some (.int (1 + many)), some (.ref p), some (.int (0 + (i : Int))), some (.ref fp), y7, y8] ∧ Stp [b] H3 H' ∧ Stp [b, fp] H5 H' ∧ Box K b dg H' ∧ H' fp = some (.lst es) ∧ DtsAt K H' es (r.map gfD) ∧ (r.map (·.1)).Sublist (fieldsG.take j) ∧ ∀ e ∈ r, drawnGv (1 + many) e.2)
        ⟨_, _, [], [], rfl, hH5 ▸ s35, hH5 ▸ .refl _, hH5 ▸ b5, hH5 ▸ f5, .nil, by simp, by simp⟩ (fun j σ H' _ ⟨_, _, _, _, _, _, s, _⟩ => SqL.of (s.keep _ _ z5 (by simpa using ⟨fun z => zb (by simp [z]), zf⟩))) ?_ ?_
      · rintro j v7 σ H6 hv ⟨y7, y8, es, r, rfl, s6, s56, b6, f6, d6, sub6, dr6⟩
        rw [List.getElem?_map] at hv
        obtain ⟨z, hz, rfl⟩ := Option.map_eq_some_iff.mp hv
        have tk : fieldsG.take (j + 1) = fieldsG.take j ++ [z] := by rw [List.take_add_one, hz]; rfl
        have el : es.length = r.length := by have := d6.length; rwa [List.length_map] at this
        have rl := sub6.length_le
        rw [List.length_map, List.length_take] at rl
        have f3 : fieldsG.length = 3 := rfl
        rw [tk]
        have skip : (r.map (·.1)).Sublist (fieldsG.take j ++ [z]) := sub6.trans (List.sublist_append_left _ _)
        have take : ∀ x : Gv, ((r ++ [(z, x)]).map (·.1)).Sublist (fieldsG.take j ++ [z]) := fun x => by
          rw [List.map_append]
          exact sub6.append (List.Sublist.refl _)
        have more : ∀ (x : Gv), drawnGv (1 + many) x → ∀ e ∈ r ++ [(z, x)], drawnGv (1 + many) e.2 := fun x hx e he => by
          rcases List.mem_append.mp he with y | y
          · exact dr6 e y
          · rw [List.mem_singleton.mp y]; exact hx
        repeat walk_at "h"
        refine ⟨b, dg, 4, rfl, by decide, b6, fun way H7 w0 w1 s7 b7 => ?_⟩
        have f7 := s7.keep _ _ f6 fb
        have d7 := DtsAt.stp s7 _ _ (gfs_flat _) d6
        have s37 := s6.trans s7
        have s57 := s56.trans (s7.mono (M' := [b, fp]) (by simp))
        have fin : ∀ (H9 : Hp) (u : Addr) (x : Gv), Stp [b] H7 H9 → Box K b dg H9 → DtAt K H9 (.ref u) (gfD (z, x)) → drawnGv (1 + many) x →
            H9 fp = some (.lst es) ∧ Stp [b] H3 (upd H9 fp (.lst (es ++ [.ref u]))) ∧ Stp [b, fp] H5 (upd H9 fp (.lst (es ++ [.ref u]))) ∧ Box K b dg (upd H9 fp (.lst (es ++ [.ref u]))) ∧ DtsAt K (upd H9 fp (.lst (es ++ [.ref u]))) (es ++ [.ref u]) ((r ++ [(z, x)]).map gfD) := by
          intro H9 u x s9 b9 du _
          have f9 := s9.keep _ _ f7 fb
          have s10 : Stp [fp] H9 (upd H9 fp (.lst (es ++ [.ref u]))) := .wr (by simp) f9 fun _ z => nomatch z
          refine ⟨f9, (s37.trans s9).mut nfp, (s57.trans (s9.mono (by simp))).trans (s10.mono (by simp)), b9.stp s10 (by simpa using fb') (by simpa using fdg), ?_⟩
          rw [List.map_append]
          exact (DtsAt.stp s10 _ _ (gfs_flat _) (DtsAt.stp s9 _ _ (gfs_flat _) d7)).append (.cons (DtAt.stp s10 _ _ (gfD_flat _) du) .nil)
        have room : es.length < sizeLine := Nat.lt_of_le_of_lt (show es.length ≤ 10 by omega) (by decide)
        repeat walk_at "h"
        refine i_iteD (fun w2 => ?_) (fun w2 => ?_)
        · repeat walk_at "h"
          refine ⟨.inl ⟨rfl, _, SqL.of f7⟩, ?_⟩
          repeat walk_at "h"
          refine ⟨b, dg, 1 + many, rfl, by omega, b7, fun k H8 k0 k1 s8 b8 => ?_⟩
          repeat walk_at "h"
          refine ⟨(by decide : 2 ≤ sizeLine), fun t nt => ?_⟩
          have s9 : Stp [] H8 (upd H8 t (.tup [.str (Str.ofString "ref"), .int k])) := .new nt
          have t9 : DtAt K (upd H8 t (.tup [.str (Str.ofString "ref"), .int k])) (.ref t) (gvD (.ref k)) := .tup (.inl upd_same) (.cons (.txt _) (.cons (.num _) .nil))
          have b9 := b8.grow s9
          generalize upd H8 t (.tup [.str (Str.ofString "ref"), .int k]) = H9 at s9 t9 b9 ⊢
          repeat walk_at "h"
          refine ⟨(by decide : 2 ≤ sizeLine), fun u nu => ?_⟩
          have s10 : Stp [] H9 (upd H9 u (.tup [.str z, .ref t])) := .new nu
          have u10 : DtAt K (upd H9 u (.tup [.str z, .ref t])) (.ref u) (gfD (z, .ref k)) := .tup (.inl upd_same) (.cons (.txt _) (.cons (DtAt.stp s10 _ _ (gvD_flat _) t9) .nil))
          have b10 := b9.grow s10
          generalize upd H9 u (.tup [.str z, .ref t]) = H10 at s10 u10 b10 ⊢
          have s710 := s8.trans ((s9.trans s10).mono (M' := [b]) (by simp))
          have dk : drawnGv (1 + many) (.ref k) := ⟨k0, k1⟩
          obtain ⟨f10, a1, a2, a3, a4⟩ := fin H10 u (.ref k) s710 b10 u10 dk
          repeat walk_at "h"
          refine ⟨fp, es, .ref u, rfl, rfl, f10, room, ?_⟩
          repeat walk_at "h"
          rw [decide_eq_false (show ¬ V.int way = V.int 2 from fun q => by injection q with q; omega)]
          refine iteF ?_
          repeat walk_at "h"
          exact ⟨_, _, _, r ++ [(z, .ref k)], rfl, a1, a2, a3, upd_same, a4, take _, more _ dk⟩
        · repeat walk_at "h"
          by_cases c2 : way = 2
          · rw [decide_eq_true (show V.int way = V.int 2 by rw [c2])]
            refine iteT ?_
            repeat walk_at "h"
            refine ⟨b, dg, same, rfl, sm, b7, fun d H8 d0 d1 s8 b8 => ?_⟩
            repeat walk_at "h"
            by_cases c3 : d = 0
            · rw [decide_eq_true (show V.int d = V.int 0 by rw [c3])]
              refine iteT ?_
              repeat walk_at "h"
              refine ⟨.inl ⟨rfl, _, SqL.of (s8.keep _ _ f7 fb)⟩, ?_⟩
              repeat walk_at "h"
              refine ⟨b, dg, rfl, b8, fun v x H9 dx _ dv s9 b9 => ?_⟩
              repeat walk_at "h"
              refine ⟨(by decide : 2 ≤ sizeLine), fun u nu => ?_⟩
              have s10 : Stp [] H9 (upd H9 u (.tup [.str z, v])) := .new nu
              have u10 : DtAt K (upd H9 u (.tup [.str z, v])) (.ref u) (gfD (z, x)) := .tup (.inl upd_same) (.cons (.txt _) (.cons (DtAt.stp s10 _ _ (gvD_flat _) dv) .nil))
              have b10 := b9.grow s10
              generalize upd H9 u (.tup [.str z, v]) = H10 at s10 u10 b10 ⊢
              have s710 := (s8.trans s9).trans (s10.mono (M' := [b]) (by simp))
              obtain ⟨f10, a1, a2, a3, a4⟩ := fin H10 u x s710 b10 u10 (dx _)
              repeat walk_at "h"
              refine ⟨fp, es, .ref u, rfl, rfl, f10, room, ?_⟩
              repeat walk_at "h"
              exact ⟨_, _, _, r ++ [(z, x)], rfl, a1, a2, a3, upd_same, a4, take _, more _ (dx _)⟩
            · rw [decide_eq_false (show ¬ V.int d = V.int 0 from fun q => c3 (by injection q))]
              refine iteF ?_
              repeat walk_at "h"
              exact ⟨_, _, es, r, rfl, s37.trans s8, s57.trans (s8.mono (by simp)), b8, s8.keep _ _ f7 fb, DtsAt.stp s8 _ _ (gfs_flat _) d7, skip, dr6⟩
          · rw [decide_eq_false (show ¬ V.int way = V.int 2 from fun q => c2 (by injection q))]
            refine iteF ?_
            repeat walk_at "h"
            exact ⟨_, _, es, r, rfl, s37, s57, b7, f7, d7, skip, dr6⟩
      · rintro σ H6 ⟨y7, y8, es, r, rfl, s6, s56, b6, f6, d6, sub6, dr6⟩
        have p6 := s6.keep _ _ p3 pb
        have k6 := KeepR.all k3 s6 (by simp)
        have wl : ws.length = rs.length := Paired.length k6
        repeat walk_at "h"
        refine ⟨.inl ⟨rfl, _, SqL.of p6⟩, ?_⟩
        repeat walk_at "h"
        refine ⟨p, ws, .ref fp, rfl, rfl, p6, Nat.lt_of_le_of_lt (show ws.length ≤ 100 by omega) (by decide), ?_⟩
        have s7 : Stp [p] H6 (upd H6 p (.lst (ws ++ [.ref fp]))) := .wr (by simp) p6 fun _ z => nomatch z
        rw [List.length_map, List.take_length] at sub6
        have fpM : fp ∉ [b, p] := by
          simp only [List.mem_cons, List.not_mem_nil, or_false, not_or]
          exact ⟨fb'.symm, fpp⟩
        refine ⟨_, _, _, _, ws ++ [.ref fp], rs ++ [r], rfl, (s3.trans s6).mut np0, b6.stp s7 (by simpa using pb') (by simpa using pdg), upd_same, Paired.snoc (KeepR.all k6 s7 (by simp)) ⟨fp, es, rfl, fpM, s7.keep _ _ f6 (by simpa using fpp), DtsAt.stp s7 _ _ (gfs_flat _) d6⟩, by rw [List.length_append, List.length_singleton, l3], fun r' hr => ?_⟩
        rcases List.mem_append.mp hr with y | y
        · exact ok3 r' y
        · rw [List.mem_singleton.mp y]; exact ⟨sub6, dr6⟩
    · rintro σ H3 ⟨y5, y6, y7, y8, ws, rs, rfl, s3, b3, p3, k3, l3, ok3⟩
      repeat walk_at "h"
      refine q p rs H3 ⟨ws, pb, p3, KeepR.less k3 (by simp)⟩ (fun r hr => ?_) (by omega) (by omega) s3 b3
      have := ok3 r hr
      rwa [show ((rs.length : Nat) : Int) = 1 + many by omega]
end

section
variable {P : Program} {w : World} {K : PySem.W.Frag} {mg : Str → Option Value} {base : Heap} {C : Addr}
/-! ### the objects that are reached, numbered -/
def foundS (T : Gr) (f : List Int) (k : Nat) : List Int := match f[k]? with
  | none => f
  | some n => (tgs T n).foldl addK f
def foundN (T : Gr) (f : List Int) : Nat → List Int
  | 0 => f
  | k + 1 => foundS T (foundN T f k) k
def found0 (rts : List Int) : List Int := rts.foldl addK []
def foundG (rs : List (List Gf)) (rts : List Int) : List Int := foundN ([], rs) (found0 rts) rs.length
def reV (f : List Int) : Gv → Gv
  | .ref k => .ref (f.idxOf k : Nat)
  | x => x
def reRow (f : List Int) (r : List Gf) : List Gf := r.map fun e => (e.1, reV f e.2)
def reG (rs : List (List Gf)) (rts : List Int) : Gr := (rts.map fun r => ((foundG rs rts).idxOf r : Nat), (foundG rs rts).map fun n => reRow (foundG rs rts) (rowAt ([], rs) n))
def TsOk (rs : List (List Gf)) : Prop := GrOk ([], rs)
theorem adds_mem (x : Int) : ∀ (l f : List Int), x ∈ l.foldl addK f ↔ x ∈ f ∨ x ∈ l
  | [], f => by simp
  | k :: l, f => by rw [List.foldl_cons, adds_mem x l, addK_mem, List.mem_cons, or_assoc]
theorem adds_nd : ∀ (l : List Int) {f : List Int}, f.Nodup → (l.foldl addK f).Nodup
  | [], _, h => h
  | k :: l, _, h => adds_nd l (addK_nd h k)
theorem addK_pre (f : List Int) (k : Int) : f <+: addK f k := by
  unfold addK
  split
  · exact List.prefix_refl _
  · exact List.prefix_append _ _
theorem adds_pre : ∀ (l f : List Int), f <+: l.foldl addK f
  | [], f => List.prefix_refl _
  | k :: l, f => (addK_pre f k).trans (adds_pre l _)
/-- what is found when k rounds are done -/
structure Fd (T : Gr) (rts f : List Int) (k : Nat) : Prop where
  nd : f.Nodup
  inn : ∀ n ∈ f, inG T n
  has : ∀ n ∈ rts, n ∈ f
  done : ∀ i n, i < k → f[i]? = some n → ∀ m ∈ tgs T n, m ∈ f
theorem Fd.start {T : Gr} {rts : List Int} (h : ∀ n ∈ rts, inG T n) : Fd T rts (found0 rts) 0 :=
  ⟨adds_nd _ (by simp), fun n hn => ((adds_mem n rts []).mp hn).elim (fun z => by simp at z) (h n), fun n hn => (adds_mem n rts []).mpr (.inr hn), fun i n hi => by omega⟩
theorem Fd.next {T : Gr} {rts f : List Int} {k : Nat} (ok : GrOk T) (h : Fd T rts f k) : Fd T rts (foundS T f k) (k + 1) := by
  unfold foundS
  cases e : f[k]? with
  | none =>
    refine ⟨h.nd, h.inn, h.has, fun i n hi hn => ?_⟩
    by_cases c : i = k
    · rw [c, e] at hn; cases hn
    · exact h.done i n (by omega) hn
  | some n =>
    have nm := List.mem_of_getElem? e
    have pre := adds_pre (tgs T n) f
    refine ⟨adds_nd _ h.nd, fun m hm => ((adds_mem m _ _).mp hm).elim (h.inn m) (tgs_in ok (h.inn n nm) m), fun m hm => (adds_mem m _ _).mpr (.inl (h.has m hm)), fun i m hi hm t ht => ?_⟩
    by_cases c : i = k
    · rw [c, pre_get pre e] at hm
      cases hm
      exact (adds_mem t _ _).mpr (.inr ht)
    · have lt : i < f.length := by have := (List.getElem?_eq_some_iff.mp e).1; omega
      have e0 := List.getElem?_eq_getElem lt
      rw [pre_get pre e0] at hm
      cases hm
      exact (adds_mem t _ _).mpr (.inl (h.done i _ (by omega) e0 t ht))
theorem Fd.nth {T : Gr} {rts : List Int} (ok : GrOk T) (h : ∀ n ∈ rts, inG T n) : ∀ k, Fd T rts (foundN T (found0 rts) k) k
  | 0 => .start h
  | k + 1 => (Fd.nth ok h k).next ok
theorem Fd.closed {rs : List (List Gf)} {rts : List Int} (ok : TsOk rs) (h : ∀ n ∈ rts, inG ([], rs) n) : ∀ n ∈ foundG rs rts, ∀ m ∈ tgs ([], rs) n, m ∈ foundG rs rts := by
  intro n hn m hm
  have f := Fd.nth ok h rs.length
  obtain ⟨i, hi⟩ := List.mem_iff_getElem?.mp hn
  have l := in_len f.nd f.inn
  exact f.done i n (Nat.lt_of_lt_of_le (List.getElem?_eq_some_iff.mp hi).1 l) hi m hm
theorem reLinks (f : List Int) (r : List Gf) : linksOf (reRow f r) = (linksOf r).map fun e => (e.1, ((f.idxOf e.2 : Nat) : Int)) := by
  unfold linksOf reRow
  rw [List.filterMap_map, List.map_filterMap]
  congr 1
  funext e
  obtain ⟨z, x⟩ := e
  cases x <;> rfl
theorem reG_ok {rs : List (List Gf)} {rts : List Int} (ok : TsOk rs) (h : ∀ n ∈ rts, inG ([], rs) n) : GrOk (reG rs rts) := by
  have f := Fd.nth ok h rs.length
  have cl := Fd.closed ok h
  have l := in_len f.nd f.inn
  unfold foundG at cl
  have e : (reG rs rts).2 = (foundG rs rts).map fun n => reRow (foundG rs rts) (rowAt ([], rs) n) := rfl
  unfold foundG at e
  generalize foundN ([], rs) (found0 rts) rs.length = F at f cl l e
  refine ⟨?_, ?_, ?_⟩
  · rw [e, List.length_map]
    exact Nat.le_trans l ok.1
  · rw [e]
    intro r hr
    obtain ⟨n, hn, rfl⟩ := List.mem_map.mp hr
    unfold reRow
    rw [List.length_map]
    exact ok.2.1 _ (rowAt_mem (f.inn n hn))
  · intro r hr x hx
    unfold inG
    rw [e] at hr ⊢
    rw [List.length_map]
    obtain ⟨n, hn, rfl⟩ := List.mem_map.mp hr
    rw [reLinks] at hx
    obtain ⟨y, hy, rfl⟩ := List.mem_map.mp hx
    have m : y.2 ∈ F := cl n hn y.2 (List.mem_map.mpr ⟨y, hy, rfl⟩)
    have := List.idxOf_lt_length_iff.mpr m
    exact ⟨Int.natCast_nonneg _, by show ((F.idxOf y.2 : Nat) : Int) < _; omega⟩
theorem index_int {ns : List Int} {m : Int} (h : m ∈ ns) : (ns.map Dt.num)[ns.idxOf m]? = some (.num m) ∧ ∀ (j : Nat) (z : Dt), j < ns.idxOf m → (ns.map Dt.num)[j]? = some z → Dt.beq z (.num m) = false := by
  have lt := List.idxOf_lt_length_iff.mpr h
  refine ⟨?_, fun j z hj hz => ?_⟩
  · rw [List.getElem?_map, List.getElem?_eq_getElem lt, List.getElem_idxOf lt]; rfl
  · rw [List.getElem?_map] at hz
    obtain ⟨k, hk, rfl⟩ := Option.map_eq_some_iff.mp hz
    have ne : k ≠ m := by
      rintro rfl
      have := List.not_of_lt_findIdx (p := (· == k)) (xs := ns) (i := j) hj
      obtain ⟨h1, h2⟩ := List.getElem?_eq_some_iff.mp hk
      rw [h2] at this
      simp at this
    cases q : Dt.beq (.num k) (.num m) with
    | false => rfl
    | true => exact absurd (by have := Dt.eq_of_beq _ _ rfl rfl q; injection this) ne
theorem nums_dep : ∀ ns : List Int, Dt.depthAll (ns.map Dt.num) ≤ 60
  | [] => by simp [Dt.depthAll]
  | n :: ns => by
    have := nums_dep ns
    simp only [List.map_cons, Dt.depthAll, Dt.depth]
    omega
theorem index_i {H : Hp} {Q : VK} {p : Addr} {ns : List Int} {m : Int} (hp : H p = some (.lst (ns.map V.int))) (h : m ∈ ns) (q : Q (.int (ns.idxOf m : Nat)) H) : rIndexT K (.ref p) [.int m] H Q := by
  obtain ⟨h1, h2⟩ := index_int h
  exact ⟨p, .int m, .num m, ns.map Dt.num, ns.idxOf m, .num m, rfl, rfl, .lst (SqL.of hp) (of_ints ns), .num m, by simp [Dt.depth], nums_dep ns, h1, Dt.beq_self _, h2, q⟩
end

section
variable {P : Program} {w : World} {K : PySem.W.Frag} {mg : Str → Option Value} {base : Heap} {C : Addr}
theorem inV_ints (m : Int) : ∀ ns : List Int, inV (.int m) (ns.map V.int) = decide (m ∈ ns)
  | [] => by simp [inV]
  | n :: ns => by
    have h := inV_ints m ns
    unfold inV at h ⊢
    rw [List.map_cons, List.any_cons, h]
    have e : eqV (.int n) (.int m) = decide (n = m) := rfl
    rw [e]
    by_cases c : n = m
    · rw [decide_eq_true c, decide_eq_true (show m ∈ n :: ns by rw [c]; exact List.mem_cons_self)]; rfl
    · rw [decide_eq_false c, Bool.false_or]
      have : (m ∈ n :: ns) = (m ∈ ns) := by rw [List.mem_cons]; exact propext ⟨fun z => z.elim (fun y => absurd y.symm c) id, .inr⟩
      simp only [this]
theorem flat_ints : ∀ ns : List Int, (ns.map V.int).all flatV = true
  | [] => rfl
  | n :: ns => by rw [List.map_cons, List.all_cons, flat_ints ns]; rfl
theorem in_i {H : Hp} {Q : VK} {p : Addr} {ns : List Int} {m : Int} (neg : Bool) (hp : SqL K H p (ns.map V.int)) (q : Q (.bl (if neg then !decide (m ∈ ns) else decide (m ∈ ns))) H) : rIn K neg (.int m) (.ref p) H Q :=
  ⟨p, _, rfl, .inl hp, rfl, flat_ints ns, by rw [inV_ints]; exact q⟩
/-- a row that is new since H -/
def NewR (K : PySem.W.Frag) (H H1 : Hp) (D : Addr) (v : V) (r : List Gf) : Prop := ∃ (l : Addr) (es : List V), v = .ref l ∧ H l = none ∧ l ≠ D ∧ H1 l = some (.lst es) ∧ DtsAt K H1 es (r.map gfD)
theorem NewR.all {H H1 H2 : Hp} {D : Addr} {M : List Addr} {vs : List V} {rs : List (List Gf)} (h : Paired (NewR K H H1 D) vs rs) (s : Stp M H1 H2) (n : ∀ c ∈ M, c = D ∨ H c ≠ none) : Paired (NewR K H H2 D) vs rs := by
  induction h with
  | nil => exact .nil
  | cons x _ ih =>
    obtain ⟨l, es, e, m, nd, hl, d⟩ := x
    exact .cons ⟨l, es, e, m, nd, s.keep _ _ hl (fun z => (n l z).elim nd fun y => y m), DtsAt.stp s _ _ (gfs_flat _) d⟩ ih
theorem NewR.dts {H H1 : Hp} {D : Addr} {vs : List V} {rs : List (List Gf)} (h : Paired (NewR K H H1 D) vs rs) : DtsAt K H1 vs (rs.map rowD) := by
  induction h with
  | nil => exact .nil
  | cons x _ ih =>
    obtain ⟨l, es, rfl, _, _, hl, d⟩ := x
    exact .cons (.lst (SqL.of hl) d) ih
/-- a graph that stands while only what was there at H changes -/
def NewG (K : PySem.W.Frag) (H H1 : Hp) (v : V) (g : Gr) : Prop := ∀ (M : List Addr) (H2 : Hp), (∀ l ∈ M, H l ≠ none) → Stp M H1 H2 → DtAt K H2 v (grDt g)
def spReached (K : PySem.W.Frag) : Sp := fun vs H Q _ => ∃ (tp rp : Addr) (ts : List V) (rs : List (List Gf)) (rts : List Int), vs = [.ref tp, .ref rp] ∧ SqL K H tp ts ∧ DtsAt K H ts (rs.map rowD) ∧ TsOk rs ∧ H rp = some (.lst (rts.map V.int)) ∧ (∀ n ∈ rts, inG ([], rs) n) ∧ rts.length ≤ 12 ∧
  ∀ (v : V) (H1 : Hp), NewG K H H1 v (reG rs rts) → Stp [] H H1 → Q v H1
theorem cal_law_reached (F : Df K mg d_law_reached) (B : Blt mg) : Cal P w K mg base lv_law_reached "_law_reached" ["things", "roots"] (spReached K) := by
  obtain ⟨f, fd, F, g⟩ := F
  refine ⟨f, fd, F.ok sc_law_reached (fun vs H Q E h => ?_) (fun cdv A outer s H vs Q E hr h => ⟨_, PSs.nox
    (pss_cons (ps_set (i := 2) sc_law_reached.nd rfl (Or.inr rfl) (pe_lst pa_nil))
    (pss_cons (ps_for PassesOwn.never rfl (pi_list (pv 1)) (pg_name (i := 3) sc_law_reached.nd rfl (Or.inl rfl))
      (pss_one (ps_if (pt_cmpR op_notIn_seq (pv 3) (pv 2) (by rfl))
          (pss_one (ps_expr (pe_bm PySem.F.plainAttrs_list PySem.F.slot_list_append PySem.F.type_list_append mt_append (pv 2) (pa_cons (pv 3) pa_nil))))
          pss_nil)))
    (pss_cons (ps_for PassesOwn.never rfl (pi_range1 rfl B.range (pa_cons (pe_callB call_len_seq (by rfl) B.len boot_len (pa_cons (pv 0) pa_nil)) pa_nil)) (pg_name (i := 4) sc_law_reached.nd rfl (Or.inl rfl))
      (pss_one (ps_if (pt_cmpR op_lt (pv 4) (pe_callB call_len_seq (by rfl) B.len boot_len (pa_cons (pv 2) pa_nil)) (nomark _))
          (pss_one (ps_for PassesOwn.never rfl (pi_list (pe_ix (ix_listK (K := K) rfl) (pv 0) (pe_ix (ix_listK (K := K) rfl) (pv 2) (pv 4) (fun _ _ => rfl)) (fun _ _ => rfl))) (pg_name (i := 5) sc_law_reached.nd rfl (Or.inl rfl))
              (pss_one (ps_if (PW.pt (pw_and (pt_val (pe_callB call_isi (by rfl) B.isinstance (by decide +kernel) (pa_cons (pe_ix (ix_tupK (K := K) rfl) (pv 5) pe_int (fun _ _ => rfl)) (pa_cons (pe_bltn (v := .ty "tuple") (by rfl) B.tuple (by decide +kernel) rfl) pa_nil)))) (pw_and1 (pt_cmpR op_notIn_seq (pe_ix (ix_tupK (K := K) rfl) (pe_ix (ix_tupK (K := K) rfl) (pv 5) pe_int (fun _ _ => rfl)) pe_int (fun _ _ => rfl)) (pv 2) (by rfl)))))
                  (pss_one (ps_expr (pe_bm PySem.F.plainAttrs_list PySem.F.slot_list_append PySem.F.type_list_append mt_append (pv 2) (pa_cons (pe_ix (ix_tupK (K := K) rfl) (pe_ix (ix_tupK (K := K) rfl) (pv 5) pe_int (fun _ _ => rfl)) pe_int (fun _ _ => rfl)) pa_nil))))
                  pss_nil))))
          pss_nil)))
    (pss_cons (ps_set (i := 6) sc_law_reached.nd rfl (Or.inl rfl) (pe_lst pa_nil))
    (pss_cons (ps_for PassesOwn.never rfl (pi_list (pv 2)) (pg_name (i := 7) sc_law_reached.nd rfl (Or.inl rfl))
      (pss_cons (ps_set (i := 8) sc_law_reached.nd rfl (Or.inl rfl) (pe_lst pa_nil))
        (pss_cons (ps_for PassesOwn.never rfl (pi_list (pe_ix (ix_listK (K := K) rfl) (pv 0) (pv 7) (fun _ _ => rfl))) (pg_name (i := 5) sc_law_reached.nd rfl (Or.inl rfl))
          (pss_one (ps_if (pt_val (pe_callB call_isi (by rfl) B.isinstance (by decide +kernel) (pa_cons (pe_ix (ix_tupK (K := K) rfl) (pv 5) pe_int (fun _ _ => rfl)) (pa_cons (pe_bltn (v := .ty "tuple") (by rfl) B.tuple (by decide +kernel) rfl) pa_nil))))
              (pss_one (ps_expr (pe_bm PySem.F.plainAttrs_list PySem.F.slot_list_append PySem.F.type_list_append mt_append (pv 8) (pa_cons (pe_tup (pa_cons (pe_ix (ix_tupK (K := K) rfl) (pv 5) pe_int (fun _ _ => rfl)) (pa_cons (pe_tup (pa_cons pe_str (pa_cons (pe_bmK (K := K) rfl PySem.F.plainAttrs_list PySem.F.slot_list_index PySem.F.type_list_index (mt_indexTK (K := K) rfl (hu65 hr)) (pv 2) (pa_cons (pe_ix (ix_tupK (K := K) rfl) (pe_ix (ix_tupK (K := K) rfl) (pv 5) pe_int (fun _ _ => rfl)) pe_int (fun _ _ => rfl)) pa_nil)) pa_nil))) pa_nil))) pa_nil))))
              (pss_one (ps_expr (pe_bm PySem.F.plainAttrs_list PySem.F.slot_list_append PySem.F.type_list_append mt_append (pv 8) (pa_cons (pv 5) pa_nil)))))))
        (pss_one (ps_expr (pe_bm PySem.F.plainAttrs_list PySem.F.slot_list_append PySem.F.type_list_append mt_append (pv 6) (pa_cons (pv 8) pa_nil)))))))
    (pss_one (ps_ret (pe_tup (pa_cons (pe_lc (own := [("root", 3)]) (g := gName 3) (by rfl) sc_law_reached.nd (pi_list (pv 1)) (blkOk_by (N := ["things", "roots", "found", "root", "k", "pair", "rows", "number", "row"]) (own := [("root", 3)]) (sc := defScope s_law_reached) (by decide +kernel)) (fun _ _ _ _ _ => (pg_name (i := 3) sc_law_reached.nd rfl (Or.inl rfl))) (fun _ _ _ _ _ => pts_nil) (fun _ _ _ _ _ => (pe_bmK (K := K) rfl PySem.F.plainAttrs_list PySem.F.slot_list_index PySem.F.type_list_index (mt_indexTK (K := K) rfl (hu65 hr)) (pv 2) (pa_cons (pv 3) pa_nil)))) (pa_cons (pv 6) pa_nil)))))))))), ?_⟩), g, F.kp, F.bindsN fun _ _ _ _ _ _ us hl => match us, hl with | [_, _], _ => rfl⟩
  · obtain ⟨tp, rp, ts, rs, rts, rfl, _⟩ := h
    rfl
  · obtain ⟨tp, rp, ts, rs, rts, rfl, htp, dts, ok, hrp, rin, rl, q⟩ := h
    have tl : ts.length = rs.length := by have := dts.length; rwa [List.length_map] at this
    repeat walk_at "h"
    refine ⟨Nat.zero_le _, fun p np => ?_⟩
    have s1 : Stp [] H (upd H p (.lst [])) := .new np
    have p1 : (upd H p (.lst [])) p = some (.lst []) := upd_same
    generalize upd H p (.lst []) = H1 at s1 p1 ⊢
    repeat walk_at "h"
    refine ⟨rp, rfl, ⟨_, SqL.of (s1.keep _ _ hrp (by simp))⟩, ?_⟩
    refine for_list (xs := rts.map V.int) (fun i σ H' => ∃ (y3 : Option V) (f : List Int), σ = [some (.ref tp), some (.ref rp), some (.ref p), y3, none, none, none, none, none] ∧ Stp [] H H' ∧ H' p = some (.lst (f.map V.int)) ∧ f = (rts.take i).foldl addK [] ∧ f.length ≤ i)
      ⟨_, [], rfl, s1, p1, rfl, Nat.le_refl _⟩ (fun i σ H' _ ⟨_, _, _, s, _⟩ => SqL.of (s.keep _ _ hrp (by simp))) ?_ ?_
    · rintro i v3 σ H2 hv ⟨y3, f, rfl, s2, p2, ef, fl⟩
      rw [List.getElem?_map] at hv
      obtain ⟨n, hn, rfl⟩ := Option.map_eq_some_iff.mp hv
      have hi := (List.getElem?_eq_some_iff.mp hn).1
      have tk : rts.take (i + 1) = rts.take i ++ [n] := by rw [List.take_add_one, hn]; rfl
      have ef2 : addK f n = (rts.take (i + 1)).foldl addK [] := by rw [tk, List.foldl_append, ← ef]; rfl
      repeat walk_at "h"
      refine in_i true (SqL.of p2) ?_
      refine ⟨_, rfl, ?_⟩
      by_cases c : n ∈ f
      · have ea : addK f n = f := by unfold addK; rw [if_pos c]
        rw [ea] at ef2
        rw [decide_eq_true c]
        refine iteF ?_
        repeat walk_at "h"
        exact ⟨_, f, rfl, s2, p2, ef2, by omega⟩
      · have ea : addK f n = f ++ [n] := by unfold addK; rw [if_neg c]
        rw [ea] at ef2
        rw [decide_eq_false c]
        refine iteT ?_
        repeat walk_at "h"
        refine ⟨.inl ⟨rfl, _, SqL.of p2⟩, ?_⟩
        repeat walk_at "h"
        refine ⟨p, _, .int n, rfl, rfl, p2, by rw [List.length_map]; exact Nat.lt_of_le_of_lt (show f.length ≤ 100 by omega) (by decide), ?_⟩
        repeat walk_at "h"
        exact ⟨_, f ++ [n], rfl, s2.mut np, by rw [upd_same, map_snoc], ef2, by rw [List.length_append, List.length_singleton]; omega⟩
    · rintro σ H2 ⟨y3, f, rfl, s2, p2, ef, fl⟩
      rw [List.length_map, List.take_length] at ef
      have e0 : f = found0 rts := ef
      subst e0
      clear ef fl s1 p1
      repeat walk_at "h"
      refine ⟨tp, ts, rfl, .inl (s2.seq htp (by simp)), ?_⟩
      repeat walk_at "h"
      refine ⟨(ts.length : Nat), rfl, by omega, Int.lt_of_le_of_lt (show ((ts.length : Nat) : Int) ≤ 12 by have := ok.1; have e : (([], rs) : Gr).2.length = rs.length := rfl; omega) (by decide), ?_⟩
      refine for_range (lo := 0) (n := ts.length) (fun i σ H' => ∃ (y3 y4 y5 : Option V), σ = [some (.ref tp), some (.ref rp), some (.ref p), y3, y4, y5, none, none, none] ∧ Stp [] H H' ∧ H' p = some (.lst ((foundN ([], rs) (found0 rts) i).map V.int)))
        ⟨_, _, _, rfl, s2, p2⟩ ?_ ?_
      · rintro i σ H3 hi ⟨y3, y4, y5, rfl, s3, p3⟩
        have fd_ := Fd.nth ok rin i
        have ef : foundN ([], rs) (found0 rts) (i + 1) = foundS ([], rs) (foundN ([], rs) (found0 rts) i) i := rfl
        rw [ef]
        generalize foundN ([], rs) (found0 rts) i = f at p3 fd_ ⊢
        have fl := in_len fd_.nd fd_.inn
        have f12 : f.length ≤ 12 := Nat.le_trans fl ok.1
        repeat walk_at "h"
        refine ⟨p, _, rfl, .inl (SqL.of p3), ?_⟩
        repeat walk_at "h"
        rw [List.length_map]
        refine i_iteD (fun lt => ?_) (fun lt => ?_)
        · have il : i < f.length := by omega
          have e1 := List.getElem?_eq_getElem il
          have nin := fd_.inn _ (List.getElem_mem il)
          have es : foundS ([], rs) f i = (tgs ([], rs) f[i]).foldl addK f := by unfold foundS; rw [e1]
          rw [es]
          generalize f[i] = n at e1 nin
          obtain ⟨la, rws, hat, hrw, drw⟩ := row_get (g := ([], rs)) dts nin
          have rl4 : (rowAt ([], rs) n).length ≤ 4 := ok.2.1 _ (rowAt_mem nin)
          unfold tgs
          generalize rowAt ([], rs) n = row at drw rl4 ⊢
          have wl : rws.length = row.length := by have := drw.length; rwa [List.length_map] at this
          repeat walk_at "h"
          refine i_IxL (SqL.of p3) (at_of (j := i) (by omega) (by rw [List.getElem?_map, e1]; rfl)) ?_
          refine i_IxL (s3.seq htp (by simp)) hat ?_
          refine ⟨la, rfl, ⟨rws, s3.seq hrw (by simp)⟩, ?_⟩
          refine for_list (xs := rws) (fun j σ H' => ∃ (y5 : Option V) (f2 : List Int), σ = [some (.ref tp), some (.ref rp), some (.ref p), y3, some (.int (0 + (i : Int))), y5, none, none, none] ∧ Stp [] H H' ∧ H' p = some (.lst (f2.map V.int)) ∧ f2 = ((linksOf (row.take j)).map (·.2)).foldl addK f ∧ f2.length ≤ 12 + j)
            ⟨_, f, rfl, s3, p3, rfl, f12⟩ (fun j σ H' _ ⟨_, _, _, s, _⟩ => s.seq hrw (by simp)) ?_ ?_
          · rintro j v5 σ H4 hv ⟨y5, f2, rfl, s4, p4, ef2, l2⟩
            obtain ⟨e, he, de⟩ := mp_get (DtsAt.stp s4 _ _ (gfs_flat _) drw) hv
            obtain ⟨ea, y, rfl, ht, dy⟩ := gfAt de
            have hj := (List.getElem?_eq_some_iff.mp he).1
            have tk2 : row.take (j + 1) = row.take j ++ [e] := by rw [List.take_add_one, he]; rfl
            obtain ⟨fz, x⟩ := e
            repeat walk_at "h"
            refine i_IxT ht.sqt (at_of (j := 1) rfl rfl) ?_
            repeat walk_at "h"
            refine isi_gv dy ?_
            repeat walk_at "h"
            have same : gvRef x = none → f2 = ((linksOf (row.take (j + 1))).map (·.2)).foldl addK f := fun z => by rw [tk2, links_snoc, z]; exact ef2
            cases x with
            | num k =>
              refine iteF ?_
              repeat walk_at "h"
              exact ⟨_, f2, rfl, s4, p4, same rfl, by omega⟩
            | txt z =>
              refine iteF ?_
              repeat walk_at "h"
              exact ⟨_, f2, rfl, s4, p4, same rfl, by omega⟩
            | ref k =>
              obtain ⟨ra, rfl, hra⟩ := gvRefAt dy
              have ef3 : addK f2 k = ((linksOf (row.take (j + 1))).map (·.2)).foldl addK f := by
                rw [tk2, links_snoc]
                show _ = List.foldl addK f (List.map _ (linksOf (row.take j) ++ [(fz, k)]))
                rw [List.map_append, List.foldl_append, ← ef2]; rfl
              refine iteT ?_
              repeat walk_at "h"
              refine i_IxT ht.sqt (at_of (j := 1) rfl rfl) ?_
              repeat walk_at "h"
              refine i_IxT hra.sqt (at_of (j := 1) rfl rfl) ?_
              repeat walk_at "h"
              refine in_i true (SqL.of p4) ?_
              refine ⟨_, rfl, ?_⟩
              by_cases c : k ∈ f2
              · have ea : addK f2 k = f2 := by unfold addK; rw [if_pos c]
                rw [ea] at ef3
                rw [decide_eq_true c]
                refine iteF ?_
                repeat walk_at "h"
                exact ⟨_, f2, rfl, s4, p4, ef3, by omega⟩
              · have ea : addK f2 k = f2 ++ [k] := by unfold addK; rw [if_neg c]
                rw [ea] at ef3
                rw [decide_eq_false c]
                refine iteT ?_
                repeat walk_at "h"
                refine ⟨.inl ⟨rfl, _, SqL.of p4⟩, ?_⟩
                repeat walk_at "h"
                refine i_IxT ht.sqt (at_of (j := 1) rfl rfl) ?_
                repeat walk_at "h"
                refine i_IxT hra.sqt (at_of (j := 1) rfl rfl) ?_
                repeat walk_at "h"
                refine ⟨p, _, .int k, rfl, rfl, p4, by rw [List.length_map]; exact Nat.lt_of_le_of_lt (show f2.length ≤ 100 by omega) (by decide), ?_⟩
                repeat walk_at "h"
                exact ⟨_, f2 ++ [k], rfl, s4.mut np, by rw [upd_same, map_snoc], ef3, by rw [List.length_append, List.length_singleton]; omega⟩
          · rintro σ H4 ⟨y5, f2, rfl, s4, p4, ef2, l2⟩
            rw [wl, List.take_length] at ef2
            rw [ef2] at p4
            repeat walk_at "h"
            exact ⟨_, _, _, rfl, s4, p4⟩
        · have e0 : f[i]? = none := List.getElem?_eq_none (by omega)
          have es : foundS ([], rs) f i = f := by unfold foundS; rw [e0]
          rw [es]
          repeat walk_at "h"
          exact ⟨_, _, _, rfl, s3, p3⟩
      · rintro σ H3 ⟨y3, y4, y5, rfl, s3, p3⟩
        rw [tl] at p3
        have fd_ := Fd.nth ok rin rs.length
        have fcl := Fd.closed ok rin
        have egr : reG rs rts = (rts.map fun r => (((foundG rs rts).idxOf r : Nat) : Int), (foundG rs rts).map fun n => reRow (foundG rs rts) (rowAt ([], rs) n)) := rfl
        rw [egr] at q
        unfold foundG at fcl q
        generalize foundN ([], rs) (found0 rts) rs.length = f at p3 fd_ fcl q
        have fl := in_len fd_.nd fd_.inn
        have f12 : f.length ≤ 12 := Nat.le_trans fl ok.1
        repeat walk_at "h"
        refine ⟨Nat.zero_le _, fun wp nwp => ?_⟩
        have s4 : Stp [] H3 (upd H3 wp (.lst [])) := .new nwp
        have w4 : (upd H3 wp (.lst [])) wp = some (.lst []) := upd_same
        have p4 := s4.keep _ _ p3 (by simp)
        have pw : p ≠ wp := ne_of_none p3 nwp
        have nw0 : H wp = none := s3.free nwp (by simp)
        have s04 := s3.trans s4
        generalize upd H3 wp (.lst []) = H4 at s4 w4 p4 s04 ⊢
        clear s4 nwp p3 s3
        repeat walk_at "h"
        refine ⟨p, rfl, ⟨_, SqL.of p4⟩, ?_⟩
        refine for_list (xs := f.map V.int) (fun i σ H' => ∃ (y5 y7 y8 : Option V) (ws : List V), σ = [some (.ref tp), some (.ref rp), some (.ref p), y3, y4, y5, some (.ref wp), y7, y8] ∧ Stp [] H H' ∧ H' p = some (.lst (f.map V.int)) ∧ H' wp = some (.lst ws) ∧ Paired (NewR K H H' wp) ws ((f.take i).map fun n => reRow f (rowAt ([], rs) n)))
          ⟨_, _, _, [], rfl, s04, p4, w4, .nil⟩ (fun i σ H' _ ⟨_, _, _, _, _, _, hp, _⟩ => SqL.of hp) ?_ ?_
        · rintro i v7 σ H5 hv ⟨y5, y7, y8, ws, rfl, s5, p5, w5, k5⟩
          rw [List.getElem?_map] at hv
          obtain ⟨n, hn, rfl⟩ := Option.map_eq_some_iff.mp hv
          have nin := fd_.inn n (List.mem_of_getElem? hn)
          have tin : ∀ m ∈ tgs ([], rs) n, m ∈ f := fcl n (List.mem_of_getElem? hn)
          have tk : f.take (i + 1) = f.take i ++ [n] := by rw [List.take_add_one, hn]; rfl
          have wsl := Paired.length k5
          rw [List.length_map, List.length_take] at wsl
          rw [tk, List.map_append]
          obtain ⟨la, rws, hat, hrw, drw⟩ := row_get (g := ([], rs)) dts nin
          have rl4 : (rowAt ([], rs) n).length ≤ 4 := ok.2.1 _ (rowAt_mem nin)
          have erow : [n].map (fun n => reRow f (rowAt ([], rs) n)) = [reRow f (rowAt ([], rs) n)] := rfl
          rw [erow]
          unfold tgs at tin
          generalize rowAt ([], rs) n = row at drw rl4 tin ⊢
          generalize (f.take i).map (fun n => reRow f (rowAt ([], rs) n)) = G at k5 ⊢
          have wl : rws.length = row.length := by have := drw.length; rwa [List.length_map] at this
          repeat walk_at "h"
          refine ⟨Nat.zero_le _, fun l nl => ?_⟩
          have s6 : Stp [] H5 (upd H5 l (.lst [])) := .new nl
          have l6 : (upd H5 l (.lst [])) l = some (.lst []) := upd_same
          have lw : l ≠ wp := (ne_of_none w5 nl).symm
          have lp : p ≠ l := ne_of_none p5 nl
          have nl0 : H l = none := s5.free nl (by simp)
          have p6 := s6.keep _ _ p5 (by simp)
          generalize hH6 : upd H5 l (.lst []) = H6 at s6 l6 p6 ⊢
          repeat walk_at "h"
          refine i_IxL ((s5.trans s6).seq htp (by simp)) hat ?_
          refine ⟨la, rfl, ⟨rws, (s5.trans s6).seq hrw (by simp)⟩, ?_⟩
          refine for_list (xs := rws) (fun j σ H' => ∃ (y5 : Option V) (es : List V), σ = [some (.ref tp), some (.ref rp), some (.ref p), y3, y4, y5, some (.ref wp), some (.int n), some (.ref l)] ∧ Stp [] H5 H' ∧ H' l = some (.lst es) ∧ DtsAt K H' es ((reRow f (row.take j)).map gfD))
            ⟨_, [], rfl, s6, l6, .nil⟩ (fun j σ H' _ ⟨_, _, _, s, _⟩ => (s5.trans s).seq hrw (by simp)) ?_ ?_
          · rintro j v5 σ H7 hv ⟨y5, es, rfl, s7, l7, d7⟩
            obtain ⟨e, he, de⟩ := mp_get (DtsAt.stp (s5.trans s7) _ _ (gfs_flat _) drw) hv
            have de0 := de
            obtain ⟨ea, y, rfl, ht, dy⟩ := gfAt de
            have hj := (List.getElem?_eq_some_iff.mp he).1
            have tk2 : row.take (j + 1) = row.take j ++ [e] := by rw [List.take_add_one, he]; rfl
            have er : reRow f (row.take (j + 1)) = reRow f (row.take j) ++ [(e.1, reV f e.2)] := by rw [tk2]; unfold reRow; rw [List.map_append]; rfl
            have em := List.mem_of_getElem? he
            have el : es.length = (reRow f (row.take j)).length := by have := d7.length; rwa [List.length_map] at this
            have el2 : (reRow f (row.take j)).length ≤ 4 := by unfold reRow; rw [List.length_map, List.length_take]; omega
            rw [er]
            generalize reRow f (row.take j) = A at d7 el el2 ⊢
            obtain ⟨fz, x⟩ := e
            have same : gvRef x = none → reV f x = x := fun z => by cases x <;> first | rfl | cases z
            have app : ∀ (H8 : Hp) (u : V) (x' : Gv), Stp [] H7 H8 → DtAt K H8 u (gfD (fz, x')) → H8 l = some (.lst es) ∧ Stp [] H5 (upd H8 l (.lst (es ++ [u]))) ∧ DtsAt K (upd H8 l (.lst (es ++ [u]))) (es ++ [u]) ((A ++ [(fz, x')]).map gfD) := by
              intro H8 u x' s8 du
              have l8 := s8.keep _ _ l7 (by simp)
              have s9 : Stp [l] H8 (upd H8 l (.lst (es ++ [u]))) := .wr (by simp) l8 fun _ z => nomatch z
              refine ⟨l8, (s7.trans s8).mut nl, ?_⟩
              rw [List.map_append]
              exact (DtsAt.stp s9 _ _ (gfs_flat _) (DtsAt.stp s8 _ _ (gfs_flat _) d7)).append (.cons (DtAt.stp s9 _ _ (gfD_flat _) du) .nil)
            have room : es.length < sizeLine := Nat.lt_of_le_of_lt (show es.length ≤ 10 by omega) (by decide)
            repeat walk_at "h"
            refine i_IxT ht.sqt (at_of (j := 1) rfl rfl) ?_
            repeat walk_at "h"
            refine isi_gv dy ?_
            repeat walk_at "h"
            cases x with
            | num k =>
              refine iteF ?_
              repeat walk_at "h"
              refine ⟨.inl ⟨rfl, _, SqL.of l7⟩, ?_⟩
              repeat walk_at "h"
              obtain ⟨a1, a2, a3⟩ := app H7 (.ref ea) (.num k) (.refl _) de0
              refine ⟨l, es, .ref ea, rfl, rfl, a1, room, ?_⟩
              repeat walk_at "h"
              exact ⟨_, _, rfl, a2, upd_same, a3⟩
            | txt z =>
              refine iteF ?_
              repeat walk_at "h"
              refine ⟨.inl ⟨rfl, _, SqL.of l7⟩, ?_⟩
              repeat walk_at "h"
              obtain ⟨a1, a2, a3⟩ := app H7 (.ref ea) (.txt z) (.refl _) de0
              refine ⟨l, es, .ref ea, rfl, rfl, a1, room, ?_⟩
              repeat walk_at "h"
              exact ⟨_, _, rfl, a2, upd_same, a3⟩
            | ref k =>
              obtain ⟨ra, rfl, hra⟩ := gvRefAt dy
              have kf : k ∈ f := tin k (List.mem_map.mpr ⟨(fz, k), List.mem_filterMap.mpr ⟨_, em, rfl⟩, rfl⟩)
              have p7 := s7.keep _ _ p5 (by simp)
              refine iteT ?_
              repeat walk_at "h"
              refine ⟨.inl ⟨rfl, _, SqL.of l7⟩, ?_⟩
              repeat walk_at "h"
              refine i_IxT ht.sqt (at_of (j := 0) rfl rfl) ?_
              repeat walk_at "h"
              refine ⟨.inl ⟨rfl, _, SqL.of p7⟩, ?_⟩
              repeat walk_at "h"
              refine i_IxT ht.sqt (at_of (j := 1) rfl rfl) ?_
              repeat walk_at "h"
              refine i_IxT hra.sqt (at_of (j := 1) rfl rfl) ?_
              repeat walk_at "h"
              refine index_i p7 kf ?_
              repeat walk_at "h"
              refine ⟨(by decide : 2 ≤ sizeLine), fun t nt => ?_⟩
              have s8 : Stp [] H7 (upd H7 t (.tup [.str (Str.ofString "ref"), .int (f.idxOf k : Nat)])) := .new nt
              have t8 : DtAt K (upd H7 t (.tup [.str (Str.ofString "ref"), .int (f.idxOf k : Nat)])) (.ref t) (gvD (.ref (f.idxOf k : Nat))) := .tup (.inl upd_same) (.cons (.txt _) (.cons (.num _) .nil))
              generalize upd H7 t (.tup [.str (Str.ofString "ref"), .int (f.idxOf k : Nat)]) = H8 at s8 t8 ⊢
              repeat walk_at "h"
              refine ⟨(by decide : 2 ≤ sizeLine), fun u nu => ?_⟩
              have s9 : Stp [] H8 (upd H8 u (.tup [.str fz, .ref t])) := .new nu
              have u9 : DtAt K (upd H8 u (.tup [.str fz, .ref t])) (.ref u) (gfD (fz, .ref (f.idxOf k : Nat))) := .tup (.inl upd_same) (.cons (.txt _) (.cons (DtAt.stp s9 _ _ (gvD_flat _) t8) .nil))
              show _
              generalize hH9 : upd H8 u (.tup [.str fz, .ref t]) = H9 at s9 u9
              obtain ⟨a1, a2, a3⟩ := app H9 (.ref u) (.ref (f.idxOf k : Nat)) (s8.trans s9) u9
              subst hH9
              repeat walk_at "h"
              refine ⟨l, es, .ref u, rfl, rfl, a1, room, ?_⟩
              repeat walk_at "h"
              exact ⟨_, _, rfl, a2, upd_same, a3⟩
          · rintro σ H7 ⟨y5, es, rfl, s7, l7, d7⟩
            rw [wl, List.take_length] at d7
            have s57 := s5.trans s7
            have w7 := s7.keep _ _ w5 (by simp)
            have p7 := s7.keep _ _ p5 (by simp)
            have k7 := NewR.all k5 s7 (by simp)
            repeat walk_at "h"
            refine ⟨.inl ⟨rfl, _, SqL.of w7⟩, ?_⟩
            repeat walk_at "h"
            refine ⟨wp, ws, .ref l, rfl, rfl, w7, Nat.lt_of_le_of_lt (show ws.length ≤ 100 by omega) (by decide), ?_⟩
            have s8 : Stp [wp] H7 (upd H7 wp (.lst (ws ++ [.ref l]))) := .wr (by simp) w7 fun _ z => nomatch z
            repeat walk_at "h"
            refine ⟨_, _, _, ws ++ [.ref l], rfl, s57.mut nw0, s8.keep _ _ p7 (by simpa using pw), upd_same, Paired.snoc (NewR.all k7 s8 (by simp)) ⟨l, es, rfl, nl0, lw, s8.keep _ _ l7 (by simpa using lw), DtsAt.stp s8 _ _ (gfs_flat _) d7⟩⟩
        · rintro σ H5 ⟨y5, y7, y8, ws, rfl, s5, p5, w5, k5⟩
          rw [List.length_map, List.take_length] at k5
          repeat walk_at "h"
          refine i_Lc (i_List (i_var rfl ⟨rp, rfl, ⟨_, SqL.of (s5.keep _ _ hrp (by simp))⟩, fun l nl => ?_⟩))
          refine lc_list (xs := rts.map V.int) (fun i H' => Stp [] H5 H' ∧ H' l = some (.lst (((rts.take i).map fun r => ((f.idxOf r : Nat) : Int)).map V.int))) ⟨.new nl, upd_same⟩ (fun i H' _ h => SqL.of ((s5.trans h.1).keep _ _ hrp (by simp))) ?_ ?_
          · rintro i v H6 hv ⟨s6, l6⟩
            rw [List.getElem?_map] at hv
            obtain ⟨n, hn, rfl⟩ := Option.map_eq_some_iff.mp hv
            have tk : rts.take (i + 1) = rts.take i ++ [n] := by rw [List.take_add_one, hn]; rfl
            have p6 := s6.keep _ _ p5 (by simp)
            have rl2 : (rts.take i).length ≤ 12 := by rw [List.length_take]; omega
            repeat walk_at "h"
            refine ⟨rfl, i_Yes ?_⟩
            refine i_ite (fun _ => ?_) (fun z => nomatch z)
            repeat walk_at "h"
            refine ⟨.inl ⟨rfl, _, SqL.of p6⟩, ?_⟩
            repeat walk_at "h"
            refine index_i p6 (fd_.has n (List.mem_of_getElem? hn)) ?_
            refine ⟨_, l6, by rw [List.length_map, List.length_map]; exact Nat.lt_of_le_of_lt (show _ ≤ 100 by omega) (by decide), s6.mut nl, ?_⟩
            rw [upd_same, tk, List.map_append, List.map_append]; rfl
          · rintro H6 ⟨s6, l6⟩
            rw [List.length_map, List.take_length] at l6
            have w6 := s6.keep _ _ w5 (by simp)
            have k6 := NewR.all k5 s6 (by simp)
            have nl0 := s5.free nl (by simp)
            repeat walk_at "h"
            refine ⟨(by decide : 2 ≤ sizeLine), fun t nt => ?_⟩
            have s7 : Stp [] H6 (upd H6 t (.tup [.ref l, .ref wp])) := .new nt
            have t7 : (upd H6 t (.tup [.ref l, .ref wp])) t = some (.tup [.ref l, .ref wp]) := upd_same
            have w7 := s7.keep _ _ w6 (by simp)
            have l7 := s7.keep _ _ l6 (by simp)
            have k7 := NewR.all k6 s7 (by simp)
            refine q (.ref t) _ (fun M H2 hM s => ?_) ((s5.trans s6).trans s7)
            have fresh : ∀ c, H c = none → c ∉ M := fun c hc z => hM c z hc
            refine .tup (.inl (s.tups _ _ t7)) (.cons (.lst (SqL.of (s.keep _ _ l7 (fresh l nl0))) (of_ints _)) (.cons (.lst (SqL.of (s.keep _ _ w7 (fresh wp nw0))) ?_) .nil))
            exact NewR.dts (NewR.all k7 s fun c hc => .inr (hM c hc))
end

section
variable {P : Program} {w : World} {K : PySem.W.Frag} {mg : Str → Option Value} {base : Heap} {C : Addr}
/-! ### a drawn graph -/
theorem links_of_mem {r : List Gf} {e : Str × Int} (h : e ∈ linksOf r) : (e.1, Gv.ref e.2) ∈ r := by
  obtain ⟨x, hx, he⟩ := List.mem_filterMap.mp h
  obtain ⟨z, y⟩ := x
  cases y with
  | num i => cases he
  | txt i => cases he
  | ref k =>
    have : (z, k) = e := by simpa [gvRef] using he
    rw [← this]; exact hx
theorem rows_ok {rs : List (List Gf)} (h : RowsOk rs) (l : rs.length ≤ 12) : TsOk rs := by
  refine ⟨l, fun r hr => ?_, fun r hr e he => ?_⟩
  · have := (h r hr).1.length_le
    rw [List.length_map] at this
    exact Nat.le_trans this (by decide)
  · have := (h r hr).2 _ (links_of_mem he)
    exact this
/-- a graph as the law draws it -/
def AnyG (most : Int) (g : Gr) : Prop := ∃ (rs : List (List Gf)) (rts : List Int), g = reG rs rts ∧ RowsOk rs ∧ (rs.length : Nat) ≤ most ∧ (∀ n ∈ rts, inG ([], rs) n) ∧ 0 < rts.length ∧ rts.length ≤ 3
def KeepG (K : PySem.W.Frag) (M : List Addr) (H : Hp) (v : V) (g : Gr) : Prop := ∀ H2, Stp M H H2 → DtAt K H2 v (grDt g)
theorem KeepG.stp {M : List Addr} {H H1 : Hp} {v : V} {g : Gr} (h : KeepG K M H v g) (s : Stp M H H1) : KeepG K M H1 v g := fun H2 s2 => h H2 (s.trans s2)
def spAny (K : PySem.W.Frag) : Sp := fun vs H Q _ => ∃ (b dg : Addr) (most same : Int), vs = [.ref b, .int most, .int same] ∧ 0 < most ∧ most ≤ 12 ∧ 0 < same ∧ Box K b dg H ∧
  ∀ (v : V) (g : Gr) (H1 : Hp), KeepG K [b] H1 v g → GrOk g → AnyG most g → Stp [b] H H1 → Box K b dg H1 → Q v H1
theorem cal_law_any (F : Df K mg d_law_any) (B : Blt mg) (C_law_draw : Cal P w K mg base lv_law_draw "_law_draw" ["box", "many"] (spDraw K)) (C_law_drawn : Cal P w K mg base lv_law_drawn "_law_drawn" ["box", "most", "same"] (spDrawn K)) (C_law_reached : Cal P w K mg base lv_law_reached "_law_reached" ["things", "roots"] (spReached K)) : Cal P w K mg base lv_law_any "_law_any" ["box", "most", "same"] (spAny K) := by
  obtain ⟨f, fd, F, g⟩ := F
  refine ⟨f, fd, F.ok sc_law_any (fun vs H Q E h => ?_) (fun cdv A outer s H vs Q E hr h => ⟨_, PSs.nox
    (pss_cons (ps_set (i := 3) sc_law_any.nd rfl (Or.inr rfl) (pc_call C_law_drawn (hr.mono (by decide)) (by rfl) (pa_cons (pv 0) (pa_cons (pv 1) (pa_cons (pv 2) pa_nil)))))
    (pss_one (ps_ret (pc_call C_law_reached (hr.mono (by decide)) (by rfl) (pa_cons (pv 3) (pa_cons (pe_lc (own := [("k", 4)]) (g := gName 4) (by rfl) sc_law_any.nd (pi_range1 rfl B.range (pa_cons (pe_op op_add pe_int (pc_call C_law_draw (hr.mono (by decide)) (by rfl) (pa_cons (pv 0) (pa_cons pe_int pa_nil)))) pa_nil)) (blkOk_by (N := ["box", "most", "same", "things", "k"]) (own := [("k", 4)]) (sc := defScope s_law_any) (by decide +kernel)) (fun _ _ _ _ _ => (pg_name (i := 4) sc_law_any.nd rfl (Or.inl rfl))) (fun _ _ _ _ _ => pts_nil) (fun _ _ _ _ _ => (pc_call C_law_draw (hr.mono (by decide)) (by rfl) (pa_cons (pv 0) (pa_cons (pe_callB (call_len_seqK (K := K) rfl) (by rfl) B.len boot_len (pa_cons (pv 3) pa_nil)) pa_nil))))) pa_nil)))))), ?_⟩), g, F.kp, F.bindsN fun _ _ _ _ _ _ us hl => match us, hl with | [_, _, _], _ => rfl⟩
  · obtain ⟨b, dg, most, same, rfl, _⟩ := h
    rfl
  · obtain ⟨b, dg, most, same, rfl, m0, m12, sm, hb, q⟩ := h
    repeat walk_at "h"
    refine ⟨b, dg, most, same, rfl, m0, m12, sm, hb, fun tp rs H1 kt rok r0 rm s1 b1 => ?_⟩
    have tok : TsOk rs := rows_ok rok (by omega)
    repeat walk_at "h"
    refine i_Lc ?_
    repeat walk_at "h"
    refine ⟨b, dg, 3, rfl, by decide, b1, fun k H2 k0 k1 s2 b2 => ?_⟩
    repeat walk_at "h"
    refine ⟨1 + k, rfl, by omega, by omega, fun p np => ?_⟩
    have pb := b2.nin np
    have pb' : b ≠ p := by simpa using fun z : b = p => pb (by simp [z])
    have pdg := b2.dgn np
    refine lc_range (lo := 0) (n := (1 + k).toNat) (fun i H' => Stp [b] H2 H' ∧ Box K b dg H' ∧ ∃ rts : List Int, H' p = some (.lst (rts.map V.int)) ∧ (∀ n ∈ rts, inG ([], rs) n) ∧ rts.length = i) ⟨.new np, b2.grow (.new np), [], upd_same, by simp, rfl⟩ ?_ ?_
    · rintro i H3 hi ⟨s3, b3, rts, p3, rin, rl⟩
      repeat walk_at "h"
      refine ⟨rfl, i_Yes ?_⟩
      refine i_ite (fun _ => ?_) (fun z => nomatch z)
      have kt3 := (kt.stp s2 (by simp)).stp s3 (by simp)
      obtain ⟨ws, _, tp3, kr3⟩ := kt3
      have wl := Paired.length kr3
      repeat walk_at "h"
      refine ⟨tp, ws, rfl, .inl (SqL.of tp3), ?_⟩
      repeat walk_at "h"
      refine ⟨b, dg, (ws.length : Nat), rfl, by omega, b3, fun n H4 n0 n1 s4 b4 => ?_⟩
      have p4 := s4.keep _ _ p3 pb
      have s5 : Stp [p] H4 (upd H4 p (.lst (rts.map V.int ++ [.int n]))) := .wr (by simp) p4 fun _ z => nomatch z
      refine ⟨_, p4, by rw [List.length_map]; exact Nat.lt_of_le_of_lt (show rts.length ≤ 100 by omega) (by decide), (s3.trans s4).mut np, b4.stp s5 (by simpa using pb') (by simpa using pdg), rts ++ [n], by rw [upd_same, map_snoc], fun m hm => ?_, by rw [List.length_append, List.length_singleton, rl]⟩
      rcases List.mem_append.mp hm with y | y
      · exact rin m y
      · rw [List.mem_singleton.mp y]
        exact ⟨n0, by show n < ((rs.length : Nat) : Int); omega⟩
    · rintro H3 ⟨s3, b3, rts, p3, rin, rl⟩
      have kt3 := (kt.stp s2 (by simp)).stp s3 (by simp)
      obtain ⟨ws, _, tp3, kr3⟩ := kt3
      have s03 := (s1.trans s2).trans s3
      repeat walk_at "h"
      refine ⟨tp, p, ws, rs, rts, rfl, SqL.of tp3, KeepR.dts kr3, tok, p3, rin, by omega, fun v H4 ng s4 => ?_⟩
      refine q v (reG rs rts) H4 (fun H5 s5 => ng [b] H5 (fun c hc => ?_) s5) (reG_ok tok rin) ⟨rs, rts, rfl, rok, rm, rin, by omega, by omega⟩ (s03.trans (s4.mono (by simp))) (b3.grow s4)
      rw [List.mem_singleton.mp hc]
      obtain ⟨⟨z, e, _⟩, _, _⟩ := b3
      rw [e]; simp
end

/-! ### words of fields, by their values -/
def rkS (z : Str) : Nat := if z = Str.ofString "a" then 0 else if z = Str.ofString "b" then 1 else 2
theorem rkS_le (z : Str) : rkS z ≤ 2 := by
  unfold rkS
  split
  · omega
  · split <;> omega
/-- shorter words first, equally long ones in the order of lists -/
def val : List Str → Nat
  | [] => 0
  | x :: a => (rkS x + 1) * 3 ^ a.length + val a
theorem val_snoc (z : Str) : ∀ a : List Str, val (a ++ [z]) = 3 * val a + rkS z + 1
  | [] => by simp [val]
  | x :: a => by
    have h := val_snoc z a
    show (rkS x + 1) * 3 ^ (a ++ [z]).length + val (a ++ [z]) = 3 * ((rkS x + 1) * 3 ^ a.length + val a) + rkS z + 1
    rw [h, List.length_append, List.length_singleton, Nat.pow_succ, ← Nat.mul_assoc]
    generalize (rkS x + 1) * 3 ^ a.length = p
    omega
/-- the least and the greatest value of words of a length -/
def loV : Nat → Nat
  | 0 => 0
  | n + 1 => 3 ^ n + loV n
theorem hi_lo : ∀ n : Nat, 2 * loV n + 1 = 3 ^ n
  | 0 => rfl
  | n + 1 => by
    have h := hi_lo n
    rw [loV, Nat.pow_succ]
    omega
theorem lo_le : ∀ a : List Str, loV a.length ≤ val a
  | [] => Nat.le_refl _
  | x :: a => by
    have h := lo_le a
    rw [List.length_cons, loV, val, Nat.add_mul]
    omega
theorem val_hi : ∀ a : List Str, val a < loV a.length + 3 ^ a.length
  | [] => by simp [val, loV]
  | x :: a => by
    have h := val_hi a
    have r := rkS_le x
    have m : (rkS x + 1) * 3 ^ a.length ≤ 3 * 3 ^ a.length := Nat.mul_le_mul_right _ (by omega)
    rw [List.length_cons, loV, val, Nat.pow_succ]
    have e := hi_lo a.length
    omega
theorem lo_mono {m n : Nat} (h : m ≤ n) : loV m ≤ loV n := by
  induction h with
  | refl => exact Nat.le_refl _
  | step _ ih => exact Nat.le_trans ih (Nat.le_add_left _ _)
theorem val_len {a b : List Str} (h : a.length < b.length) : val a < val b := by
  have h1 := val_hi a
  have h2 := lo_le b
  have h3 := lo_mono (show a.length + 1 ≤ b.length from h)
  rw [loV] at h3
  omega
theorem rk_lt : ∀ x ∈ fieldsG, ∀ y ∈ fieldsG, (x.cps.toList < y.cps.toList) ↔ rkS x < rkS y := by
  intro x hx y hy
  simp only [fieldsG, List.mem_cons, List.not_mem_nil, or_false] at hx hy
  rcases hx with rfl | rfl | rfl <;> rcases hy with rfl | rfl | rfl <;> decide
theorem rk_inj : ∀ x ∈ fieldsG, ∀ y ∈ fieldsG, rkS x = rkS y → x = y := by
  intro x hx y hy
  simp only [fieldsG, List.mem_cons, List.not_mem_nil, or_false] at hx hy
  rcases hx with rfl | rfl | rfl <;> rcases hy with rfl | rfl | rfl <;> decide
/-- the order of lists of texts -/
def lexS : List Str → List Str → Bool
  | [], [] => false
  | [], _ :: _ => true
  | _ :: _, [] => false
  | x :: a, y :: b => if x = y then lexS a b else decide (x.cps.toList < y.cps.toList)
theorem lexS_val : ∀ {a b : List Str}, (∀ x ∈ a, x ∈ fieldsG) → (∀ x ∈ b, x ∈ fieldsG) → a.length = b.length → lexS a b = decide (val a < val b)
  | [], [], _, _, _ => by simp [lexS, val]
  | [], _ :: _, _, _, h => by simp at h
  | _ :: _, [], _, _, h => by simp at h
  | x :: a, y :: b, ha, hb, h => by
    have h' : a.length = b.length := by simpa using h
    have ih := lexS_val (fun z hz => ha z (List.mem_cons_of_mem _ hz)) (fun z hz => hb z (List.mem_cons_of_mem _ hz)) h'
    have hx := ha x List.mem_cons_self
    have hy := hb y List.mem_cons_self
    unfold lexS
    by_cases c : x = y
    · rw [if_pos c, ih, c]
      show _ = decide ((rkS y + 1) * 3 ^ a.length + val a < (rkS y + 1) * 3 ^ b.length + val b)
      rw [h']
      congr 1
      exact propext ⟨fun z => by omega, fun z => by omega⟩
    · rw [if_neg c]
      show _ = decide ((rkS x + 1) * 3 ^ a.length + val a < (rkS y + 1) * 3 ^ b.length + val b)
      rw [h']
      have ea := val_hi a
      have eb := val_hi b
      have la := lo_le a
      have lb := lo_le b
      rw [h'] at ea la
      have k := rk_lt x hx y hy
      have ne : rkS x ≠ rkS y := fun z => c (rk_inj x hx y hy z)
      congr 1
      refine propext (k.trans ⟨fun z => ?_, fun z => ?_⟩)
      · have m : (rkS x + 1 + 1) * 3 ^ b.length ≤ (rkS y + 1) * 3 ^ b.length := Nat.mul_le_mul_right _ (by omega)
        rw [Nat.add_mul (rkS x + 1) 1] at m
        omega
      · rcases Nat.lt_or_ge (rkS x) (rkS y) with l | l
        · exact l
        · exfalso
          have m : (rkS y + 1 + 1) * 3 ^ b.length ≤ (rkS x + 1) * 3 ^ b.length := Nat.mul_le_mul_right _ (by omega)
          rw [Nat.add_mul (rkS y + 1) 1] at m
          omega
theorem val_inj : ∀ {a b : List Str}, (∀ x ∈ a, x ∈ fieldsG) → (∀ x ∈ b, x ∈ fieldsG) → val a = val b → a = b := by
  intro a b ha hb e
  have l : a.length = b.length := by
    rcases Nat.lt_trichotomy a.length b.length with z | z | z
    · have := val_len z; omega
    · exact z
    · have := val_len z; omega
  induction a generalizing b with
  | nil => cases b with
    | nil => rfl
    | cons y b => simp at l
  | cons x a ih =>
    cases b with
    | nil => simp at l
    | cons y b =>
      have h' : a.length = b.length := by simpa using l
      have ea := val_hi a
      have eb := val_hi b
      have la := lo_le a
      have lb := lo_le b
      rw [h'] at ea la
      have e' : (rkS x + 1) * 3 ^ a.length + val a = (rkS y + 1) * 3 ^ b.length + val b := e
      rw [h'] at e'
      have c : rkS x = rkS y := by
        rcases Nat.lt_trichotomy (rkS x) (rkS y) with z | z | z
        · have m : (rkS x + 1 + 1) * 3 ^ b.length ≤ (rkS y + 1) * 3 ^ b.length := Nat.mul_le_mul_right _ (by omega)
          rw [Nat.add_mul (rkS x + 1) 1] at m
          omega
        · exact z
        · have m : (rkS y + 1 + 1) * 3 ^ b.length ≤ (rkS x + 1) * 3 ^ b.length := Nat.mul_le_mul_right _ (by omega)
          rw [Nat.add_mul (rkS y + 1) 1] at m
          omega
      rw [c] at e'
      rw [rk_inj x (ha x List.mem_cons_self) y (hb y List.mem_cons_self) c, ih (fun z hz => ha z (List.mem_cons_of_mem _ hz)) (fun z hz => hb z (List.mem_cons_of_mem _ hz)) (by omega) h']

/-! ### the least paths -/
/-- w leads from s to t -/
inductive Leads (g : Gr) (s : Int) : List Str → Int → Prop
  | nil : Leads g s [] s
  | snoc {w : List Str} {n : Int} {e : Str × Int} : Leads g s w n → e ∈ linksOf (rowAt g n) → Leads g s (w ++ [e.1]) e.2
/-- the fields of each object ascend -/
def AscG (g : Gr) : Prop := ∀ n, inG g n → ((linksOf (rowAt g n)).map (·.1)).Sublist fieldsG
theorem Leads.inG {g : Gr} {s : Int} (ok : GrOk g) (hs : inG g s) {w : List Str} {t : Int} (h : Leads g s w t) : GT.inG g t := by
  induction h with
  | nil => exact hs
  | snoc _ he ih => exact tgs_in ok ih _ (List.mem_map.mpr ⟨_, he, rfl⟩)
theorem Leads.fields {g : Gr} {s : Int} (ok : GrOk g) (hs : GT.inG g s) (asc : AscG g) {w : List Str} {t : Int} (h : Leads g s w t) : ∀ x ∈ w, x ∈ fieldsG := by
  induction h with
  | nil => simp
  | snoc h0 he ih =>
    intro x hx
    rcases List.mem_append.mp hx with z | z
    · exact ih x z
    · rw [List.mem_singleton.mp z]
      exact (asc _ (h0.inG ok hs)).mem (List.mem_map.mpr ⟨_, he, rfl⟩)
/-- o is the least path from s to t, or there is none -/
def SMin (g : Gr) (s t : Int) : Option (List Str) → Prop
  | none => ∀ w, ¬ Leads g s w t
  | some w => Leads g s w t ∧ ∀ w', Leads g s w' t → val w ≤ val w'
/-- the paths ws by which a search from s came to its places -/
structure Pw (g : Gr) (s : Int) (cm : Cm) (ws : List (List Str)) : Prop where
  len : ws.length = cm.length
  lead : ∀ (i : Nat) e w, cm[i]? = some e → ws[i]? = some w → Leads g s w e.1
  par : ∀ (i : Nat) e w, cm[i]? = some e → ws[i]? = some w → (e.2.1 = none ∧ w = []) ∨ ∃ (j : Nat) (b : Int) (e' : Int × (Option Int × Str)) (w' : List Str), j < i ∧ e.2.1 = some b ∧ cm[j]? = some e' ∧ e'.1 = b ∧ ws[j]? = some w' ∧ w = w' ++ [e.2.2]
  srt : (ws.map val).Pairwise (· < ·)
  nd : (plsOf cm).Nodup
  zero : cm[0]? = some (s, (none, Str.ofString "")) ∧ ws[0]? = some []
/-- the links of those that were looked at are met, by no later paths -/
def Dn (g : Gr) (cm : Cm) (ws : List (List Str)) (k : Nat) : Prop := ∀ (i : Nat) e w, i < k → cm[i]? = some e → ws[i]? = some w → ∀ l ∈ linksOf (rowAt g e.1), ∃ (j : Nat) (e' : Int × (Option Int × Str)) (w' : List Str), cm[j]? = some e' ∧ e'.1 = l.2 ∧ ws[j]? = some w' ∧ val w' ≤ 3 * val w + rkS l.1 + 1
theorem pairw_app {l : List Nat} {x : Nat} (h : l.Pairwise (· < ·)) (b : ∀ y ∈ l, y < x) : (l ++ [x]).Pairwise (· < ·) := by
  rw [List.pairwise_append]
  exact ⟨h, by simp, fun a ha c hc => by rw [List.mem_singleton.mp hc]; exact b a ha⟩
theorem getA {α : Type} {l : List α} {x : α} {i : Nat} {y : α} (h : (l ++ [x])[i]? = some y) : l[i]? = some y ∨ (i = l.length ∧ y = x) := by
  rcases Nat.lt_trichotomy i l.length with c | c | c
  · rw [List.getElem?_append_left c] at h; exact .inl h
  · right
    rw [c, List.getElem?_append_right (Nat.le_refl _), Nat.sub_self] at h
    exact ⟨c, (Option.some.inj h).symm⟩
  · rw [List.getElem?_eq_none (by rw [List.length_append, List.length_singleton]; omega)] at h
    cases h
theorem pls_at {cm : Cm} {k : Int} (h : k ∈ plsOf cm) : ∃ (j : Nat) (e : Int × (Option Int × Str)), cm[j]? = some e ∧ e.1 = k := by
  obtain ⟨e, he, rfl⟩ := List.mem_map.mp h
  obtain ⟨j, hj⟩ := List.mem_iff_getElem?.mp he
  exact ⟨j, e, hj, rfl⟩
/-- a round: the links lk of n, the place number k -/
theorem Pw.round {g : Gr} {s n : Int} {k : Nat} {wn : List Str} {en : Int × (Option Int × Str)} (hn : en.1 = n) : ∀ (lk : List (Str × Int)) (cm : Cm) (ws : List (List Str)) (r : Nat), Pw g s cm ws → cm[k]? = some en → ws[k]? = some wn → (∀ e ∈ lk, e ∈ linksOf (rowAt g n)) →
    (lk.map fun e => rkS e.1).Pairwise (· < ·) → (∀ e ∈ lk, r ≤ rkS e.1) → r ≤ 3 → (∀ w ∈ ws, val w ≤ 3 * val wn + r) →
    ∃ ws', ws <+: ws' ∧ Pw g s (meets n cm lk) ws' ∧ (∀ w ∈ ws', val w ≤ 3 * val wn + 3) ∧ ∀ e ∈ lk, ∃ (j : Nat) (e' : Int × (Option Int × Str)) (w' : List Str), (meets n cm lk)[j]? = some e' ∧ e'.1 = e.2 ∧ ws'[j]? = some w' ∧ val w' ≤ 3 * val wn + rkS e.1 + 1
  | [], cm, ws, r, p, _, _, _, _, _, r3, b => ⟨ws, List.prefix_refl _, p, fun w hw => by have := b w hw; omega, by simp⟩
  | e :: lk, cm, ws, r, p, hk, hw, hl, asc, low, r3, b => by
    obtain ⟨asc1, asc2⟩ := List.pairwise_cons.mp (show (rkS e.1 :: lk.map fun e => rkS e.1).Pairwise (· < ·) from asc)
    have re := low e List.mem_cons_self
    have r2 := rkS_le e.1
    have low' : ∀ x ∈ lk, rkS e.1 + 1 ≤ rkS x.1 := fun x hx => asc1 _ (List.mem_map.mpr ⟨x, hx, rfl⟩)
    have step : ∃ ws1, ws <+: ws1 ∧ Pw g s (meetC cm e.2 (some n) e.1) ws1 ∧ (∀ w ∈ ws1, val w ≤ 3 * val wn + (rkS e.1 + 1)) ∧ ∃ (j : Nat) (e' : Int × (Option Int × Str)) (w' : List Str), (meetC cm e.2 (some n) e.1)[j]? = some e' ∧ e'.1 = e.2 ∧ ws1[j]? = some w' ∧ val w' ≤ 3 * val wn + rkS e.1 + 1 := by
      by_cases c : e.2 ∈ plsOf cm
      · have em : meetC cm e.2 (some n) e.1 = cm := by unfold meetC; rw [if_pos c]
        rw [em]
        refine ⟨ws, List.prefix_refl _, p, fun w h => by have := b w h; omega, ?_⟩
        obtain ⟨j, e', h1, h2⟩ := pls_at c
        have lj : j < ws.length := by rw [p.len]; exact (List.getElem?_eq_some_iff.mp h1).1
        have h3 := List.getElem?_eq_getElem lj
        refine ⟨j, e', _, h1, h2, h3, ?_⟩
        have := b _ (List.mem_of_getElem? h3)
        omega
      · have em : meetC cm e.2 (some n) e.1 = cm ++ [(e.2, (some n, e.1))] := by unfold meetC; rw [if_neg c]
        rw [em]
        have vl : val (wn ++ [e.1]) = 3 * val wn + rkS e.1 + 1 := val_snoc _ _
        refine ⟨ws ++ [wn ++ [e.1]], List.prefix_append _ _, ⟨?_, ?_, ?_, ?_, ?_, ?_⟩, fun w h => ?_, ?_⟩
        · rw [List.length_append, List.length_append, p.len]; rfl
        · intro i x w h1 h2
          rcases getA h1 with a1 | ⟨a1, a2⟩
          · rcases getA h2 with c1 | ⟨c1, c2⟩
            · exact p.lead i x w a1 c1
            · have := (List.getElem?_eq_some_iff.mp a1).1
              rw [c1, p.len] at this; omega
          · rcases getA h2 with c1 | ⟨c1, c2⟩
            · have := (List.getElem?_eq_some_iff.mp c1).1
              rw [a1, p.len] at this; omega
            · subst a2 c2
              have := p.lead k en wn hk hw
              rw [hn] at this
              exact .snoc this (hl e List.mem_cons_self)
        · intro i x w h1 h2
          have up : ∀ {j : Nat} {e' : Int × (Option Int × Str)} {w' : List Str}, cm[j]? = some e' → ws[j]? = some w' → (cm ++ [(e.2, (some n, e.1))])[j]? = some e' ∧ (ws ++ [wn ++ [e.1]])[j]? = some w' := fun a c => ⟨pre_get (List.prefix_append _ _) a, pre_get (List.prefix_append _ _) c⟩
          rcases getA h1 with a1 | ⟨a1, a2⟩
          · rcases getA h2 with c1 | ⟨c1, c2⟩
            · rcases p.par i x w a1 c1 with z | ⟨j, b', e', w', q1, q2, q3, q4, q5, q6⟩
              · exact .inl z
              · obtain ⟨u1, u2⟩ := up q3 q5
                exact .inr ⟨j, b', e', w', q1, q2, u1, q4, u2, q6⟩
            · have := (List.getElem?_eq_some_iff.mp a1).1
              rw [c1, p.len] at this; omega
          · rcases getA h2 with c1 | ⟨c1, c2⟩
            · have := (List.getElem?_eq_some_iff.mp c1).1
              rw [a1, p.len] at this; omega
            · subst a2 c2
              obtain ⟨u1, u2⟩ := up hk hw
              exact .inr ⟨k, n, en, wn, by rw [a1]; exact (List.getElem?_eq_some_iff.mp hk).1, rfl, u1, hn, u2, rfl⟩
        · rw [List.map_append]
          refine pairw_app p.srt fun y hy => ?_
          obtain ⟨w, h1, rfl⟩ := List.mem_map.mp hy
          have := b w h1
          rw [vl]; omega
        · rw [← em, pls_meet, if_neg c]
          refine List.nodup_append.mpr ⟨p.nd, by simp, fun a ha d hd => ?_⟩
          rw [List.mem_singleton.mp hd]
          rintro rfl
          exact c ha
        · exact ⟨pre_get (List.prefix_append _ _) p.zero.1, pre_get (List.prefix_append _ _) p.zero.2⟩
        · rcases List.mem_append.mp h with z | z
          · have := b w z; omega
          · rw [List.mem_singleton.mp z, vl]; omega
        · refine ⟨cm.length, _, wn ++ [e.1], by rw [List.getElem?_append_right (Nat.le_refl _), Nat.sub_self]; rfl, rfl, by rw [← p.len, List.getElem?_append_right (Nat.le_refl _), Nat.sub_self]; rfl, by rw [vl]; exact Nat.le_refl _⟩
    obtain ⟨ws1, pre1, p1, b1, j1, e1, w1, t1, t2, t3, t4⟩ := step
    obtain ⟨ws2, pre2, p2, b2, d2⟩ := Pw.round hn lk (meetC cm e.2 (some n) e.1) ws1 (rkS e.1 + 1) p1 (pre_get (meetC_pre _ _ _ _) hk) (pre_get pre1 hw) (fun x hx => hl x (List.mem_cons_of_mem _ hx)) asc2 low' (by omega) b1
    refine ⟨ws2, pre1.trans pre2, p2, b2, fun x hx => ?_⟩
    rcases List.mem_cons.mp hx with z | z
    · rw [z]
      exact ⟨j1, e1, w1, pre_get (meets_pre n lk _) t1, t2, pre_get pre2 t3, t4⟩
    · exact d2 x z

/-- a search from s whose first k places were looked at -/
structure Sr (g : Gr) (s : Int) (cm : Cm) (ws : List (List Str)) (k : Nat) : Prop where
  p : Pw g s cm ws
  dn : Dn g cm ws k
  bd : ∀ wk, ws[k]? = some wk → ∀ w ∈ ws, val w ≤ 3 * val wk
theorem rk_asc {l : List (Str × Int)} (h : (l.map (·.1)).Sublist fieldsG) : (l.map fun e => rkS e.1).Pairwise (· < ·) := by
  have e : (l.map fun e => rkS e.1) = (l.map (·.1)).map rkS := by rw [List.map_map]; rfl
  rw [e]
  exact List.Pairwise.sublist (h.map rkS) (by decide)
theorem Pw.mono {g : Gr} {s : Int} {cm : Cm} {ws : List (List Str)} (h : Pw g s cm ws) {i j : Nat} {a b : List Str} (ha : ws[i]? = some a) (hb : ws[j]? = some b) (l : i < j) : val a < val b := by
  obtain ⟨i1, rfl⟩ := List.getElem?_eq_some_iff.mp ha
  obtain ⟨j1, rfl⟩ := List.getElem?_eq_some_iff.mp hb
  have := List.pairwise_iff_getElem.mp h.srt i j (by rw [List.length_map]; exact i1) (by rw [List.length_map]; exact j1) l
  simpa using this
theorem Sr.next {g : Gr} {s : Int} (ok : GrOk g) (asc : AscG g) {cm : Cm} {ws : List (List Str)} {k : Nat} {e : Int × (Option Int × Str)} (h : Sr g s cm ws k) (he : cm[k]? = some e) (hin : inG g e.1) :
    ∃ ws', ws <+: ws' ∧ Sr g s (meets e.1 cm (linksOf (rowAt g e.1))) ws' (k + 1) := by
  have lk : k < ws.length := by rw [h.p.len]; exact (List.getElem?_eq_some_iff.mp he).1
  have hw := List.getElem?_eq_getElem lk
  obtain ⟨ws', pre, p, b, d⟩ := Pw.round (n := e.1) (k := k) (wn := ws[k]) (en := e) rfl (linksOf (rowAt g e.1)) cm ws 0 h.p he hw (fun x hx => hx) (rk_asc (asc _ hin)) (fun _ _ => Nat.zero_le _) (by omega) fun w hm => h.bd _ hw w hm
  have pm := meets_pre e.1 (linksOf (rowAt g e.1)) cm
  refine ⟨ws', pre, p, fun i x w hi hx hwi l hl => ?_, fun wk hk w hm => ?_⟩
  · by_cases c : i = k
    · subst c
      rw [pre_get pm he] at hx
      rw [pre_get pre hw] at hwi
      cases hx
      cases hwi
      exact d l hl
    · have li : i < cm.length := by have := (List.getElem?_eq_some_iff.mp he).1; omega
      have li2 : i < ws.length := by rw [h.p.len]; exact li
      have e1 := List.getElem?_eq_getElem li
      have e2 := List.getElem?_eq_getElem li2
      rw [pre_get pm e1] at hx
      rw [pre_get pre e2] at hwi
      cases hx
      cases hwi
      obtain ⟨j, e', w', q1, q2, q3, q4⟩ := h.dn i _ _ (by omega) e1 e2 l hl
      exact ⟨j, e', w', pre_get pm q1, q2, pre_get pre q3, q4⟩
  · have := p.mono (pre_get pre hw) hk (Nat.lt_succ_self k)
    have := b w hm
    omega
theorem Sr.start (g : Gr) (s : Int) : Sr g s [(s, (none, Str.ofString ""))] [[]] 0 := by
  refine ⟨⟨rfl, ?_, ?_, by simp, by simp [plsOf], rfl, rfl⟩, fun i _ _ hi => by omega, fun wk _ w hw => by rw [List.mem_singleton.mp hw]; simp [val]⟩
  · intro i e w h1 h2
    cases i with
    | zero =>
      simp at h1 h2
      subst h1 h2
      exact .nil
    | succ i => simp at h1
  · intro i e w h1 h2
    cases i with
    | zero =>
      simp at h1 h2
      subst h1 h2
      exact .inl ⟨rfl, rfl⟩
    | succ i => simp at h1
theorem Sr.walk {g : Gr} {s : Int} {cm : Cm} {ws : List (List Str)} {k : Nat} (h : Sr g s cm ws k) {w : List Str} {n : Int} (l : Leads g s w n) :
    (∃ (i : Nat) (e : Int × (Option Int × Str)) (w' : List Str), cm[i]? = some e ∧ e.1 = n ∧ ws[i]? = some w' ∧ val w' ≤ val w) ∨ ∃ (i : Nat) (w' : List Str), k ≤ i ∧ ws[i]? = some w' ∧ val w' ≤ val w := by
  induction l with
  | nil => exact .inl ⟨0, _, _, h.p.zero.1, rfl, h.p.zero.2, Nat.le_refl _⟩
  | @snoc w n l h0 hl ih =>
    have v := val_snoc l.1 w
    rcases ih with ⟨i, e, w', a1, a2, a3, a4⟩ | ⟨i, w', a1, a2, a3⟩
    · by_cases c : i < k
      · subst a2
        obtain ⟨j, e', w2, b1, b2, b3, b4⟩ := h.dn i e w' c a1 a3 l hl
        exact .inl ⟨j, e', w2, b1, b2, b3, by omega⟩
      · exact .inr ⟨i, w', by omega, a3, by omega⟩
    · exact .inr ⟨i, w', a1, a2, by omega⟩
theorem pls_idx {cm : Cm} (nd : (plsOf cm).Nodup) {i j : Nat} {a b : Int × (Option Int × Str)} (ha : cm[i]? = some a) (hb : cm[j]? = some b) (e : a.1 = b.1) : i = j := by
  have h1 : (plsOf cm)[i]? = some a.1 := by unfold plsOf; rw [List.getElem?_map, ha]; rfl
  have h2 : (plsOf cm)[j]? = some a.1 := by unfold plsOf; rw [List.getElem?_map, hb, e]; rfl
  obtain ⟨i1, e1⟩ := List.getElem?_eq_some_iff.mp h1
  obtain ⟨j1, e2⟩ := List.getElem?_eq_some_iff.mp h2
  exact (List.getElem_inj nd).mp (e1.trans e2.symm)
theorem Sr.min {g : Gr} {s t : Int} {cm : Cm} {ws : List (List Str)} {k : Nat} (h : Sr g s cm ws k) {e : Int × (Option Int × Str)} {w : List Str} (he : cm[k]? = some e) (et : e.1 = t) (hw : ws[k]? = some w) : SMin g s t (some w) := by
  refine ⟨et ▸ h.p.lead k e w he hw, fun w' l => ?_⟩
  rcases h.walk l with ⟨i, e', w2, a1, a2, a3, a4⟩ | ⟨i, w2, a1, a2, a3⟩
  · have := pls_idx h.p.nd a1 he (by rw [a2, et])
    subst this
    rw [hw] at a3
    cases a3
    exact a4
  · rcases Nat.lt_or_ge k i with c | c
    · have := h.p.mono hw a2 c; omega
    · have : i = k := by omega
      rw [this, hw] at a2
      cases a2
      exact a3
theorem Sr.no {g : Gr} {s t : Int} {cm : Cm} {ws : List (List Str)} (h : Sr g s cm ws cm.length) (n : t ∉ plsOf cm) : SMin g s t none := by
  intro w l
  rcases h.walk l with ⟨i, e', w2, a1, a2, a3, a4⟩ | ⟨i, w2, a1, a2, a3⟩
  · exact n (List.mem_map.mpr ⟨e', List.mem_of_getElem? a1, a2⟩)
  · have := (List.getElem?_eq_some_iff.mp a2).1
    rw [h.p.len] at this
    omega
theorem Pw.short {g : Gr} {s : Int} {cm : Cm} {ws : List (List Str)} (h : Pw g s cm ws) : ∀ (i : Nat) (w : List Str), ws[i]? = some w → w.length ≤ i := by
  intro i
  induction i using Nat.strongRecOn with
  | _ i ih =>
    intro w hw
    have li : i < cm.length := by rw [← h.len]; exact (List.getElem?_eq_some_iff.mp hw).1
    rcases h.par i _ w (List.getElem?_eq_getElem li) hw with ⟨_, rfl⟩ | ⟨j, b, e', w', q1, _, _, _, q5, q6⟩
    · exact Nat.zero_le _
    · have := ih j q1 w' q5
      rw [q6, List.length_append, List.length_singleton]
      omega
/-! ### the law's rounds -/
abbrev Bst := List (Option (List Str))
def bAt (b : Bst) (n : Int) : Option (List Str) := if 0 ≤ n then (b[n.toNat]?).getD none else none
/-- no path got later -/
def LeB (b c : Bst) : Prop := c.length = b.length ∧ ∀ n w, bAt b n = some w → ∃ w', bAt c n = some w' ∧ val w' ≤ val w
theorem LeB.refl (b : Bst) : LeB b b := ⟨rfl, fun _ w h => ⟨w, h, Nat.le_refl _⟩⟩
theorem LeB.trans {a b c : Bst} (h : LeB a b) (k : LeB b c) : LeB a c := ⟨k.1.trans h.1, fun n w hw => by
  obtain ⟨w1, h1, v1⟩ := h.2 n w hw
  obtain ⟨w2, h2, v2⟩ := k.2 n w1 h1
  exact ⟨w2, h2, by omega⟩⟩
def Sound (g : Gr) (s : Int) (b : Bst) : Prop := ∀ n w, bAt b n = some w → Leads g s w n
/-- all paths of at most T fields are matched -/
def Cov (g : Gr) (s : Int) (b : Bst) (T : Nat) : Prop := ∀ w n, Leads g s w n → w.length ≤ T → ∃ w', bAt b n = some w' ∧ val w' ≤ val w
/-- the links of n were tried, from what stood in b0 -/
def Tried (g : Gr) (b0 b : Bst) (n : Int) (lk : List (Str × Int)) : Prop := ∀ w0, bAt b0 n = some w0 → ∀ e ∈ lk, ∃ w', bAt b e.2 = some w' ∧ val w' ≤ 3 * val w0 + rkS e.1 + 1
theorem Tried.le {g : Gr} {b0 b c : Bst} {n : Int} {lk : List (Str × Int)} (h : Tried g b0 b n lk) (l : LeB b c) : Tried g b0 c n lk := fun w0 h0 e he => by
  obtain ⟨w1, h1, v1⟩ := h w0 h0 e he
  obtain ⟨w2, h2, v2⟩ := l.2 _ w1 h1
  exact ⟨w2, h2, by omega⟩
theorem Cov.next {g : Gr} {s : Int} (ok : GrOk g) (hs : inG g s) {b0 b : Bst} {T : Nat} (h : Cov g s b0 T) (l : LeB b0 b) (t : ∀ n, inG g n → Tried g b0 b n (linksOf (rowAt g n))) : Cov g s b (T + 1) := by
  intro w n ld lw
  cases ld with
  | nil =>
    obtain ⟨w1, h1, v1⟩ := h [] s .nil (Nat.zero_le _)
    obtain ⟨w2, h2, v2⟩ := l.2 _ w1 h1
    exact ⟨w2, h2, by omega⟩
  | @snoc w n e h0 he =>
    rw [List.length_append, List.length_singleton] at lw
    obtain ⟨w1, h1, v1⟩ := h w n h0 (by omega)
    obtain ⟨w2, h2, v2⟩ := t n (h0.inG ok hs) w1 h1 e he
    exact ⟨w2, h2, by rw [val_snoc]; omega⟩
/-- both ways tell the same -/
theorem smin_eq {g : Gr} {s t : Int} (ok : GrOk g) (hs : inG g s) (asc : AscG g) {b : Bst} {T : Nat} {o : Option (List Str)} (sd : Sound g s b) (cv : Cov g s b T) (m : SMin g s t o) (l : ∀ w, o = some w → w.length ≤ T) : bAt b t = o := by
  cases o with
  | none =>
    cases q : bAt b t with
    | none => rfl
    | some w => exact absurd (sd t w q) (m w)
  | some w =>
    obtain ⟨m1, m2⟩ := m
    obtain ⟨w', h1, h2⟩ := cv w t m1 (l w rfl)
    have s1 := sd t w' h1
    have := m2 w' s1
    rw [h1, val_inj (s1.fields ok hs asc) (m1.fields ok hs asc) (by omega)]
/-- a path that may take the place of the one for m -/
def better (b : Bst) (m : Int) (p : List Str) : Bool := match bAt b m with
  | none => true
  | some old => decide (val p < val old)
def setB (b : Bst) (m : Int) (p : List Str) : Bst := b.set m.toNat (some p)
theorem bAt_set {b : Bst} {m n : Int} {p : List Str} (hm : 0 ≤ m) (lm : m.toNat < b.length) : bAt (setB b m p) n = if n = m then some p else bAt b n := by
  unfold bAt setB
  by_cases c : n = m
  · rw [if_pos c, c, if_pos hm, List.getElem?_set_self lm]; rfl
  · rw [if_neg c]
    by_cases d : 0 ≤ n
    · rw [if_pos d, if_pos d, List.getElem?_set_ne (by omega)]
    · rw [if_neg d, if_neg d]
theorem setB_le {b : Bst} {m : Int} {p : List Str} (hm : 0 ≤ m) (lm : m.toNat < b.length) (h : better b m p = true) : LeB b (setB b m p) := by
  refine ⟨by unfold setB; rw [List.length_set], fun n w hw => ?_⟩
  rw [bAt_set hm lm]
  by_cases c : n = m
  · rw [if_pos c]
    subst c
    unfold better at h
    rw [hw] at h
    have := of_decide_eq_true h
    exact ⟨p, rfl, by omega⟩
  · rw [if_neg c]
    exact ⟨w, hw, Nat.le_refl _⟩
theorem setB_sound {g : Gr} {s : Int} {b : Bst} {m : Int} {p : List Str} (hm : 0 ≤ m) (lm : m.toNat < b.length) (h : Sound g s b) (hp : Leads g s p m) : Sound g s (setB b m p) := by
  intro n w hw
  rw [bAt_set hm lm] at hw
  by_cases c : n = m
  · rw [if_pos c] at hw
    cases hw
    rw [c]; exact hp
  · rw [if_neg c] at hw
    exact h n w hw
/-- what is not better is matched -/
theorem not_better {b : Bst} {m : Int} {p : List Str} (h : better b m p = false) : ∃ w', bAt b m = some w' ∧ val w' ≤ val p := by
  unfold better at h
  cases q : bAt b m with
  | none => rw [q] at h; cases h
  | some w =>
    rw [q] at h
    have := of_decide_eq_false h
    exact ⟨w, rfl, by omega⟩

section
variable {P : Program} {w : World} {K : PySem.W.Frag} {mg : Str → Option Value} {base : Heap} {C : Addr}
theorem lex_of {xs ys : List Str} (h : xs.length = ys.length) : PySem.W.dataLt (strsD xs) (strsD ys) = lexS xs ys := by
  unfold strsD
  rw [PySem.W.dataLt_list]
  induction xs generalizing ys with
  | nil =>
    cases ys with
    | nil =>
      exact PyProof.Rows.lex_irrefl _
    | cons y ys => simp at h
  | cons x xs ih =>
    cases ys with
    | nil => simp at h
    | cons y ys =>
      rw [List.map_cons, List.map_cons, PySem.W.dataLt_cons (by simp [PySem.W.alike]), ih (by simpa using h), PySem.W.dataLt_str]
      rw [lexS]
      by_cases c : x = y
      · rw [if_pos c, if_pos (by simp [PyData.eqv, c])]
      · rw [if_neg c, if_neg (by simp [PyData.eqv, c])]
/-! ### the row of fields -/
theorem find_cm {cm : Cm} (nd : (plsOf cm).Nodup) {i : Nat} {e : Int × (Option Int × Str)} (he : cm[i]? = some e) : findI (cm.map cmE) e.1 = some (.tup [ovD e.2.1, .txt e.2.2]) := by
  unfold findI
  rw [List.find?_map]
  have : cm.find? ((fun x => decide (x.1 = e.1)) ∘ cmE) = some e := by
    rw [List.find?_eq_some_iff_getElem]
    obtain ⟨hi, rfl⟩ := List.getElem?_eq_some_iff.mp he
    refine ⟨by simp [cmE], i, hi, rfl, fun j hj => ?_⟩
    have ne : cm[j].1 ≠ cm[i].1 := fun z => by
      have := pls_idx nd (List.getElem?_eq_getElem (by omega)) he z
      omega
    simp [cmE, ne]
  rw [this]; rfl
def spRowTo (K : PySem.W.Frag) (C : Addr) : Sp := fun vs H Q _ => ∃ (x dx pl cd : Addr) (cm : Cm) (n : Nat) (g : Gr) (s : Int) (ws : List (List Str)) (i : Nat) (e : Int × (Option Int × Str)) (w : List Str), vs = [.ref x, .int e.1] ∧ ScAt K C H x dx pl cd cm n ∧ Pw g s cm ws ∧ cm[i]? = some e ∧ ws[i]? = some w ∧ cm.length ≤ 100 ∧
  ∀ (p : Addr) (H1 : Hp), H p = none → H1 p = some (.lst (w.map V.str)) → Stp [] H H1 → Q (.ref p) H1
theorem mth_Search_row_to (F : Dfm K C d_Search_row_to) (S : SeC K C) : Mth P w K mg base lv_Search_row_to C "row_to" ["self", "place"] (spRowTo K C) := by
  obtain ⟨f, fd, F, g⟩ := F
  refine ⟨f, fd, F.ok sc_Search_row_to (fun vs H Q E h => ?_) (fun cdv A outer s H vs Q E hr h => ⟨_, PSs.nox
    (pss_cons (ps_set (i := 2) sc_Search_row_to.nd rfl (Or.inl rfl) (pe_lst pa_nil))
    (pss_cons (ps_asg (pe_dget (hu1 hr) (pe_fld (pv 0) rfl) (pv 1) (fun _ _ => rfl)) (pg_tup (by rfl) (pgs_cons (pg_name (i := 3) sc_Search_row_to.nd rfl (Or.inl rfl)) (pgs_cons (pg_name (i := 4) sc_Search_row_to.nd rfl (Or.inl rfl)) pgs_nil))))
    (pss_cons (ps_while PassesOwn.never (pt_cmpR op_notN (pv 3) pe_non (nomark _))
      (pss_cons (ps_expr (pe_bm PySem.F.plainAttrs_list PySem.F.slot_list_append PySem.F.type_list_append mt_append (pv 2) (pa_cons (pv 4) pa_nil)))
        (pss_one (ps_asg (pe_dget (hu1 hr) (pe_fld (pv 0) rfl) (pv 3) (fun _ _ => rfl)) (pg_tup (by rfl) (pgs_cons (pg_name (i := 3) sc_Search_row_to.nd rfl (Or.inl rfl)) (pgs_cons (pg_name (i := 4) sc_Search_row_to.nd rfl (Or.inl rfl)) pgs_nil)))))))
    (pss_cons (ps_expr (pe_bm0 PySem.F.plainAttrs_list PySem.F.slot_list_reverse PySem.F.type_list_reverse mt_reverse (pv 2)))
    (pss_one (ps_ret (pv 2))))))), ?_⟩), g, F.kp, F.bindsN fun _ _ _ _ _ _ us hl => match us, hl with | [_, _], _ => rfl⟩
  · obtain ⟨x, dx, pl, cd, cm, n, g, s, ws, i, e, w, rfl, _⟩ := h
    rfl
  · obtain ⟨x, dx, pl, cd, cm, n, g, s, ws, i, e, w, rfl, sc, pw, he, hw, ln, q⟩ := h
    repeat walk_at "h"
    refine ⟨Nat.zero_le _, fun p np => ?_⟩
    have s1 : Stp [] H (upd H p (.lst [])) := .new np
    have p1 : (upd H p (.lst [])) p = some (.lst []) := upd_same
    generalize upd H p (.lst []) = H1 at s1 p1 ⊢
    have sc1 := sc.grow s1
    have came : ∀ {H' : Hp} (e' : Int × (Option Int × Str)) (i' : Nat), cm[i']? = some e' → Stp [] H H' → ∃ v t, DGet H' cd (.int e'.1) (some v) ∧ v = .ref t ∧ TupAt K H' t [ovI e'.2.1, .str e'.2.2] := by
      intro H' e' i' h' s'
      obtain ⟨v, h1, h2⟩ := (sc.grow s').cd_.get (find_cm sc.nd h')
      cases h2 with
      | @tup a xs _ b1 b2 =>
        cases b2 with
        | cons c1 b2 =>
          cases b2 with
          | cons c2 b2 =>
            cases b2
            obtain rfl := at_ov c1
            obtain rfl := txtAt c2
            exact ⟨_, a, h1, rfl, b1⟩
    repeat walk_at "h"
    refine i_DGet ?_
    repeat walk_at "h"
    refine ⟨x, C, dx, _, .ref cd, rfl, sc1.at_, S.cls, S.cm, rfl, ?_⟩
    repeat walk_at "h"
    obtain ⟨_, t, hg, rfl, ht⟩ := came e i he s1
    refine ⟨cd, _, rfl, hg, ?_⟩
    refine i_gTup ht.sqt rfl ?_
    repeat walk_at "h"
    refine ⟨fun m σ H' => ∃ (i' : Nat) (e' : Int × (Option Int × Str)) (w' row : List Str), σ = [some (.ref x), some (.int e.1), some (.ref p), some (ovI e'.2.1), some (.str e'.2.2)] ∧ Stp [] H H' ∧ H' p = some (.lst (row.map V.str)) ∧ cm[i']? = some e' ∧ ws[i']? = some w' ∧ w = w' ++ row.reverse ∧ m = i' ∧ i' + row.length ≤ i, ⟨i, i, e, w, [], rfl, s1, p1, he, hw, by simp, rfl, by simp⟩, ?_⟩
    rintro m σ H2 ⟨i', e', w', row, rfl, s2, p2, he', hw', ew, rfl, li⟩
    have li' : i < cm.length := (List.getElem?_eq_some_iff.mp he).1
    repeat walk_at "h"
    refine ⟨rfl, ?_⟩
    rcases pw.par _ e' w' he' hw' with ⟨z1, z2⟩ | ⟨j, b, e2, w2, q1, q2, q3, q4, q5, q6⟩
    · rw [z1, decide_eq_true (show ovI none = V.non from rfl)]
      refine ⟨_, rfl, iteF ?_⟩
      repeat walk_at "h"
      refine ⟨.inl ⟨rfl, _, SqL.of p2⟩, ?_⟩
      refine ⟨p, _, rfl, rfl, p2, ?_⟩
      repeat walk_at "h"
      refine q p _ np ?_ (s2.mut np)
      rw [upd_same, ew, z2, List.nil_append, ← List.map_reverse]
    · rw [q2, decide_eq_false (show ¬ ovI (some b) = V.non from fun z => nomatch z)]
      refine ⟨_, rfl, iteT ?_⟩
      refine ⟨fun σ H' => ∃ m', m' < m ∧ ∃ (i' : Nat) (e' : Int × (Option Int × Str)) (w' row : List Str), σ = [some (.ref x), some (.int e.1), some (.ref p), some (ovI e'.2.1), some (.str e'.2.2)] ∧ Stp [] H H' ∧ H' p = some (.lst (row.map V.str)) ∧ cm[i']? = some e' ∧ ws[i']? = some w' ∧ w = w' ++ row.reverse ∧ m' = i' ∧ i' + row.length ≤ i, fun σ H' h => h, ?_⟩
      repeat walk_at "h"
      refine ⟨.inl ⟨rfl, _, SqL.of p2⟩, ?_⟩
      repeat walk_at "h"
      refine ⟨p, _, .str e'.2.2, rfl, rfl, p2, by rw [List.length_map]; exact Nat.lt_of_le_of_lt (show row.length ≤ 200 by omega) (by decide), ?_⟩
      have s3 : Stp [] H (upd H2 p (.lst (row.map V.str ++ [.str e'.2.2]))) := s2.mut np
      have p3 : (upd H2 p (.lst (row.map V.str ++ [.str e'.2.2]))) p = some (.lst ((row ++ [e'.2.2]).map V.str)) := by rw [upd_same, List.map_append]; rfl
      generalize upd H2 p (.lst (row.map V.str ++ [.str e'.2.2])) = H3 at s3 p3 ⊢
      repeat walk_at "h"
      refine i_DGet ?_
      repeat walk_at "h"
      refine ⟨x, C, dx, _, .ref cd, rfl, (sc.grow s3).at_, S.cls, S.cm, rfl, ?_⟩
      repeat walk_at "h"
      obtain ⟨_, t2, hg2, rfl, ht2⟩ := came e2 j q3 s3
      rw [q4] at hg2
      refine ⟨cd, _, rfl, hg2, ?_⟩
      refine i_gTup ht2.sqt rfl ?_
      repeat walk_at "h"
      refine ⟨j, q1, j, e2, w2, row ++ [e'.2.2], rfl, s3, p3, q3, q5, ?_, rfl, by rw [List.length_append, List.length_singleton]; omega⟩
      rw [ew, q6, List.reverse_append, List.append_assoc]; rfl
end

section
variable {P : Program} {w : World} {K : PySem.W.Frag} {mg : Str → Option Value} {base : Heap} {C : Addr}
/-! ### the shortest path -/
def OptP (H : Hp) (u : V) : Option (List Str) → Prop
  | none => u = .non
  | some w => ∃ l, u = .ref l ∧ H l = some (.lst (w.map V.str))
theorem pls_get {cm : Cm} {k : Nat} {p : Int} (h : (plsOf cm)[k]? = some p) : ∃ e, cm[k]? = some e ∧ e.1 = p := by
  unfold plsOf at h
  rw [List.getElem?_map] at h
  obtain ⟨e, he, rfl⟩ := Option.map_eq_some_iff.mp h
  exact ⟨e, he, rfl⟩
theorem Pw.inn {g : Gr} {s : Int} (ok : GrOk g) (hs : inG g s) {cm : Cm} {ws : List (List Str)} (h : Pw g s cm ws) : ∀ p ∈ plsOf cm, inG g p := by
  intro p hp
  obtain ⟨j, e, he, rfl⟩ := pls_at hp
  have l : j < ws.length := by rw [h.len]; exact (List.getElem?_eq_some_iff.mp he).1
  exact (h.lead j e _ he (List.getElem?_eq_getElem l)).inG ok hs
theorem num_beq (a b : Int) : Dt.beq (.num a) (.num b) = decide (a = b) := by
  by_cases c : a = b
  · rw [c, Dt.beq_self]; simp
  · rw [decide_eq_false c]
    cases q : Dt.beq (.num a) (.num b) with
    | false => rfl
    | true => exact absurd (by have := Dt.eq_of_beq _ _ rfl rfl q; injection this) c
def spPathTo (K : PySem.W.Frag) : Sp := fun vs H Q _ => ∃ (v : V) (g : Gr) (s t : Int), vs = [v, .int s, .int t] ∧ DtAt K H v (grDt g) ∧ GrOk g ∧ AscG g ∧ inG g s ∧
  ∀ (u : V) (o : Option (List Str)) (H1 : Hp), SMin g s t o → (∀ w, o = some w → w.length ≤ g.2.length) → OptP H1 u o → Stp [] H H1 → Q u H1
theorem cal_path_to (F : Df K mg d_path_to) (B : Blt mg) (S : SeC K C) (CL_Search : Cls K C) (C_links_of : Cal P w K mg base lv_links_of "links_of" ["graph", "number"] (spLinks K)) (I_Search : Mki P w K mg base lv_Search_init C "Search" ["self", "starts"] (spSInit K C)) (M_Search_meet : Mth P w K mg base lv_Search_meet C "meet" ["self", "place", "before", "field"] (spSMeet K C)) (M_Search_next_place : Mth P w K mg base lv_Search_next_place C "next_place" ["self"] (spSNext K C)) (M_Search_row_to : Mth P w K mg base lv_Search_row_to C "row_to" ["self", "place"] (spRowTo K C)) : Cal P w K mg base lv_path_to "path_to" ["graph", "start", "goal"] (spPathTo K) := by
  obtain ⟨f, fd, F, g⟩ := F
  refine ⟨f, fd, F.ok sc_path_to (fun vs H Q E h => ?_) (fun cdv A outer s H vs Q E hr h => ⟨_, PSs.nox
    (pss_cons (ps_set (i := 3) sc_path_to.nd rfl (Or.inl rfl) (pc_make I_Search (hr.mono (by decide)) (by rfl) (pa_cons (pe_lst (pa_cons (pv 1) pa_nil)) pa_nil)))
    (pss_cons (ps_set (i := 4) sc_path_to.nd rfl (Or.inl rfl) (pc_meth0 (pv 3) CL_Search M_Search_next_place (hr.mono (by decide))))
    (pss_cons (ps_while PassesOwn.never (PW.pt (pw_and (pt_cmpR op_notN (pv 4) pe_non (nomark _)) (pw_and1 (pt_cmpR (op_neTK (K := K) rfl hr.units) (pv 4) (pv 2) (nomark _)))))
      (pss_cons (ps_for PassesOwn.never rfl (pi_list (pc_call C_links_of (hr.mono (by decide)) (by rfl) (pa_cons (pv 0) (pa_cons (pv 4) pa_nil)))) (pg_tup (by rfl) (pgs_cons (pg_name (i := 5) sc_path_to.nd rfl (Or.inl rfl)) (pgs_cons (pg_name (i := 6) sc_path_to.nd rfl (Or.inl rfl)) pgs_nil)))
          (pss_one (ps_expr (pc_meth (pv 3) CL_Search M_Search_meet (hr.mono (by decide)) (pa_cons (pv 6) (pa_cons (pv 4) (pa_cons (pv 5) pa_nil)))))))
        (pss_one (ps_set (i := 4) sc_path_to.nd rfl (Or.inl rfl) (pc_meth0 (pv 3) CL_Search M_Search_next_place (hr.mono (by decide)))))))
    (pss_cons (ps_if (pt_cmpR op_isN (pv 4) pe_non (nomark _))
      (pss_one (ps_ret pe_non))
      pss_nil)
    (pss_one (ps_ret (pc_meth (pv 3) CL_Search M_Search_row_to (hr.mono (by decide)) (pa_cons (pv 4) pa_nil)))))))), ?_⟩), g, F.kp, F.bindsN fun _ _ _ _ _ _ us hl => match us, hl with | [_, _, _], _ => rfl⟩
  · obtain ⟨v, g, s, t, rfl, _⟩ := h
    rfl
  · obtain ⟨v, g, s, t, rfl, dg, ok, asc, hs, q⟩ := h
    repeat walk_at "h"
    refine ⟨(by decide : 1 ≤ sizeLine), fun fl nfl => ?_⟩
    have s1 : Stp [] H (upd H fl (.lst [.int s])) := .new nfl
    have hf : (upd H fl (.lst [.int s])) fl = some (.lst ([s].map V.int)) := upd_same
    generalize upd H fl (.lst [.int s]) = H1 at s1 hf ⊢
    repeat walk_at "h"
    intro x dx nx ndx xdx
    have s4 : Stp [] H1 (upd (upd H1 dx (.own x)) x (.ins C dx [])) := (Stp.new ndx).add (by rw [upd_ne xdx.symm]; exact nx)
    have fx : fl ≠ x := ne_of_none hf nx
    refine ⟨x, dx, fl, [s], rfl, upd_same, SqL.of (s4.keep _ _ hf (by simp)), fx, by simp, fun pl cd H5 npl ncd sc5 s5 => ⟨rfl, ?_⟩⟩
    have s45 := s1.trans (s4.into nx s5)
    have npl0 : H pl = none := s1.free (s4.free npl (by simp)) (by simp)
    have ncd0 : H cd = none := s1.free (s4.free ncd (by simp)) (by simp)
    have nx0 : H x = none := s1.free nx (by simp)
    clear s4 s5 s1 npl ncd nx ndx hf fx
    have e5 : [s].foldl (fun cm p => meetC cm p none (Str.ofString "")) [] = [(s, (none, Str.ofString ""))] := by simp [meetC, plsOf]
    rw [e5] at sc5
    have b5 := Sr.start g s
    repeat walk_at "h"
    refine ⟨x, dx, _, rfl, sc5.at_, rfl, ?_⟩
    repeat walk_at "h"
    refine next_i sc5 (Nat.zero_le _) fun num k' H6 s6 sc6 t6 => ?_
    have s06 := s45.into nx0 s6
    repeat walk_at "h"
    refine ⟨fun m σ H' => ∃ (num : V) (y5 y6 : Option V) (cm : Cm) (ws : List (List Str)) (k k' : Nat), σ = [some v, some (.int s), some (.int t), some (.ref x), some num, y5, y6] ∧ Stp [] H H' ∧ ScAt K C H' x dx pl cd cm k' ∧ Sr g s cm ws k ∧ Told cm k num k' ∧ k ≤ cm.length ∧ (∀ (i : Nat) e, i < k → cm[i]? = some e → e.1 ≠ t) ∧ m = 13 - k + (if num = .non then 0 else 1), ⟨_, num, _, _, _, _, 0, k', rfl, s06, sc6, b5, t6, Nat.zero_le _, fun i e hi => by omega, rfl⟩, ?_⟩
    clear b5 s45 s6 s06 sc5 sc6 t6 e5
    rintro m σ H7 ⟨num, y5, y6, cm, ws, k, k1, rfl, s7, sc7, b7, t7, l7, ne7, em⟩
    have inn := b7.p.inn ok hs
    have pl12 := in_len b7.p.nd inn
    rw [pls_len] at pl12
    repeat walk_at "h"
    refine ⟨rfl, ?_⟩
    rcases t7 with ⟨rfl, rfl, rfl⟩ | ⟨p, rfl, hp, rfl⟩
    · rw [decide_eq_true rfl]
      refine ⟨_, rfl, iteF ?_⟩
      refine iteF ?_
      repeat walk_at "h"
      refine ⟨rfl, ?_⟩
      rw [decide_eq_true rfl]
      refine ⟨_, rfl, iteT ?_⟩
      repeat walk_at "h"
      refine q .non none H7 (b7.no fun z => ?_) (fun w z => nomatch z) rfl s7
      obtain ⟨i, e, he, et⟩ := pls_at z
      exact ne7 i e (List.getElem?_eq_some_iff.mp he).1 he et
    · rw [decide_eq_false (show ¬ V.int p = V.non from fun z => nomatch z)]
      obtain ⟨e, he, rfl⟩ := pls_get hp
      have lt := (List.getElem?_eq_some_iff.mp he).1
      have lw : k < ws.length := by rw [b7.p.len]; exact lt
      have hw := List.getElem?_eq_getElem lw
      have pin := inn e.1 (List.mem_of_getElem? hp)
      refine ⟨_, rfl, iteT ?_⟩
      repeat walk_at "h"
      refine i_NeT (.num _) (.num _) ?_
      rw [num_beq]
      refine ⟨_, rfl, ?_⟩
      by_cases c : e.1 = t
      · rw [decide_eq_true c]
        refine iteF ?_
        repeat walk_at "h"
        refine ⟨rfl, ?_⟩
        rw [decide_eq_false (show ¬ V.int e.1 = V.non from fun z => nomatch z)]
        refine ⟨_, rfl, iteF ?_⟩
        repeat walk_at "h"
        refine ⟨x, dx, _, rfl, sc7.at_, rfl, ?_⟩
        repeat walk_at "h"
        refine ⟨x, dx, pl, cd, cm, k + 1, g, s, ws, k, e, _, rfl, sc7, b7.p, he, hw, by have := ok.1; omega, fun rp H8 nrp hrp s8 => ?_⟩
        exact q (.ref rp) (some ws[k]) H8 (b7.min he c hw) (fun w z => by
          cases z
          have := b7.p.short k _ hw
          omega) ⟨rp, rfl, hrp⟩ (s7.trans s8)
      · rw [decide_eq_false c]
        refine iteT ?_
        refine ⟨fun σ H' => ∃ m', m' < m ∧ ∃ (num : V) (y5 y6 : Option V) (cm : Cm) (ws : List (List Str)) (k k' : Nat), σ = [some v, some (.int s), some (.int t), some (.ref x), some num, y5, y6] ∧ Stp [] H H' ∧ ScAt K C H' x dx pl cd cm k' ∧ Sr g s cm ws k ∧ Told cm k num k' ∧ k ≤ cm.length ∧ (∀ (i : Nat) e, i < k → cm[i]? = some e → e.1 ≠ t) ∧ m' = 13 - k + (if num = .non then 0 else 1), fun σ H' h => h, ?_⟩
        repeat walk_at "h"
        refine ⟨v, g, e.1, rfl, dt_grow s7 _ _ dg, ok, pin, fun lp ws' H8 nlp hlp dlp s8 => ?_⟩
        have s78 := s7.trans s8
        have sc8 := sc7.grow s8
        have lpn : lp ∉ [pl, cd] := by
          have e1 := ne_of_none sc7.pl_ nlp
          obtain ⟨_, e2, _⟩ := sc7.cd_
          have e3 := ne_of_none e2 nlp
          simp only [List.mem_cons, List.not_mem_nil, or_false, not_or]
          exact ⟨e1.symm, e3.symm⟩
        obtain ⟨ws2, pre2, b8⟩ := b7.next ok asc he pin
        have lk4 : (linksOf (rowAt g e.1)).length ≤ 4 := Nat.le_trans (links_len _) (ok.2.1 _ (rowAt_mem pin))
        have ne8 : ∀ (i : Nat) x, i < k + 1 → (meets e.1 cm (linksOf (rowAt g e.1)))[i]? = some x → x.1 ≠ t := by
          intro i x hi hx
          have pm := meets_pre e.1 (linksOf (rowAt g e.1)) cm
          have li : i < cm.length := by omega
          have e1 := List.getElem?_eq_getElem li
          rw [pre_get pm e1] at hx
          cases hx
          by_cases d : i = k
          · subst d
            rw [e1] at he
            cases he
            exact c
          · exact ne7 i _ (by omega) e1
        have bl2 := in_len b8.p.nd (b8.p.inn ok hs)
        rw [pls_len] at bl2
        generalize linksOf (rowAt g e.1) = lk at dlp lk4 b8 ne8 bl2
        have wl : ws'.length = lk.length := by have := dlp.length; rwa [List.length_map] at this
        refine ⟨lp, rfl, ⟨_, SqL.of hlp⟩, ?_⟩
        refine for_list (xs := ws') (fun j σ H' => ∃ (y5 y6 : Option V), σ = [some v, some (.int s), some (.int t), some (.ref x), some (.int e.1), y5, y6] ∧ Stp [] H H' ∧ Stp [pl, cd] H8 H' ∧ ScAt K C H' x dx pl cd (meets e.1 cm (lk.take j)) (k + 1) ∧ (meets e.1 cm (lk.take j)).length ≤ 12 + j)
          ⟨_, _, rfl, s78, .refl _, sc8, by show cm.length ≤ _; have := ok.1; omega⟩ (fun j σ H' _ ⟨_, _, _, _, s, _⟩ => SqL.of (s.keep _ _ hlp lpn)) ?_ ?_
        · rintro j v5 σ H9 hv ⟨y5, y6, rfl, s9, s89, sc9, l9⟩
          obtain ⟨l, hl, dl⟩ := mp_get (DtsAt.stp s89 _ _ (lks_flat _) dlp) hv
          obtain ⟨ea, rfl, ht⟩ := lkAt dl
          have hj := (List.getElem?_eq_some_iff.mp hl).1
          have tk2 : lk.take (j + 1) = lk.take j ++ [l] := by rw [List.take_add_one, hl]; rfl
          have em : meets e.1 cm (lk.take (j + 1)) = meetC (meets e.1 cm (lk.take j)) l.2 (some e.1) l.1 := by rw [tk2]; unfold meets; rw [List.foldl_append]; rfl
          rw [em]
          generalize meets e.1 cm (lk.take j) = cm2 at sc9 l9 ⊢
          refine i_gTup ht.sqt rfl ?_
          repeat walk_at "h"
          refine ⟨x, dx, _, rfl, sc9.at_, rfl, ?_⟩
          repeat walk_at "h"
          refine ⟨x, dx, pl, cd, cm2, k + 1, l.2, some e.1, l.1, rfl, sc9, by omega, fun H10 sc10 s10 => ?_⟩
          repeat walk_at "h"
          refine ⟨_, _, rfl, s9.intoL (fun c hc => ?_) s10, s89.trans s10, sc10, by have := meetC_len cm2 l.2 (some e.1) l.1; omega⟩
          rcases List.mem_cons.mp hc with z | z
          · rw [z]; exact npl0
          · rw [List.mem_singleton.mp z]; exact ncd0
        · rintro σ H9 ⟨y5, y6, rfl, s9, s89, sc9, l9⟩
          rw [wl, List.take_length] at sc9
          have ml := (meets_pre e.1 lk cm).length_le
          repeat walk_at "h"
          refine ⟨x, dx, _, rfl, sc9.at_, rfl, ?_⟩
          repeat walk_at "h"
          refine next_i sc9 (by omega) fun num k' H10 s10 sc10 t10 => ?_
          repeat walk_at "h"
          refine ⟨13 - (k + 1) + (if num = .non then 0 else 1), ?_, num, _, _, meets e.1 cm lk, ws2, k + 1, k', rfl, s9.into nx0 s10, sc10, b8, t10, by omega, ne8, rfl⟩
          rw [em, if_neg (show ¬ V.int e.1 = V.non from fun z => nomatch z)]
          have := ok.1
          split <;> omega
end

/-! ### the law -/
section
variable {P : Program} {w : World} {K : PySem.W.Frag} {mg : Str → Option Value} {base : Heap} {C T : Addr}
theorem any_pos {most : Int} {g : Gr} (h : AnyG most g) (m : most ≤ 12) : 0 < g.2.length := by
  obtain ⟨rs, rts, rfl, rok, rm, rin, r0, r3⟩ := h
  have tok := rows_ok rok (by omega)
  have fd_ := Fd.nth tok rin rs.length
  show 0 < ((foundG rs rts).map _).length
  rw [List.length_map]
  cases rts with
  | nil => simp at r0
  | cons n l => exact List.length_pos_of_mem (fd_.has n List.mem_cons_self)
theorem links_names (r : List Gf) : ((linksOf r).map (·.1)).Sublist (r.map (·.1)) := by
  induction r with
  | nil => exact .slnil
  | cons e r ih =>
    cases h : gvRef e.2 with
    | none =>
      have : linksOf (e :: r) = linksOf r := by unfold linksOf; rw [List.filterMap_cons, h]; rfl
      rw [this, List.map_cons]
      exact .cons _ ih
    | some k =>
      have : linksOf (e :: r) = (e.1, k) :: linksOf r := by unfold linksOf; rw [List.filterMap_cons, h]; rfl
      rw [this, List.map_cons, List.map_cons]
      exact .cons₂ _ ih
theorem any_asc {most : Int} {g : Gr} (h : AnyG most g) (m : most ≤ 12) : AscG g := by
  obtain ⟨rs, rts, rfl, rok, rm, rin, r0, r3⟩ := h
  have tok := rows_ok rok (by omega)
  have fd_ := Fd.nth tok rin rs.length
  intro n hn
  have hm := rowAt_mem hn
  have e : (reG rs rts).2 = (foundG rs rts).map fun n => reRow (foundG rs rts) (rowAt ([], rs) n) := rfl
  rw [e] at hm
  obtain ⟨k, hk, ek⟩ := List.mem_map.mp hm
  rw [← ek, reLinks, List.map_map]
  have kin := fd_.inn k hk
  exact (links_names _).trans (rok _ (rowAt_mem kin)).1
theorem leads_nil {g : Gr} {s n : Int} (h : Leads g s [] n) : n = s := by
  have : ∀ (w : List Str) (n : Int), Leads g s w n → w = [] → n = s := by
    intro w n l
    induction l with
    | nil => exact fun _ => rfl
    | snoc _ _ _ => exact fun z => absurd z (by simp)
  exact this _ _ h rfl
/-! ### best, in the heap -/
def OptV (D : Addr) (H : Hp) (u : V) : Option (List Str) → Prop
  | none => u = .non
  | some w => ∃ l, u = .ref l ∧ l ≠ D ∧ H l = some (.lst (w.map V.str))
def BestAt (D : Addr) (H : Hp) (b : Bst) : Prop := ∃ bs, H D = some (.lst bs) ∧ Paired (OptV D H) bs b
theorem optV_stp {D : Addr} {M : List Addr} {H H1 : Hp} {bs : List V} {b : Bst} (h : Paired (OptV D H) bs b) (s : Stp M H H1) (n : ∀ c ∈ M, c = D) : Paired (OptV D H1) bs b := by
  induction h with
  | nil => exact .nil
  | @cons u o _ _ x _ ih =>
    refine .cons ?_ ih
    cases o with
    | none => exact x
    | some w =>
      obtain ⟨l, e, m, hl⟩ := x
      exact ⟨l, e, m, s.keep _ _ hl fun z => m (n l z)⟩
theorem BestAt.grow {D : Addr} {H H1 : Hp} {b : Bst} (h : BestAt D H b) (s : Stp [] H H1) : BestAt D H1 b := let ⟨bs, e, p⟩ := h; ⟨bs, s.keep _ _ e (by simp), optV_stp p s (by simp)⟩
theorem bAt_get {b : Bst} {n : Int} (h0 : 0 ≤ n) (h1 : n < (b.length : Nat)) : b[n.toNat]? = some (bAt b n) := by
  have l : n.toNat < b.length := by omega
  unfold bAt
  rw [if_pos h0, List.getElem?_eq_getElem l]; rfl
theorem BestAt.get {D : Addr} {H : Hp} {b : Bst} (h : BestAt D H b) {n : Int} (h0 : 0 ≤ n) (h1 : n < (b.length : Nat)) : ∃ bs u, H D = some (.lst bs) ∧ atI bs n = some u ∧ OptV D H u (bAt b n) := by
  obtain ⟨bs, e, p⟩ := h
  have l := Paired.length p
  have ln : n.toNat < bs.length := by omega
  have e1 := List.getElem?_eq_getElem ln
  obtain ⟨o, e2, r⟩ := paired_get p e1
  rw [bAt_get h0 h1] at e2
  cases e2
  exact ⟨bs, _, e, at_of (j := n.toNat) (by omega) e1, r⟩
theorem ixN_in {n : Nat} {k : Int} (h0 : 0 ≤ k) (h1 : k < (n : Nat)) : ixN n k = some k.toNat := by
  unfold ixN
  rw [if_pos h0, if_pos h1]
theorem i_gSub {σ : L2.St} {H : Hp} {v : V} {to ti : TE} {t : TSet} {Q : L2.St → Hp → Prop} (q : to σ H fun o H1 => ti σ H1 fun i H2 => t o i v H2 fun H3 => Q σ H3) : gSub to ti t v σ H Q := q
/-- best[n] = a new list -/
theorem BestAt.put {D l : Addr} {H : Hp} {b : Bst} {bs : List V} {n : Int} {w : List Str} (h : BestAt D H b) (hb : H D = some (.lst bs)) (nl : l ≠ D) (hl : H l = some (.lst (w.map V.str))) : BestAt D (upd H D (.lst (bs.set n.toNat (.ref l)))) (setB b n w) ∧ Stp [D] H (upd H D (.lst (bs.set n.toNat (.ref l)))) := by
  have s : Stp [D] H (upd H D (.lst (bs.set n.toNat (.ref l)))) := .wr (by simp) hb fun _ z => nomatch z
  obtain ⟨bs', e, p⟩ := h
  rw [hb] at e
  cases e
  refine ⟨⟨_, upd_same, ?_⟩, s⟩
  have p2 := optV_stp p s (by simp)
  have r : OptV D (upd H D (.lst (bs.set n.toNat (.ref l)))) (.ref l) (some w) := ⟨l, rfl, nl, s.keep _ _ hl (by simpa using nl)⟩
  generalize upd H D (.lst (bs.set n.toNat (.ref l))) = H4 at p2 r
  unfold setB
  generalize n.toNat = j
  clear p hb s hl
  induction p2 generalizing j with
  | nil => simp; exact .nil
  | cons x t ih =>
    cases j with
    | zero => exact .cons r t
    | succ j => exact .cons x (ih j)
def opD : Option (List Str) → Dt
  | none => .non
  | some w => .lst (w.map Dt.txt)
theorem strs_at {H : Hp} : ∀ w : List Str, DtsAt K H (w.map V.str) (w.map Dt.txt)
  | [] => .nil
  | x :: w => .cons (.txt x) (strs_at w)
theorem optV_dt {D : Addr} {H : Hp} {u : V} {o : Option (List Str)} (h : OptV D H u o) : DtAt K H u (opD o) := by
  cases o with
  | none => rw [show u = .non from h]; exact .non
  | some w =>
    obtain ⟨l, rfl, _, hl⟩ := h
    exact .lst (SqL.of hl) (strs_at w)
theorem optP_dt {H : Hp} {u : V} {o : Option (List Str)} (h : OptP H u o) : DtAt K H u (opD o) := by
  cases o with
  | none => rw [show u = .non from h]; exact .non
  | some w =>
    obtain ⟨l, rfl, hl⟩ := h
    exact .lst (SqL.of hl) (strs_at w)
theorem opD_dep (o : Option (List Str)) : (opD o).depth ≤ 60 := by
  cases o with
  | none => simp [opD, Dt.depth]
  | some w =>
    have : Dt.depthAll (w.map Dt.txt) ≤ 30 := by
      induction w with
      | nil => simp [Dt.depthAll]
      | cons x w ih => simp only [List.map_cons, Dt.depthAll, Dt.depth]; omega
    simp only [opD, Dt.depth]; omega
def Bound (b : Bst) (c : Nat) : Prop := ∀ n w, bAt b n = some w → w.length ≤ c
theorem Bound.mono {b : Bst} {c d : Nat} (h : Bound b c) (l : c ≤ d) : Bound b d := fun n w hw => Nat.le_trans (h n w hw) l
def spLaw (K : PySem.W.Frag) : Sp := fun vs H Q _ => ∃ (a : Addr) (ns : List Int), vs = [.ref a] ∧ SqL K H a (ns.map V.int) ∧ ∀ H', Q (.bl true) H'
theorem ok_law {f : Addr} {fd : FuncData} (F : FunD K d_law.name d_law.qual d_law.params d_law.body d_law.scope [] [] f fd) (B : Blt mg) (C_law_digits : Cal P w K mg base lv_law_digits "_law_digits" ["script", "first", "last"] (spDigits K)) (C_law_any : Cal P w K mg base lv_law_any "_law_any" ["box", "most", "same"] (spAny K))
    (C_law_goes : Cal P w K mg base lv_law_goes "_law_goes" ["graph", "number"] (spLinks K)) (C_path_to : Cal P w K mg base lv_path_to "path_to" ["graph", "start", "goal"] (spPathTo K)) :
    FnOk P w K mg base CX0 lv_law f fd ["script"] (spLaw K) := by
  refine F.ok sc_law (fun vs H Q E h => ?_) (fun cdv A outer s H vs Q E hr h => ⟨_, PSs.nox
    (pss_cons (ps_set (i := 1) sc_law.nd rfl (Or.inl rfl) (pe_lst (pa_cons (pc_call C_law_digits (hr.mono (by decide)) (by rfl) (pa_cons (pv 0) (pa_cons pe_int (pa_cons pe_int pa_nil)))) (pa_cons pe_int pa_nil))))
    (pss_cons (ps_set (i := 2) sc_law.nd rfl (Or.inl rfl) (pc_call C_law_any (hr.mono (by decide)) (by rfl) (pa_cons (pv 1) (pa_cons pe_int (pa_cons pe_int pa_nil)))))
    (pss_cons (ps_for PassesOwn.never rfl (pi_range1 rfl B.range (pa_cons (pe_callB call_len_seq (by rfl) B.len boot_len (pa_cons (pe_ix (ix_tupK (K := K) rfl) (pv 2) pe_int (fun _ _ => rfl)) pa_nil)) pa_nil)) (pg_name (i := 3) sc_law.nd rfl (Or.inl rfl))
      (pss_cons (ps_setLc (i := 4) (own := [("k", 6)]) (g := gName 6) (by rfl) sc_law.nd rfl rfl (sw_true rfl rfl rfl (by decide +kernel)) (pi_range1 rfl B.range (pa_cons (pe_callB call_len_seq (by rfl) B.len boot_len (pa_cons (pe_ix (ix_tupK (K := K) rfl) (pv 2) pe_int (fun _ _ => rfl)) pa_nil)) pa_nil)) (blkOk_by (N := ["script", "box", "graph", "start", "best", "turn", "k", "pair", "path", "old", "goal"]) (own := [("k", 6)]) (sc := defScope s_law) (by decide +kernel)) (fun _ _ _ _ _ => (pg_name (i := 6) sc_law.nd rfl (Or.inl rfl))) (fun _ _ _ _ _ => pts_nil) (fun _ _ _ _ _ => pe_non))
        (pss_cons (ps_asg (pe_lst pa_nil) (pg_sub (pv 4) (pv 3) set_list))
        (pss_cons (ps_for PassesOwn.never rfl (pi_range1 rfl B.range (pa_cons (pe_callB call_len_seq (by rfl) B.len boot_len (pa_cons (pe_ix (ix_tupK (K := K) rfl) (pv 2) pe_int (fun _ _ => rfl)) pa_nil)) pa_nil)) (pg_name (i := 5) sc_law.nd rfl (Or.inl rfl))
          (pss_one (ps_for PassesOwn.never rfl (pi_range1 rfl B.range (pa_cons (pe_callB call_len_seq (by rfl) B.len boot_len (pa_cons (pe_ix (ix_tupK (K := K) rfl) (pv 2) pe_int (fun _ _ => rfl)) pa_nil)) pa_nil)) (pg_name (i := 6) sc_law.nd rfl (Or.inl rfl))
              (pss_one (ps_if (pt_cmpR op_notN (pe_ix (ix_listK (K := K) rfl) (pv 4) (pv 6) (fun _ _ => rfl)) pe_non (nomark _))
                  (pss_one (ps_for PassesOwn.never rfl (pi_list (pc_call C_law_goes (hr.mono (by decide)) (by rfl) (pa_cons (pv 2) (pa_cons (pv 6) pa_nil)))) (pg_name (i := 7) sc_law.nd rfl (Or.inl rfl))
                      (pss_cons (ps_set (i := 8) sc_law.nd rfl (Or.inl rfl) (pe_op op_cat (pe_ix (ix_listK (K := K) rfl) (pv 4) (pv 6) (fun _ _ => rfl)) (pe_lst (pa_cons (pe_ix (ix_tupK (K := K) rfl) (pv 7) pe_int (fun _ _ => rfl)) pa_nil))))
                        (pss_cons (ps_set (i := 9) sc_law.nd rfl (Or.inl rfl) (pe_ix (ix_listK (K := K) rfl) (pv 4) (pe_ix (ix_tupK (K := K) rfl) (pv 7) pe_int (fun _ _ => rfl)) (fun _ _ => rfl)))
                        (pss_one (ps_if (PW.pt (pw_or (pt_cmpR op_isN (pv 9) pe_non (nomark _)) (pw_or (pt_cmpR op_lt (pe_callB call_len_seq (by rfl) B.len boot_len (pa_cons (pv 8) pa_nil)) (pe_callB call_len_seq (by rfl) B.len boot_len (pa_cons (pv 9) pa_nil)) (nomark _)) (pw_or1 (PW.pt (pw_and (pt_cmpR op_eq (pe_callB call_len_seq (by rfl) B.len boot_len (pa_cons (pv 8) pa_nil)) (pe_callB call_len_seq (by rfl) B.len boot_len (pa_cons (pv 9) pa_nil)) (nomark _)) (pw_and1 (pt_cmpR (op_ltLS hr.units) (pv 8) (pv 9) (nomark _)))))))))
                          (pss_one (ps_asg (pv 8) (pg_sub (pv 4) (pe_ix (ix_tupK (K := K) rfl) (pv 7) pe_int (fun _ _ => rfl)) set_list)))
                          pss_nil))))))
                  pss_nil)))))
        (pss_one (ps_for PassesOwn.never rfl (pi_range1 rfl B.range (pa_cons (pe_callB call_len_seq (by rfl) B.len boot_len (pa_cons (pe_ix (ix_tupK (K := K) rfl) (pv 2) pe_int (fun _ _ => rfl)) pa_nil)) pa_nil)) (pg_name (i := 10) sc_law.nd rfl (Or.inl rfl))
          (pss_one (ps_if (pt_cmpR (op_neTK (K := K) rfl hr.units) (pc_call C_path_to (hr.mono (by decide)) (by rfl) (pa_cons (pv 2) (pa_cons (pv 3) (pa_cons (pv 10) pa_nil)))) (pe_ix (ix_listK (K := K) rfl) (pv 4) (pv 10) (fun _ _ => rfl)) (nomark _))
              (pss_one (ps_ret pe_bl))
              pss_nil))))))))
    (pss_one (ps_ret pe_bl))))), ?_⟩)
  · obtain ⟨a, ns, rfl, _⟩ := h
    rfl
  · obtain ⟨a, ns, rfl, hs, q⟩ := h
    repeat walk_at "h"
    refine ⟨a, ns, 0, 63, rfl, by decide, by decide, by decide, by decide, hs, fun dg ds H1 n1 h1 s1 => ?_⟩
    repeat walk_at "h"
    refine ⟨(by decide : 2 ≤ sizeLine), fun b hb => ?_⟩
    have B0 : Box K b dg (upd H1 b (.lst [.ref dg, .int 0])) := ⟨⟨0, upd_same, by decide⟩, ⟨ds, (Stp.new (M := []) hb).keep _ _ h1 (by simp)⟩, ne_of_none h1 hb⟩
    repeat walk_at "h"
    generalize upd H1 b (.lst [.ref dg, .int 0]) = H2 at B0 ⊢
    clear s1 h1 n1 hb hs
    refine ⟨b, dg, 6, 1, rfl, by decide, by decide, by decide, B0, fun v g H3 kg ok ag s3 B3 => ?_⟩
    have gpos := any_pos ag (by decide)
    have asc := any_asc ag (by decide)
    have dg3 := kg _ (.refl _)
    have dg3' := dg3
    obtain ⟨ga, rv, ov, rfl, hga, _, hov⟩ := grAt dg3'
    obtain ⟨oa, ys, rfl, hys, dys⟩ := lstAt hov
    have yl : ys.length = g.2.length := by have := dys.length; rwa [List.length_map] at this
    have n12 := ok.1
    clear B0 s3 B3 kg ag
    repeat walk_at "h"
    refine i_IxT hga.sqt (at_of (j := 1) rfl rfl) ?_
    repeat walk_at "h"
    refine ⟨oa, ys, rfl, .inl hys, ?_⟩
    repeat walk_at "h"
    refine ⟨(ys.length : Nat), rfl, by omega, by omega, ?_⟩
    refine for_range (lo := 0) (n := ys.length) (fun i σ H' => ∃ (y3 y4 y5 y6 y7 y8 y9 y10 : Option V), σ = [some (.ref a), some (.ref b), some (.ref ga), y3, y4, y5, y6, y7, y8, y9, y10] ∧ Stp [] H3 H')
      ⟨_, _, _, _, _, _, _, _, rfl, .refl _⟩ ?_ ?_
    · rintro i σ H4 hi ⟨y3, y4, y5, y6, y7, y8, y9, y10, rfl, s4⟩
      have sin : inG g (i : Int) := ⟨by omega, by omega⟩
      have z0 : (0 : Int) + (i : Int) = (i : Int) := by omega
      rw [z0]
      generalize hs : (i : Int) = st at sin
      clear hi
      repeat walk_at "h"
      refine i_Lc ?_
      repeat walk_at "h"
      refine i_IxT (hga.stp s4).sqt (at_of (j := 1) rfl rfl) ?_
      repeat walk_at "h"
      refine ⟨oa, ys, rfl, .inl (s4.seq hys (by simp)), ?_⟩
      repeat walk_at "h"
      refine ⟨(ys.length : Nat), rfl, by omega, by omega, fun bp nbp => ?_⟩
      refine lc_range (lo := 0) (n := ys.length) (fun j H' => Stp [] H4 H' ∧ H' bp = some (.lst (List.replicate j V.non))) ⟨.new nbp, upd_same⟩ ?_ ?_
      · rintro j H5 hj ⟨s5, b5⟩
        repeat walk_at "h"
        refine ⟨rfl, i_Yes ?_⟩
        refine i_ite (fun _ => ?_) (fun z => nomatch z)
        repeat walk_at "h"
        refine ⟨_, b5, by rw [List.length_replicate]; exact Nat.lt_of_le_of_lt (show j ≤ 100 by omega) (by decide), s5.mut nbp, ?_⟩
        rw [upd_same, List.replicate_succ']
      · rintro H5 ⟨s5, b5⟩
        have s35 := s4.trans s5
        have nb0 := s4.free nbp (by simp)
        have B5 : BestAt bp H5 (List.replicate ys.length none) := by
          refine ⟨_, b5, ?_⟩
          generalize ys.length = N
          clear b5 s5 s35
          induction N with
          | zero => exact .nil
          | succ N ih => rw [List.replicate_succ, List.replicate_succ]; exact .cons rfl ih
        clear s5 nbp
        repeat walk_at "h"
        refine ⟨Nat.zero_le _, fun l nl => ?_⟩
        have s6 : Stp [] H5 (upd H5 l (.lst [])) := .new nl
        have l6 : (upd H5 l (.lst [])) l = some (.lst (([] : List Str).map V.str)) := upd_same
        have lb : l ≠ bp := (ne_of_none b5 nl).symm
        have B6 := B5.grow s6
        have b6 := s6.keep _ _ b5 (by simp)
        have s36 := s35.trans s6
        generalize upd H5 l (.lst []) = H6 at s6 l6 B6 b6 s36 ⊢
        refine i_gSub ?_
        repeat walk_at "h"
        refine ⟨bp, _, st, st.toNat, rfl, rfl, b6, ixN_in sin.1 (by rw [List.length_replicate]; have := sin.2; omega), ?_⟩
        obtain ⟨B7, s7⟩ := B6.put (n := st) (w := []) b6 lb l6
        have s37 := s36.mut (o := .lst ((List.replicate ys.length V.non).set st.toNat (.ref l))) nb0
        generalize upd H6 bp (.lst ((List.replicate ys.length V.non).set st.toNat (.ref l))) = H7 at B7 s7 s37 ⊢
        have lst7 : st.toNat < (List.replicate ys.length (none : Option (List Str))).length := by rw [List.length_replicate]; have := sin.1; have := sin.2; omega
        have at7 : ∀ n w, bAt (setB (List.replicate ys.length none) st []) n = some w → n = st ∧ w = [] := by
          intro n w h
          rw [bAt_set sin.1 lst7] at h
          by_cases c : n = st
          · rw [if_pos c] at h; cases h; exact ⟨c, rfl⟩
          · rw [if_neg c] at h
            unfold bAt at h
            split at h
            · rw [List.getElem?_replicate] at h
              split at h <;> simp at h
            · cases h
        have len7 : (setB (List.replicate ys.length none) st []).length = ys.length := by unfold setB; rw [List.length_set, List.length_replicate]
        have sd7 : Sound g st (setB (List.replicate ys.length none) st []) := fun n w h => by
          obtain ⟨rfl, rfl⟩ := at7 n w h
          exact .nil
        have cv7 : Cov g st (setB (List.replicate ys.length none) st []) 0 := fun w n ld lw => by
          have : w = [] := List.length_eq_zero_iff.mp (by omega)
          subst this
          have e : n = st := leads_nil ld
          rw [e, bAt_set sin.1 lst7, if_pos rfl]
          exact ⟨[], rfl, Nat.le_refl _⟩
        have bd7 : Bound (setB (List.replicate ys.length none) st []) 0 := fun n w h => by
          obtain ⟨_, rfl⟩ := at7 n w h
          exact Nat.le_refl _
        generalize setB (List.replicate ys.length none) st [] = b7 at B7 len7 sd7 cv7 bd7
        clear at7 lst7 B6 B5 b6 b5 s6 s7 s36 s35 l6 lb nl
        repeat walk_at "h"
        refine i_IxT (hga.stp s37).sqt (at_of (j := 1) rfl rfl) ?_
        repeat walk_at "h"
        refine ⟨oa, ys, rfl, .inl (s37.seq hys (by simp)), ?_⟩
        repeat walk_at "h"
        refine ⟨(ys.length : Nat), rfl, by omega, by omega, ?_⟩
        refine for_range (lo := 0) (n := ys.length) (fun t σ H' => ∃ (y5 y6 y7 y8 y9 : Option V) (b0 : Bst), σ = [some (.ref a), some (.ref b), some (.ref ga), some (.int st), some (.ref bp), y5, y6, y7, y8, y9, y10] ∧ Stp [] H3 H' ∧ BestAt bp H' b0 ∧ b0.length = ys.length ∧ Sound g st b0 ∧ Cov g st b0 t ∧ Bound b0 (48 * t))
          ⟨_, _, _, _, _, b7, rfl, s37, B7, len7, sd7, cv7, bd7⟩ ?_ ?_
        · rintro t σ H8 ht ⟨y5, y6, y7, y8, y9, b0, rfl, s8, B8, len8, sd8, cv8, bd8⟩
          clear B7 len7 sd7 cv7 bd7 s37
          repeat walk_at "h"
          refine i_IxT (hga.stp s8).sqt (at_of (j := 1) rfl rfl) ?_
          repeat walk_at "h"
          refine ⟨oa, ys, rfl, .inl (s8.seq hys (by simp)), ?_⟩
          repeat walk_at "h"
          refine ⟨(ys.length : Nat), rfl, by omega, by omega, ?_⟩
          refine for_range (lo := 0) (n := ys.length) (fun k σ H' => ∃ (y6 y7 y8 y9 : Option V) (b1 : Bst), σ = [some (.ref a), some (.ref b), some (.ref ga), some (.int st), some (.ref bp), some (.int (0 + (t : Int))), y6, y7, y8, y9, y10] ∧ Stp [] H3 H' ∧ BestAt bp H' b1 ∧ b1.length = ys.length ∧ Sound g st b1 ∧ LeB b0 b1 ∧ (∀ n : Int, inG g n → n < (k : Nat) → Tried g b0 b1 n (linksOf (rowAt g n))) ∧ Bound b1 (48 * t + 4 * k))
            ⟨_, _, _, _, b0, rfl, s8, B8, len8, sd8, .refl _, fun n h1 h2 => by have := h1.1; omega, bd8⟩ ?_ ?_
          · rintro k σ H9 hk ⟨y6, y7, y8, y9, b1, rfl, s9, B9, len9, sd9, le9, tr9, bd9⟩
            have kin : inG g (0 + (k : Int)) := ⟨by omega, by omega⟩
            have zk : (0 : Int) + (k : Int) = ((k : Nat) : Int) := by omega
            rw [zk] at kin ⊢
            generalize hkk : ((k : Nat) : Int) = kk at kin
            obtain ⟨bs, u, hbs, hu, ou⟩ := B9.get kin.1 (by have := kin.2; omega)
            repeat walk_at "h"
            refine i_IxL (SqL.of hbs) hu ?_
            repeat walk_at "h"
            refine ⟨rfl, ?_⟩
            have step : ∀ (b2 : Bst), LeB b1 b2 → (∀ wk, bAt b1 kk = some wk → ∀ e ∈ linksOf (rowAt g kk), ∃ w', bAt b2 e.2 = some w' ∧ val w' ≤ 3 * val wk + rkS e.1 + 1) → LeB b0 b2 ∧ ∀ n : Int, inG g n → n < ((k + 1 : Nat) : Nat) → Tried g b0 b2 n (linksOf (rowAt g n)) := by
              intro b2 le h
              refine ⟨le9.trans le, fun n h1 h2 => ?_⟩
              by_cases c : n = kk
              · subst c
                intro w0 h0 e he
                obtain ⟨wk, q1, q2⟩ := le9.2 _ _ h0
                obtain ⟨w', q3, q4⟩ := h wk q1 e he
                exact ⟨w', q3, by omega⟩
              · exact (tr9 n h1 (by omega)).le le
            cases hq : bAt b1 kk with
            | none =>
              rw [hq] at ou
              rw [show u = .non from ou, decide_eq_true rfl]
              refine ⟨_, rfl, iteF ?_⟩
              repeat walk_at "h"
              obtain ⟨z1, z2⟩ := step b1 (.refl _) fun wk z => by rw [hq] at z; cases z
              exact ⟨_, _, _, _, b1, rfl, s9, B9, len9, sd9, z1, z2, bd9.mono (by omega)⟩
            | some wk =>
              rw [hq] at ou
              obtain ⟨l, rfl, lb, hl⟩ := ou
              rw [decide_eq_false (show ¬ V.ref l = V.non from fun z => nomatch z)]
              refine ⟨_, rfl, iteT ?_⟩
              repeat walk_at "h"
              refine ⟨.ref ga, g, kk, rfl, dt_grow s9 _ _ dg3, ok, kin, fun lp ws H10 nlp hlp dlp s10 => ?_⟩
              have B10 := B9.grow s10
              have s310 := s9.trans s10
              have lpb : lp ≠ bp := (ne_of_none hbs nlp).symm
              have lin : ∀ e ∈ linksOf (rowAt g kk), inG g e.2 ∧ e ∈ linksOf (rowAt g kk) := fun e he => ⟨ok.2.2 _ (rowAt_mem kin) e he, he⟩
              have lk4 : (linksOf (rowAt g kk)).length ≤ 4 := Nat.le_trans (links_len _) (ok.2.1 _ (rowAt_mem kin))
              have wkl := bd9 _ _ hq
              have fin_ := fun b2 le h => step b2 le fun w0 h0 => by
                rw [hq] at h0
                cases h0
                exact (h : ∀ e ∈ linksOf (rowAt g kk), ∃ w', bAt b2 e.2 = some w' ∧ val w' ≤ 3 * val wk + rkS e.1 + 1)
              have lead_ : ∀ {w : List Str} {e : Str × Int}, Leads g st w kk → e ∈ linksOf (rowAt g kk) → Leads g st (w ++ [e.1]) e.2 := fun h1 h2 => .snoc h1 h2
              clear step
              generalize linksOf (rowAt g kk) = lk at dlp lin lk4 fin_ lead_
              have wl : ws.length = lk.length := by have := dlp.length; rwa [List.length_map] at this
              refine ⟨lp, rfl, ⟨_, SqL.of hlp⟩, ?_⟩
              refine for_list (xs := ws) (fun j σ H' => ∃ (y7 y8 y9 : Option V) (b2 : Bst), σ = [some (.ref a), some (.ref b), some (.ref ga), some (.int st), some (.ref bp), some (.int (0 + (t : Int))), some (.int kk), y7, y8, y9, y10] ∧ Stp [] H3 H' ∧ Stp [bp] H10 H' ∧ BestAt bp H' b2 ∧ b2.length = ys.length ∧ Sound g st b2 ∧ LeB b1 b2 ∧ (∀ e ∈ lk.take j, ∃ w', bAt b2 e.2 = some w' ∧ val w' ≤ 3 * val wk + rkS e.1 + 1) ∧ Bound b2 (48 * t + 4 * k + j))
                ⟨_, _, _, b1, rfl, s310, .refl _, B10, len9, sd9, .refl _, by simp, bd9⟩ (fun j σ H' _ ⟨_, _, _, _, _, _, s, _⟩ => SqL.of (s.keep _ _ hlp (by simpa using lpb))) ?_ ?_
              · rintro j v7 σ H11 hv ⟨y7, y8, y9, b2, rfl, s11, s1011, B11, len11, sd11, le11, tr11, bd11⟩
                obtain ⟨e, he, de⟩ := mp_get (DtsAt.stp s1011 _ _ (lks_flat _) dlp) hv
                obtain ⟨ea, rfl, ht2⟩ := lkAt de
                have hj := (List.getElem?_eq_some_iff.mp he).1
                have tk2 : lk.take (j + 1) = lk.take j ++ [e] := by rw [List.take_add_one, he]; rfl
                obtain ⟨ein, elk⟩ := lin e (List.mem_of_getElem? he)
                obtain ⟨w2, hw2, v2⟩ := le11.2 _ _ hq
                have w2l := bd11 _ _ hw2
                obtain ⟨bs2, u2, hbs2, hu2, ou2⟩ := B11.get kin.1 (by have := kin.2; omega)
                rw [hw2] at ou2
                obtain ⟨l2, rfl, lb2, hl2⟩ := ou2
                have lead2 := lead_ (sd11 _ _ hw2) elk
                have vp : val (w2 ++ [e.1]) ≤ 3 * val wk + rkS e.1 + 1 := by rw [val_snoc]; omega
                have more : ∀ b3 : Bst, LeB b2 b3 → (∃ w', bAt b3 e.2 = some w' ∧ val w' ≤ val (w2 ++ [e.1])) → ∀ x ∈ lk.take (j + 1), ∃ w', bAt b3 x.2 = some w' ∧ val w' ≤ 3 * val wk + rkS x.1 + 1 := by
                  intro b3 le ⟨w', h1, h2⟩ x hx
                  rw [tk2] at hx
                  rcases List.mem_append.mp hx with z | z
                  · obtain ⟨w1, q1, q2⟩ := tr11 x z
                    obtain ⟨w3, q3, q4⟩ := le.2 _ _ q1
                    exact ⟨w3, q3, by omega⟩
                  · rw [List.mem_singleton.mp z]
                    exact ⟨w', h1, by omega⟩
                repeat walk_at "h"
                refine i_IxL (SqL.of hbs2) hu2 ?_
                repeat walk_at "h"
                refine i_IxT ht2.sqt (at_of (j := 0) rfl rfl) ?_
                repeat walk_at "h"
                refine ⟨(by decide : 1 ≤ sizeLine), fun qp nqp => ?_⟩
                have s12 : Stp [] H11 (upd H11 qp (.lst [.str e.1])) := .new nqp
                have q12 : (upd H11 qp (.lst [.str e.1])) qp = some (.lst [.str e.1]) := upd_same
                have l12 := s12.keep _ _ hl2 (by simp)
                generalize upd H11 qp (.lst [.str e.1]) = H12 at s12 q12 l12 ⊢
                refine ⟨l2, qp, _, _, rfl, rfl, l12, q12, ?_, fun pp npp => ?_⟩
                · rw [List.length_map]
                  exact Nat.le_trans (show w2.length + 1 ≤ 1000 by omega) (by decide)
                have s13 : Stp [] H12 (upd H12 pp (.lst (w2.map V.str ++ [.str e.1]))) := .new npp
                have p13 : (upd H12 pp (.lst (w2.map V.str ++ [.str e.1]))) pp = some (.lst ((w2 ++ [e.1]).map V.str)) := by rw [upd_same, List.map_append]; rfl
                have s1113 := s12.trans s13
                have ppb : pp ≠ bp := by
                  have h := s12.keep _ _ hbs2 (by simp)
                  exact (ne_of_none h npp).symm
                have B13 := B11.grow s1113
                have ht13 := ht2.stp s1113
                have s313 := s11.trans s1113
                have s1013 := s1011.trans (s1113.mono (M' := [bp]) (by simp))
                generalize upd H12 pp (.lst (w2.map V.str ++ [.str e.1])) = H13 at s13 p13 s1113 B13 ht13 s313 s1013 ⊢
                have plen : (w2 ++ [e.1]).length ≤ 48 * t + 4 * k + (j + 1) := by rw [List.length_append, List.length_singleton]; omega
                have lnb : b2.length = ys.length := len11
                have mlt : e.2.toNat < b2.length := by have := ein.1; have := ein.2; omega
                clear s12 s13 q12 l12 hl2 lb2 hu2 hbs2 nqp npp
                obtain ⟨bs3, u3, hbs3, hu3, ou3⟩ := B13.get ein.1 (by have := ein.2; omega)
                repeat walk_at "h"
                refine i_IxT ht13.sqt (at_of (j := 1) rfl rfl) ?_
                refine i_IxL (SqL.of hbs3) hu3 ?_
                repeat walk_at "h"
                refine ⟨rfl, ?_⟩
                have setOk : better b2 e.2 (w2 ++ [e.1]) = true → ∀ H14, H14 = upd H13 bp (.lst (bs3.set e.2.toNat (.ref pp))) → Stp [] H3 H14 ∧ Stp [bp] H10 H14 ∧ BestAt bp H14 (setB b2 e.2 (w2 ++ [e.1])) ∧ (setB b2 e.2 (w2 ++ [e.1])).length = ys.length ∧ Sound g st (setB b2 e.2 (w2 ++ [e.1])) ∧ LeB b1 (setB b2 e.2 (w2 ++ [e.1])) ∧
                    (∀ x ∈ lk.take (j + 1), ∃ w', bAt (setB b2 e.2 (w2 ++ [e.1])) x.2 = some w' ∧ val w' ≤ 3 * val wk + rkS x.1 + 1) ∧ Bound (setB b2 e.2 (w2 ++ [e.1])) (48 * t + 4 * k + (j + 1)) := by
                  rintro bt _ rfl
                  obtain ⟨B14, s14⟩ := B13.put (n := e.2) (w := w2 ++ [e.1]) hbs3 ppb p13
                  have le := setB_le ein.1 mlt bt
                  refine ⟨s313.mut nb0, s1013.trans s14, B14, by rw [le.1]; exact lnb, setB_sound ein.1 mlt sd11 lead2, le11.trans le, more _ le ⟨_, by rw [bAt_set ein.1 mlt, if_pos rfl], Nat.le_refl _⟩, fun n w h => ?_⟩
                  rw [bAt_set ein.1 mlt] at h
                  split at h
                  · cases h; exact plen
                  · exact Nat.le_trans (bd11 _ _ h) (by omega)
                have setAt : ixN bs3.length e.2 = some e.2.toNat := ixN_in ein.1 (by
                  obtain ⟨bs', q1, q2⟩ := B13
                  rw [hbs3] at q1
                  cases q1
                  have := Paired.length q2
                  have := ein.2
                  omega)
                cases hm : bAt b2 e.2 with
                | none =>
                  rw [hm] at ou3
                  have bt : better b2 e.2 (w2 ++ [e.1]) = true := by unfold better; rw [hm]
                  rw [show u3 = .non from ou3, decide_eq_true rfl]
                  refine ⟨_, rfl, iteT (iteT ?_)⟩
                  repeat walk_at "h"
                  refine i_gSub ?_
                  repeat walk_at "h"
                  refine i_IxT ht13.sqt (at_of (j := 1) rfl rfl) ?_
                  refine ⟨bp, _, e.2, e.2.toNat, rfl, rfl, hbs3, setAt, ?_⟩
                  exact ⟨_, _, _, _, rfl, setOk bt _ rfl⟩
                | some ow =>
                  rw [hm] at ou3
                  obtain ⟨l3, rfl, lb3, hl3⟩ := ou3
                  have bt : better b2 e.2 (w2 ++ [e.1]) = decide (val (w2 ++ [e.1]) < val ow) := by unfold better; rw [hm]
                  rw [decide_eq_false (show ¬ V.ref l3 = V.non from fun z => nomatch z)]
                  refine ⟨_, rfl, iteF ?_⟩
                  repeat walk_at "h"
                  refine ⟨pp, _, rfl, .inl (SqL.of p13), ?_⟩
                  repeat walk_at "h"
                  refine ⟨l3, _, rfl, .inl (SqL.of hl3), ?_⟩
                  repeat walk_at "h"
                  rw [List.length_map, List.length_map]
                  have skip : better b2 e.2 (w2 ++ [e.1]) = false → (∀ x ∈ lk.take (j + 1), ∃ w', bAt b2 x.2 = some w' ∧ val w' ≤ 3 * val wk + rkS x.1 + 1) := fun z => more b2 (.refl _) (not_better z)
                  have fp := lead2.fields ok sin asc
                  have fo := (sd11 _ _ hm).fields ok sin asc
                  by_cases c1 : (w2 ++ [e.1]).length < ow.length
                  · have bt' : better b2 e.2 (w2 ++ [e.1]) = true := by rw [bt]; exact decide_eq_true (val_len c1)
                    rw [decide_eq_true (show (((w2 ++ [e.1]).length : Nat) : Int) < (ow.length : Nat) by omega)]
                    refine iteT (iteT ?_)
                    repeat walk_at "h"
                    refine i_gSub ?_
                    repeat walk_at "h"
                    refine i_IxT ht13.sqt (at_of (j := 1) rfl rfl) ?_
                    refine ⟨bp, _, e.2, e.2.toNat, rfl, rfl, hbs3, setAt, ?_⟩
                    exact ⟨_, _, _, _, rfl, setOk bt' _ rfl⟩
                  · rw [decide_eq_false (show ¬ (((w2 ++ [e.1]).length : Nat) : Int) < (ow.length : Nat) by omega)]
                    refine iteF ?_
                    repeat walk_at "h"
                    refine ⟨pp, _, rfl, .inl (SqL.of p13), ?_⟩
                    repeat walk_at "h"
                    refine ⟨l3, _, rfl, .inl (SqL.of hl3), ?_⟩
                    rw [List.length_map, List.length_map]
                    repeat walk_at "h"
                    by_cases c2 : (w2 ++ [e.1]).length = ow.length
                    · rw [decide_eq_true (show V.int (((w2 ++ [e.1]).length : Nat) : Int) = V.int (ow.length : Nat) by rw [c2])]
                      refine iteT ?_
                      repeat walk_at "h"
                      refine ⟨pp, l3, _, _, rfl, rfl, SqL.of p13, SqL.of hl3, ?_⟩
                      rw [lex_of c2, lexS_val fp fo c2, ← bt]
                      refine ⟨_, rfl, ?_⟩
                      cases hb : better b2 e.2 (w2 ++ [e.1]) with
                      | true =>
                        have bt' := hb
                        refine iteT ?_
                        repeat walk_at "h"
                        refine i_gSub ?_
                        repeat walk_at "h"
                        refine i_IxT ht13.sqt (at_of (j := 1) rfl rfl) ?_
                        refine ⟨bp, _, e.2, e.2.toNat, rfl, rfl, hbs3, setAt, ?_⟩
                        exact ⟨_, _, _, _, rfl, setOk bt' _ rfl⟩
                      | false =>
                        refine iteF ?_
                        repeat walk_at "h"
                        exact ⟨_, _, _, b2, rfl, s313, s1013, B13, lnb, sd11, le11, skip hb, bd11.mono (by omega)⟩
                    · have hb : better b2 e.2 (w2 ++ [e.1]) = false := by
                        rw [bt]
                        refine decide_eq_false fun z => ?_
                        have := val_len (show ow.length < (w2 ++ [e.1]).length by omega)
                        omega
                      rw [decide_eq_false (show ¬ V.int (((w2 ++ [e.1]).length : Nat) : Int) = V.int (ow.length : Nat) from fun z => c2 (by injection z with z; omega))]
                      refine iteF ?_
                      repeat walk_at "h"
                      exact ⟨_, _, _, b2, rfl, s313, s1013, B13, lnb, sd11, le11, skip hb, bd11.mono (by omega)⟩
              · rintro σ H11 ⟨y7, y8, y9, b2, rfl, s11, s1011, B11, len11, sd11, le11, tr11, bd11⟩
                rw [wl, List.take_length] at tr11
                obtain ⟨z1, z2⟩ := fin_ b2 le11 tr11
                repeat walk_at "h"
                exact ⟨_, _, _, _, b2, rfl, s11, B11, len11, sd11, z1, z2, bd11.mono (by omega)⟩
          · rintro σ H9 ⟨y6, y7, y8, y9, b1, rfl, s9, B9, len9, sd9, le9, tr9, bd9⟩
            repeat walk_at "h"
            exact ⟨_, _, _, _, _, b1, rfl, s9, B9, len9, sd9, cv8.next ok sin le9 fun n hn => tr9 n hn (by have := hn.2; omega), bd9.mono (by omega)⟩
        · rintro σ H8 ⟨y5, y6, y7, y8, y9, b0, rfl, s8, B8, len8, sd8, cv8, bd8⟩
          clear B7 len7 sd7 cv7 bd7 s37
          repeat walk_at "h"
          refine i_IxT (hga.stp s8).sqt (at_of (j := 1) rfl rfl) ?_
          repeat walk_at "h"
          refine ⟨oa, ys, rfl, .inl (s8.seq hys (by simp)), ?_⟩
          repeat walk_at "h"
          refine ⟨(ys.length : Nat), rfl, by omega, by omega, ?_⟩
          refine for_range (lo := 0) (n := ys.length) (fun k σ H' => ∃ (y10 : Option V), σ = [some (.ref a), some (.ref b), some (.ref ga), some (.int st), some (.ref bp), y5, y6, y7, y8, y9, y10] ∧ Stp [] H3 H' ∧ BestAt bp H' b0)
            ⟨_, rfl, s8, B8⟩ ?_ ?_
          · rintro k σ H9 hk ⟨y10, rfl, s9, B9⟩
            have kin : inG g (0 + (k : Int)) := ⟨by omega, by omega⟩
            generalize (0 : Int) + (k : Int) = kk at kin ⊢
            repeat walk_at "h"
            refine ⟨.ref ga, g, st, kk, rfl, dt_grow s9 _ _ dg3, ok, asc, sin, fun u o H10 sm so hu s10 => ?_⟩
            have B10 := B9.grow s10
            obtain ⟨bs, u2, hbs, hu2, ou⟩ := B10.get kin.1 (by have := kin.2; omega)
            have eo := smin_eq ok sin asc sd8 cv8 sm (by rw [yl]; exact so)
            rw [eo] at ou
            repeat walk_at "h"
            refine i_IxL (SqL.of hbs) hu2 ?_
            refine i_NeT (optP_dt hu) (optV_dt ou) ?_ (opD_dep _) (opD_dep _)
            rw [Dt.beq_self]
            refine ⟨_, rfl, iteF ?_⟩
            repeat walk_at "h"
            exact ⟨_, rfl, s9.trans s10, B10⟩
          · rintro σ H9 ⟨y10, rfl, s9, B9⟩
            repeat walk_at "h"
            exact ⟨_, _, _, _, _, _, _, _, rfl, s9⟩
    · rintro σ H4 ⟨y3, y4, y5, y6, y7, y8, y9, y10, rfl, s4⟩
      repeat walk_at "h"
      exact q _
end

/-! ### the head: facts by names, the run -/
def fn : List He.DefD := [d_linked_name, d_Search_init, d_Search_meet, d_Search_next_place, d_Search_row_to, d_path_to, d_links_of, d_law_cell, d_law_digits, d_law_draw, d_law_plain, d_law_drawn, d_law_reached, d_law_any, d_law_goes, d_law]
def fa0 : List He.Fa := [.glo "linked_name", .glo "path_to", .glo "links_of", .glo "_law_cell", .glo "_law_digits", .glo "_law_draw", .glo "_law_plain", .glo "_law_drawn", .glo "_law_reached", .glo "_law_any", .glo "_law_goes", .glo "law", .free "len", .free "int", .free "range", .free "isinstance", .free "sorted", .free "list", .free "tuple", .free "dict", .free "str", .free "bool", .free "max", .free "min", .free "all", .free "any", .free "sum", .free "ord", .free "enumerate", .glo "Search"]
def fa1 : List He.Fa := [.cls "Search", .noat "Search" "places", .noat "Search" "came", .noat "Search" "at", .mkr "Search", .meth "Search" "meet", .meth "Search" "next_place", .meth "Search" "row_to"]
def fa : List He.Fa := fa0 ++ fa1
def exB (K : PySem.W.Frag) : Bool := true
def tf : List He.Defn := []
abbrev R : PySem.W.OpenRow := PySem.W.OpenLaw.row PySem.Challenge.rw_graphtwins_k15_shortest_paths
abbrev hk : PySem.W.Hook := He.hookX 5 fa fn [] tf exB
def ob (s : PySem.W.SharedT) : He.AlX := He.obsX 5 fa fn [] tf exB (HandSHeadRun.getT s)
theorem ob_eq (s : PySem.W.SharedT) : ob s = hk.obs s.abs := He.obsX_eq (HandSHeadRun.getT_eq s)
def loose0 : List PySem.Str := ["linked_name", "Search", "path_to", "links_of", "_law_cell", "_law_digits", "_law_draw", "_law_plain", "_law_drawn", "_law_reached", "_law_any", "_law_goes"]
abbrev looseN : List PySem.Str := loose0
set_option maxHeartbeats 0 in
theorem run (w : World) : HandSHeadRun.RunEq R (PySem.W.view R.prog [15]) hk ob 3000 looseN w := by
  intro os
  kernel_rfl
theorem facts {P : Program} {w : World} {K : PySem.W.Frag} {h : Heap} {mg : Str → Option Value} {f : Addr} (X : K.In h) (G : h.Ns mainGlobals mg) (hfa : mg ("law" : Str) = some (.ref f)) (c : He.SaysX fa fn [] tf exB w h K) :
    ∃ fd : FuncData, (∀ (s : Shared) (v : Value), BindsTo s fd ⟨[v], []⟩ [("script", v)]) ∧ ∀ base : Heap, K.In base → base.Ns mainGlobals mg → FnOk P w K mg base CX0 lv_law f fd ["script"] (spLaw K) := by
  have D_linked_name : Df K mg d_linked_name := by obtain ⟨fd, F⟩ := c.t.d.def_ 0 (d := d_linked_name) rfl; exact ⟨_, fd, F, He.glo_ok X G (c.t.d.fact 0 (f := .glo "linked_name") rfl)⟩
  obtain ⟨fd_Search_init, F_Search_init⟩ := c.t.d.def_ 1 (d := d_Search_init) rfl
  obtain ⟨fd_Search_meet, F_Search_meet⟩ := c.t.d.def_ 2 (d := d_Search_meet) rfl
  obtain ⟨fd_Search_next_place, F_Search_next_place⟩ := c.t.d.def_ 3 (d := d_Search_next_place) rfl
  obtain ⟨fd_Search_row_to, F_Search_row_to⟩ := c.t.d.def_ 4 (d := d_Search_row_to) rfl
  have D_path_to : Df K mg d_path_to := by obtain ⟨fd, F⟩ := c.t.d.def_ 5 (d := d_path_to) rfl; exact ⟨_, fd, F, He.glo_ok X G (c.t.d.fact 1 (f := .glo "path_to") rfl)⟩
  have D_links_of : Df K mg d_links_of := by obtain ⟨fd, F⟩ := c.t.d.def_ 6 (d := d_links_of) rfl; exact ⟨_, fd, F, He.glo_ok X G (c.t.d.fact 2 (f := .glo "links_of") rfl)⟩
  have D_law_cell : Df K mg d_law_cell := by obtain ⟨fd, F⟩ := c.t.d.def_ 7 (d := d_law_cell) rfl; exact ⟨_, fd, F, He.glo_ok X G (c.t.d.fact 3 (f := .glo "_law_cell") rfl)⟩
  have D_law_digits : Df K mg d_law_digits := by obtain ⟨fd, F⟩ := c.t.d.def_ 8 (d := d_law_digits) rfl; exact ⟨_, fd, F, He.glo_ok X G (c.t.d.fact 4 (f := .glo "_law_digits") rfl)⟩
  have D_law_draw : Df K mg d_law_draw := by obtain ⟨fd, F⟩ := c.t.d.def_ 9 (d := d_law_draw) rfl; exact ⟨_, fd, F, He.glo_ok X G (c.t.d.fact 5 (f := .glo "_law_draw") rfl)⟩
  have D_law_plain : Df K mg d_law_plain := by obtain ⟨fd, F⟩ := c.t.d.def_ 10 (d := d_law_plain) rfl; exact ⟨_, fd, F, He.glo_ok X G (c.t.d.fact 6 (f := .glo "_law_plain") rfl)⟩
  have D_law_drawn : Df K mg d_law_drawn := by obtain ⟨fd, F⟩ := c.t.d.def_ 11 (d := d_law_drawn) rfl; exact ⟨_, fd, F, He.glo_ok X G (c.t.d.fact 7 (f := .glo "_law_drawn") rfl)⟩
  have D_law_reached : Df K mg d_law_reached := by obtain ⟨fd, F⟩ := c.t.d.def_ 12 (d := d_law_reached) rfl; exact ⟨_, fd, F, He.glo_ok X G (c.t.d.fact 8 (f := .glo "_law_reached") rfl)⟩
  have D_law_any : Df K mg d_law_any := by obtain ⟨fd, F⟩ := c.t.d.def_ 13 (d := d_law_any) rfl; exact ⟨_, fd, F, He.glo_ok X G (c.t.d.fact 9 (f := .glo "_law_any") rfl)⟩
  have D_law_goes : Df K mg d_law_goes := by obtain ⟨fd, F⟩ := c.t.d.def_ 14 (d := d_law_goes) rfl; exact ⟨_, fd, F, He.glo_ok X G (c.t.d.fact 10 (f := .glo "_law_goes") rfl)⟩
  have D_law : Df K mg d_law := by obtain ⟨fd, F⟩ := c.t.d.def_ 15 (d := d_law) rfl; exact ⟨_, fd, F, He.glo_ok X G (c.t.d.fact 11 (f := .glo "law") rfl)⟩
  have B : Blt mg := ⟨He.free_ok X G (c.t.d.fact 12 (f := .free "len") rfl), He.free_ok X G (c.t.d.fact 13 (f := .free "int") rfl), He.free_ok X G (c.t.d.fact 14 (f := .free "range") rfl), He.free_ok X G (c.t.d.fact 15 (f := .free "isinstance") rfl), He.free_ok X G (c.t.d.fact 16 (f := .free "sorted") rfl), He.free_ok X G (c.t.d.fact 17 (f := .free "list") rfl), He.free_ok X G (c.t.d.fact 18 (f := .free "tuple") rfl), He.free_ok X G (c.t.d.fact 19 (f := .free "dict") rfl), He.free_ok X G (c.t.d.fact 20 (f := .free "str") rfl), He.free_ok X G (c.t.d.fact 21 (f := .free "bool") rfl), He.free_ok X G (c.t.d.fact 22 (f := .free "max") rfl), He.free_ok X G (c.t.d.fact 23 (f := .free "min") rfl), He.free_ok X G (c.t.d.fact 24 (f := .free "all") rfl), He.free_ok X G (c.t.d.fact 25 (f := .free "any") rfl), He.free_ok X G (c.t.d.fact 26 (f := .free "sum") rfl), He.free_ok X G (c.t.d.fact 27 (f := .free "ord") rfl), He.free_ok X G (c.t.d.fact 28 (f := .free "enumerate") rfl)⟩
  have G_Search := He.glo_ok X G (c.t.d.fact 29 (f := .glo "Search") rfl)
  have CLS_Search := He.cls_ok (c.t.d.fact 30 (f := .cls "Search") rfl)
  have NOAT_Search_places := He.noat_ok (c.t.d.fact 31 (f := .noat "Search" "places") rfl)
  have NOAT_Search_came := He.noat_ok (c.t.d.fact 32 (f := .noat "Search" "came") rfl)
  have NOAT_Search_at := He.noat_ok (c.t.d.fact 33 (f := .noat "Search" "at") rfl)
  have MKR_Search := He.mkr_ok (c.t.d.fact 34 (f := .mkr "Search") rfl)
  have METH_Search_meet := He.meth_ok (c.t.d.fact 35 (f := .meth "Search" "meet") rfl)
  have METH_Search_next_place := He.meth_ok (c.t.d.fact 36 (f := .meth "Search" "next_place") rfl)
  have METH_Search_row_to := He.meth_ok (c.t.d.fact 37 (f := .meth "Search" "row_to") rfl)
  have EX := c.more
  obtain ⟨fd, F⟩ := c.t.d.def_ 15 (d := d_law) rfl
  obtain ⟨_, _, _, gl⟩ := D_law
  have e : f = He.ga K "law" := by
    have h1 := hfa.symm.trans (He.glo_ok X G (c.t.d.fact 11 (f := .glo "law") rfl))
    injection h1 with h1
    injection h1
  subst e
  have DM1 : Dfm K (He.ga K "Search") d_Search_meet := ⟨_, fd_Search_meet, F_Search_meet, METH_Search_meet⟩
  have DM2 : Dfm K (He.ga K "Search") d_Search_next_place := ⟨_, fd_Search_next_place, F_Search_next_place, METH_Search_next_place⟩
  have DM3 : Dfm K (He.ga K "Search") d_Search_row_to := ⟨_, fd_Search_row_to, F_Search_row_to, METH_Search_row_to⟩
  have DI : Dfi K mg (He.ga K "Search") "Search" d_Search_init := ⟨_, fd_Search_init, F_Search_init, MKR_Search, G_Search⟩
  have S : SeC K (He.ga K "Search") := ⟨CLS_Search, NOAT_Search_places, NOAT_Search_came, NOAT_Search_at⟩
  refine ⟨fd, fun s v => F.bindsA (ps := ["script"]) (fun _ _ _ _ _ _ us hl => match us, hl with | [_], _ => rfl) s [v] rfl, fun base _ _ => ?_⟩
  have C1 := cal_cell (P := P) (w := w) (base := base) D_law_cell B
  have C2 := cal_digits D_law_digits B C1
  have C3 := cal_draw (P := P) (w := w) (base := base) D_law_draw B
  have C4 := cal_linked_name (P := P) (w := w) (base := base) D_linked_name B
  have C5 := cal_links_of D_links_of C4
  have M1 := mth_Search_meet (P := P) (w := w) (mg := mg) (base := base) DM1 S
  have M2 := mth_Search_next_place (P := P) (w := w) (mg := mg) (base := base) DM2 B S
  have M0 := mki_Search_init DI S CLS_Search M1
  have M3 := mth_Search_row_to (P := P) (w := w) (mg := mg) (base := base) DM3 S
  have C6 := cal_path_to D_path_to B S CLS_Search C5 M0 M1 M2 M3
  have L1 := cal_law_plain D_law_plain C3
  have L2 := cal_law_drawn D_law_drawn B C3 L1
  have L3 := cal_law_reached (P := P) (w := w) (base := base) D_law_reached B
  have L4 := cal_law_any D_law_any B C3 L2 L3
  have L5 := cal_law_goes (P := P) (w := w) (base := base) D_law_goes B
  exact ok_law F B C2 L4 L5 C6
end GT
open PySem PySem.W PySem.Calls PyProof.Rows
set_option maxRecDepth 100000 in
set_option maxHeartbeats 0 in
theorem PySem.Challenge.cw_graphtwins_k15_shortest_paths_holds : PySem.Challenge.rw_graphtwins_k15_shortest_paths.Holds := by
  w_on; o_law
  refine HandSHeadRun.head_any (r := OpenLaw.row PySem.Challenge.rw_graphtwins_k15_shortest_paths) (q := view (OpenLaw.row PySem.Challenge.rw_graphtwins_k15_shortest_paths).prog [15]) (H := GT.hk) (ob := GT.ob) (M := 3000) (loose := GT.looseN) (d := HandSHeadRun.topDef (OpenLaw.row PySem.Challenge.rw_graphtwins_k15_shortest_paths).prog 15) (kwd := []) GT.ob_eq
    (by kernel_rfl) (fun s => by kernel_rfl) GT.run (by kernel_rfl) (by kernel_rfl) (by kernel_rfl) (by rfl) (by first | assumption | decide +kernel) (by decide +kernel) ⟨rfl, rfl, rfl, rfl, rfl, by decide +kernel⟩ ?hw ?hc
  case hw => w_witness2
  case hc =>
    refine L2.walk_ofE (l := PySem.Challenge.rw_graphtwins_k15_shortest_paths) (n := 63) (k := GT.lv_law) (x := "script") (CX := L2.CX0) rfl (by decide) (by kernel_rfl) ⟨rfl, by decide, by decide⟩ ?F (fun _ _ _ _ z => z)
    intro w mg fa h Y G hmg0
    obtain ⟨K, KX, c⟩ := Y
    have hmg : mg ("law" : PySem.Str) = some (.ref fa) := by
      have e : (HandSHeadRun.topDef (OpenLaw.row PySem.Challenge.rw_graphtwins_k15_shortest_paths).prog 15).name = ("law" : PySem.Str) := by kernel_rfl
      rw [← e]
      exact hmg0
    obtain ⟨fd, hb, hF⟩ := GT.facts (P := (PySem.Challenge.rw_graphtwins_k15_shortest_paths).prog) (w := w) KX G hmg c
    exact ⟨K, fd, GT.spLaw K, KX, hb, fun H a ns hl _ hS => ⟨a, ns, rfl, hS, fun _ => rfl⟩, hF⟩


