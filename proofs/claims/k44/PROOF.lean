import PyProof.Rows.All
import Wide.All
import OpenK.AllK
import Wide.FinOn
import HandS.ForMost
import HandS.Exc
import HandS.IsInst
import HandS.Style
import HandS.Flow
import HandS.Defaults
import HandS.Head0
import HandS.Head1
import HandS.Head2
import HandS.HeadEnd
import HandS.HeadHook1
import HandS.HeadHook2
import HandS.HeadHook3
import HandS.HeadHook4
import HandS.Codes
import HandS.SortKw
import HandS.ExcInit
import HandS.FStr
import HandS.Walk
import KE.KDictKeyed
import KE.KeyNested
import KE.SortData
import KE.SortKeyHeap
import KE.KDictWalk
import KE.DataCmp
import KE.DataMinMax
import HandS.Lambda
import HandS.EndTab
import HandS.HeadWalk
import HandS.DictComp
import HandS.DictEq
import HandS.TupLen
import HandS.Replace
import KE.KDictCopyH
import KE.KDictSum
import HandS.SetFor
import HandS.Strs
import HandS.Conv
import HandS.Text
import HandS.FStr
import HandS.ExcField
import HandS.ExcIs
import HandS.ExcOwn
import HandS.WordsExc
import HandS.TryOnly
import KE.DataFind
import HandS.Rev
import PySem.Challenge.RW_graphtwins_k44_ranges
set_option Elab.async false
set_option linter.all false
set_option maxRecDepth 100000
set_option maxHeartbeats 4000000
/-! ## Part A: heaps that grow, readings step by step (nothing of one law) -/
namespace GT
open PySem PySem.Spec PyProof.Rows L2
/-! ### what a step of a program may change: the objects in M; tuples never -/
structure Stp (M : List Addr) (H H' : Hp) : Prop where
  keep : ∀ c o, H c = some o → c ∉ M → H' c = some o
  tups : ∀ c xs, H c = some (.tup xs) → H' c = some (.tup xs)
  tbls : ∀ c ps, H' c = some (.tbl ps) → ∃ qs, H c = some (.tbl qs)
theorem Stp.refl {M : List Addr} (H : Hp) : Stp M H H := ⟨fun _ _ h _ => h, fun _ _ h => h, fun _ ps h => ⟨ps, h⟩⟩
theorem Stp.trans {M : List Addr} {H H1 H2 : Hp} (a : Stp M H H1) (b : Stp M H1 H2) : Stp M H H2 :=
  ⟨fun c o h n => b.keep c o (a.keep c o h n) n, fun c xs h => b.tups c xs (a.tups c xs h), fun c ps h => let ⟨qs, e⟩ := b.tbls c ps h; a.tbls c qs e⟩
theorem Stp.mono {M M' : List Addr} {H H1 : Hp} (a : Stp M H H1) (h : ∀ c ∈ M, c ∈ M') : Stp M' H H1 :=
  ⟨fun c o e n => a.keep c o e fun z => n (h c z), a.tups, a.tbls⟩
/-- a new object -/
theorem Stp.new {M : List Addr} {H : Hp} {p : Addr} {o : HO} (n : H p = none) (nb : ∀ ps, o ≠ .tbl ps := by exact fun _ z => nomatch z) : Stp M H (upd H p o) :=
  ⟨fun c u h _ => by rw [upd_ne (ne_of_none h n)]; exact h, fun c xs h => by rw [upd_ne (ne_of_none h n)]; exact h, fun c ps h => by
    by_cases e : c = p
    · rw [e, upd_same] at h; exact absurd (Option.some.inj h) (nb ps)
    · rw [upd_ne e] at h; exact ⟨ps, h⟩⟩
theorem Stp.add {M : List Addr} {H H1 : Hp} {p : Addr} {o : HO} (a : Stp M H H1) (n : H1 p = none) (nb : ∀ ps, o ≠ .tbl ps := by exact fun _ z => nomatch z) : Stp M H (upd H1 p o) := a.trans (.new n nb)
/-- an object of M is written -/
theorem Stp.wr {M : List Addr} {H : Hp} {p : Addr} {o u : HO} (hm : p ∈ M) (hu : H p = some u) (nt : ∀ xs, u ≠ .tup xs) (nb : ∀ ps, o ≠ .tbl ps := by exact fun _ z => nomatch z) : Stp M H (upd H p o) :=
  ⟨fun c v h n => by rw [upd_ne (fun z => n (by rw [z]; exact hm))]; exact h,
   fun c xs h => by rw [upd_ne (fun z => nt xs (by rw [z, hu] at h; exact Option.some.inj h))]; exact h, fun c ps h => by
    by_cases e : c = p
    · rw [e, upd_same] at h; exact absurd (Option.some.inj h) (nb ps)
    · rw [upd_ne e] at h; exact ⟨ps, h⟩⟩
theorem Stp.write {M : List Addr} {H H1 : Hp} {p : Addr} {o u : HO} (a : Stp M H H1) (hm : p ∈ M) (hu : H1 p = some u) (nt : ∀ xs, u ≠ .tup xs) (nb : ∀ ps, o ≠ .tbl ps := by exact fun _ z => nomatch z) : Stp M H (upd H1 p o) := a.trans (.wr hm hu nt nb)
/-- an object that was not yet there at H is written -/
theorem Stp.mut {M : List Addr} {H H1 : Hp} {p : Addr} {o : HO} (a : Stp M H H1) (n : H p = none) (nb : ∀ ps, o ≠ .tbl ps := by exact fun _ z => nomatch z) : Stp M H (upd H1 p o) :=
  ⟨fun c v h m => by rw [upd_ne (ne_of_none h n)]; exact a.keep c v h m, fun c xs h => by rw [upd_ne (ne_of_none h n)]; exact a.tups c xs h, fun c ps h => by
    by_cases e : c = p
    · rw [e, upd_same] at h; exact absurd (Option.some.inj h) (nb ps)
    · rw [upd_ne e] at h; exact a.tbls c ps h⟩
/-- what is free behind was free before -/
theorem Stp.free {M : List Addr} {H H1 : Hp} (a : Stp M H H1) {p : Addr} (n : H1 p = none) (hM : p ∉ M) : H p = none := by
  cases q : H p with
  | none => rfl
  | some o => rw [a.keep p o q hM] at n; cases n
theorem Stp.nil {H H1 : Hp} (a : Stp [] H H1) : Same H H1 := fun c o h => a.keep c o h (by simp)
theorem Stp.seq {M : List Addr} {H H1 : Hp} (a : Stp M H H1) {K : PySem.W.Frag} {p : Addr} {xs : List V} (h : SqL K H p xs) (n : p ∉ M) : SqL K H1 p xs := by
  rcases h with (h | ⟨o, h⟩) | h
  · exact .inl (.inl (a.keep _ _ h n))
  · exact .inl (.inr ⟨o, a.keep _ _ h n⟩)
  · exact .inr h
/-! ### readings, one step each -/
section
variable {σ : L2.St} {H : Hp} {Q : VK} {QT : Bool → Hp → Prop} {QA : List V → Hp → Prop} {D : Ends} {v x y : V} {te ta tb tc : TE} {tt tu : TT} {t u : TS} {K : PySem.W.Frag}
theorem i_var {i : Nat} (h : σ[i]? = some (some v)) (q : Q v H) : tVar i σ H Q := ⟨v, h, q⟩
theorem i_C (q : Q v H) : tC v σ H Q := q
theorem i_Yes (q : QT true H) : tYes σ H QT := q
theorem i_Op {r : R2} (q : ta σ H fun x H1 => tb σ H1 fun y H2 => r x y H2 Q) : tOp r ta tb σ H Q := q
theorem i_Un {r : V → Hp → VK → Prop} (q : ta σ H fun x H1 => r x H1 Q) : tUn r ta σ H Q := q
theorem i_I0 {g : Int → Int → V} {i j : Int} (q : Q (g i j) H) : rI0 g (.int i) (.int j) H Q := ⟨i, j, rfl, rfl, q⟩
theorem i_I {C : Int → Int → Prop} {g : Int → Int → V} {i j : Int} (c : C i j) (q : Q (g i j) H) : rI C g (.int i) (.int j) H Q := ⟨i, j, rfl, rfl, c, q⟩
theorem i_U {g : Int → V} {i : Int} (q : Q (g i) H) : rU g (.int i) H Q := ⟨i, rfl, q⟩
theorem i_Eq (s : scal x y = true) (q : Q (.bl (decide (x = y))) H) : rEq x y H Q := ⟨s, q⟩
theorem i_Ne (s : scal x y = true) (q : Q (.bl (!decide (x = y))) H) : rNe x y H Q := ⟨s, q⟩
theorem i_Test (q : te σ H fun x H' => ∃ k, x = .bl k ∧ QT k H') : tTest te σ H QT := q
theorem i_B (q : te σ H fun x H' => ∃ k, x = .bl k ∧ QT k H') : tB te σ H QT := q
theorem i_bl {k : Bool} (q : QT k H) : ∃ c, V.bl k = V.bl c ∧ QT c H := ⟨k, rfl, q⟩
theorem i_And (q : tt σ H fun c H1 => if c = true then tu σ H1 QT else QT false H1) : tAnd tt tu σ H QT := q
theorem i_Or (q : tt σ H fun c H1 => if c = true then QT true H1 else tu σ H1 QT) : tOr tt tu σ H QT := q
theorem i_Not (q : tt σ H fun c H1 => QT (!c) H1) : tNot tt σ H QT := q
theorem i_Nil (q : QA [] H) : tNil σ H QA := q
theorem i_Cons {tr : TA} (q : ta σ H fun x H1 => tr σ H1 fun xs H2 => QA (x :: xs) H2) : tCons ta tr σ H QA := q
theorem i_Seq (q : t { D with nx := u D } σ H) : tSeq t u D σ H := q
theorem i_Asg {g : TG} (q : te σ H fun x H1 => g x σ H1 D.nx) : tAsg te g D σ H := q
theorem i_Name {i : Nat} {Qs : L2.St → Hp → Prop} (q : Qs (σ.set i (some v)) H) : gName i v σ H Qs := q
theorem i_Ret (q : te σ H D.rt) : tRet te D σ H := q
theorem i_IfS (q : tt σ H fun b H1 => if b = true then t D σ H1 else u D σ H1) : tIfS tt t u D σ H := q
theorem i_Drop (q : te σ H fun _ H1 => D.nx σ H1) : tDrop te D σ H := q
theorem i_Next (q : D.nx σ H) : tNext D σ H := q
theorem i_If (q : tt σ H fun c H1 => if c = true then ta σ H1 Q else tb σ H1 Q) : tIf tt ta tb σ H Q := q
theorem i_Call {sp : Sp} {dvs : List V} {E : XK} {tr : TA} (q : tr σ H fun vs H1 => sp (vs ++ dvs) H1 Q E) : tCall sp dvs E tr σ H Q := q
theorem i_CB {r : List V → Hp → VK → Prop} {tr : TA} (q : tr σ H fun vs H1 => r vs H1 Q) : tCB r tr σ H Q := q
theorem i_ite {b : Bool} {A B : Prop} (h1 : b = true → A) (h2 : b = false → B) : if b = true then A else B := by
  cases b
  · exact h2 rfl
  · exact h1 rfl
theorem i_iteD {c : Prop} [Decidable c] {A B : Prop} (h1 : c → A) (h2 : ¬ c → B) : if decide c = true then A else B := by
  by_cases h : c
  · rw [if_pos (decide_eq_true h)]; exact h1 h
  · rw [if_neg (fun z => h (of_decide_eq_true z))]; exact h2 h
theorem i_iteN {c : Prop} [Decidable c] {A B : Prop} (h1 : ¬ c → A) (h2 : c → B) : if (!decide c) = true then A else B := by
  by_cases h : c
  · rw [if_neg (by simp [h])]; exact h2 h
  · rw [if_pos (by simp [h])]; exact h1 h
theorem i_IxL {p : Addr} {xs : List V} {i : Int} (s : SqL K H p xs) (e : atI xs i = some v) (q : Q v H) : rIxL K (.ref p) (.int i) H Q := ⟨p, xs, i, v, rfl, rfl, s, e, q⟩
theorem i_IxT {p : Addr} {xs : List V} {i : Int} (s : SqT K H p xs) (e : atI xs i = some v) (q : Q v H) : rIxT K (.ref p) (.int i) H Q := ⟨p, xs, i, v, rfl, rfl, s, e, q⟩
theorem i_IxS {z : Str} {i : Int} {c : Nat} (s : z.length ≤ sizeLine) (e : atI z.cps.toList i = some c) (q : Q (.str ⟨#[c]⟩) H) : rIxS (.str z) (.int i) H Q := ⟨z, i, c, rfl, rfl, s, e, q⟩
theorem i_gTup {n : Nat} {tg : TGs} {Qs : L2.St → Hp → Prop} {a : Addr} {xs : List V} (s : SqT K H a xs) (e : xs.length = n) (q : tg xs σ H Qs) : gTup K n tg (.ref a) σ H Qs := ⟨a, xs, rfl, s, e, q⟩
theorem i_gNil {Qs : L2.St → Hp → Prop} (q : Qs σ H) : gNil [] σ H Qs := ⟨rfl, q⟩
theorem i_gCons {g : TG} {tg : TGs} {Qs : L2.St → Hp → Prop} {r : List V} (q : g v σ H fun σ' H' => tg r σ' H' Qs) : gCons g tg (v :: r) σ H Qs := ⟨v, r, rfl, q⟩
theorem i_Tup {tr : TA} (h : tr σ H fun xs H1 => xs.length ≤ sizeLine ∧ ∀ p, H1 p = none → Q (.ref p) (upd H1 p (.tup xs))) : tTup tr σ H Q := h
theorem i_Lst {tr : TA} (h : tr σ H fun xs H1 => xs.length ≤ sizeLine ∧ ∀ p, H1 p = none → Q (.ref p) (upd H1 p (.lst xs))) : tLst tr σ H Q := h
/-- a new tuple, a new list: the heap behind told by what is known of it -/
theorem i_NewT {M : List Addr} {H0 : Hp} {xs : List V} (s : Stp M H0 H) (l : xs.length ≤ sizeLine) (q : ∀ p H1, H p = none → H1 p = some (.tup xs) → Stp [] H H1 → Stp M H0 H1 → Q (.ref p) H1) :
    xs.length ≤ sizeLine ∧ ∀ p, H p = none → Q (.ref p) (upd H p (.tup xs)) := ⟨l, fun p n => q p _ n upd_same (.new n) (s.add n)⟩
theorem i_NewL {M : List Addr} {H0 : Hp} {xs : List V} (s : Stp M H0 H) (l : xs.length ≤ sizeLine) (q : ∀ p H1, H p = none → H1 p = some (.lst xs) → Stp [] H H1 → Stp M H0 H1 → Q (.ref p) H1) :
    xs.length ≤ sizeLine ∧ ∀ p, H p = none → Q (.ref p) (upd H p (.lst xs)) := ⟨l, fun p n => q p _ n upd_same (.new n) (s.add n)⟩
theorem i_Sl {r : V → Option Int → Option Int → Hp → VK → Prop} {tl th : TO} (q : te σ H fun x H1 => tl σ H1 fun l H2 => th σ H2 fun u H3 => r x l u H3 Q) : tSl r te tl th σ H Q := q
theorem i_NoPart {QO : Option Int → Hp → Prop} (q : QO none H) : tNoPart σ H QO := q
theorem i_Part {QO : Option Int → Hp → Prop} (q : te σ H fun x H1 => ∃ i, x = .int i ∧ QO (some i) H1) : tPart te σ H QO := q
theorem i_intV {k : Int} {A : Int → Prop} (q : A k) : ∃ c, V.int k = V.int c ∧ A c := ⟨k, rfl, q⟩
theorem i_SlS {z : Str} {lo hi : Option Int} (s : z.length ≤ sizeLine) (q : Q (.str (cutS z lo hi)) H) : rSlS (.str z) lo hi H Q := ⟨z, rfl, s, q⟩
theorem i_SlL {a : Addr} {xs : List V} {lo hi : Option Int} (s : SqL K H a xs) (q : ∀ p, H p = none → Q (.ref p) (upd H p (.lst (cutV xs lo hi)))) : rSlL K (.ref a) lo hi H Q := ⟨a, xs, rfl, s, q⟩
theorem i_Par {i j : Nat} {tr : TA} (q : tr σ H fun vs H1 => ∃ v w, vs = [v, w] ∧ D.nx ((σ.set i (some v)).set j (some w)) H1) : tPar i j tr D σ H := q
theorem i_Aug {i : Nat} {ti : TIp} (h : σ[i]? = some (some x)) (q : te σ H fun y H1 => ti x y H1 fun z H2 => D.nx (σ.set i (some z)) H2) : tAug i te ti D σ H := ⟨x, h, q⟩
theorem i_Chain {r r' : R2} (q : ta σ H fun x H1 => tb σ H1 fun y H2 => r x y H2 fun z H3 => ∃ k, z = .bl k ∧ (if k = true then tc σ H3 fun w' H4 => r' y w' H4 Q else Q (.bl false) H3)) : tChain r r' ta tb tc σ H Q := q
theorem i_AndV (q : ta σ H fun x H1 => ∃ c, x = .bl c ∧ if c = true then tb σ H1 Q else Q (.bl false) H1) : tAndV ta tb σ H Q := q
theorem i_OrV (q : ta σ H fun x H1 => ∃ c, x = .bl c ∧ if c = true then Q (.bl true) H1 else tb σ H1 Q) : tOrV ta tb σ H Q := q
theorem i_NotV (q : ta σ H fun x H1 => ∃ c, x = .bl c ∧ Q (.bl (!c)) H1) : tNotV ta σ H Q := q
theorem i_blV {k : Bool} {A : Bool → Prop} (q : A k) : ∃ c, V.bl k = V.bl c ∧ A c := ⟨k, rfl, q⟩
theorem qbl {a b : Bool} (q : Q (.bl a) H) (e : a = b) : Q (.bl b) H := by rw [← e]; exact q
theorem qv (q : Q x H) (e : x = y) : Q y H := by rw [← e]; exact q
theorem i_BM {T : String} {r : V → List V → Hp → VK → Prop} {tr : TA} (q : te σ H fun x H1 => tyV K T x H1 ∧ tr σ H1 fun xs H2 => r x xs H2 Q) : tBM K T r te tr σ H Q := q
theorem i_BM0 {T : String} {r : V → List V → Hp → VK → Prop} (q : te σ H fun x H1 => tyV K T x H1 ∧ r x [] H1 Q) : tBM0 K T r te σ H Q := q
end
end GT
namespace GT
open PySem PySem.Spec PyProof.Rows L2
/-! ### defs and their calls -/
/-- a def of the text stands behind the top under its name -/
def Df (K : PySem.W.Frag) (mg : Str → Option Value) (d : He.DefD) : Prop :=
  ∃ (f : Addr) (fd : FuncData), FunD K d.name d.qual d.params d.body d.scope [] [] f fd ∧ mg d.name = some (.ref f)
/-- the name x is a def that keeps sp and raises nothing -/
def Cal (P : Program) (w : World) (K : PySem.W.Frag) (mg : Str → Option Value) (base : Heap) (k : Nat) (x : Str) (ps : List Str) (sp : Sp) : Prop :=
  ∃ (f : Addr) (fd : FuncData), FnOk P w K mg base CX0 k f fd ps sp ∧ mg x = some (.ref f) ∧ PySem.W.keepIn K (.ref f) = true ∧ Binds K fd ps []
/-- the built-ins that are used are still the built-ins -/
structure Blt (mg : Str → Option Value) : Prop where
  len : mg "len" = none
  int : mg "int" = none
  range : mg "range" = none
  isinstance : mg "isinstance" = none
  sorted : mg "sorted" = none
  list : mg "list" = none
  tuple : mg "tuple" = none
  dict : mg "dict" = none
  str : mg "str" = none
  bool : mg "bool" = none
  max : mg "max" = none
  min : mg "min" = none
  all : mg "all" = none
  any : mg "any" = none
  sum : mg "sum" = none
  ord : mg "ord" = none
  enumerate : mg "enumerate" = none
section
variable {X : Cx} {e : Expr} {es : List Expr} {t : TA} {x : Str} {p pos : Pos} {ps : List Str} {sp : Sp} {k : Nat}
theorem pc_call (C : Cal X.prog X.w X.K X.mg X.base k x ps sp) (hr : Room k X.A) (hg : Gl X x) (ha : PA X (e :: es) t)
    (hdb : (x == ("__debug__" : Str)) = false := by decide) (he : starEach (e :: es) X.env = (false, eval e X.env) :: starEach es X.env := by rfl) (hpl : (backTo pos (starEach es X.env)).any (·.1) = false := by rfl) :
    PE X (.Call (.Name x p) (e :: es) [] pos) (tCall sp [] E0 t) := by
  obtain ⟨f, fd, F, hm, hk, hb⟩ := C
  exact pe_call F hr hg hm hk hb .nil pass0 ha hdb he hpl
end
end GT
namespace GT
open PySem PySem.Spec PyProof.Rows L2
section
variable {X : Cx} {x : Str} {pos : Pos}
theorem pe_gi {i : Int} (hg : Gl X x) (hm : ∃ t, X.mg x = some (.int i t)) (hd : (x == ("__debug__" : Str)) = false := by decide) : PE X (.Name x pos) (tC (.int i)) := by
  obtain ⟨t, hm⟩ := hm
  exact pe_glob hg hm ⟨t, rfl⟩ hd
theorem pe_gs {z : Str} (hg : Gl X x) (hm : ∃ t, X.mg x = some (.str z t)) (hd : (x == ("__debug__" : Str)) = false := by decide) : PE X (.Name x pos) (tC (.str z)) := by
  obtain ⟨t, hm⟩ := hm
  exact pe_glob hg hm ⟨t, rfl⟩ hd
theorem pe_gt {a : Addr} (hg : Gl X x) (hm : X.mg x = some (.ref a)) (hd : (x == ("__debug__" : Str)) = false := by decide) : PE X (.Name x pos) (tC (.ref a)) := pe_glob hg hm rfl hd
end
end GT
namespace GT
open PySem PySem.Spec PyProof.Rows L2
/-! ### parts that only reckon: their value at once -/
def Vl (te : TE) (σ : L2.St) (H : Hp) (v : V) : Prop := ∀ Q : VK, Q v H → te σ H Q
def Tl (tt : TT) (σ : L2.St) (H : Hp) (b : Bool) : Prop := ∀ Q : Bool → Hp → Prop, Q b H → tt σ H Q
section
variable {σ : L2.St} {H : Hp} {Q : VK} {QT : Bool → Hp → Prop} {v x y : V} {te ta tb tc : TE} {tt tu : TT} {a b : Bool} {i j k : Int}
theorem vl_var {n : Nat} (h : σ[n]? = some (some v)) : Vl (tVar n) σ H v := fun _ q => ⟨v, h, q⟩
theorem vl_c : Vl (tC v) σ H v := fun _ q => q
theorem vl_I0 {g : Int → Int → V} (ha : Vl ta σ H (.int i)) (hb : Vl tb σ H (.int j)) : Vl (tOp (rI0 g) ta tb) σ H (g i j) := fun _ q => ha _ (hb _ ⟨i, j, rfl, rfl, q⟩)
theorem vl_I {C : Int → Int → Prop} {g : Int → Int → V} (ha : Vl ta σ H (.int i)) (hb : Vl tb σ H (.int j)) (c : C i j) : Vl (tOp (rI C g) ta tb) σ H (g i j) := fun _ q => ha _ (hb _ ⟨i, j, rfl, rfl, c, q⟩)
theorem vl_U {g : Int → V} (ha : Vl ta σ H (.int i)) : Vl (tUn (rU g) ta) σ H (g i) := fun _ q => ha _ ⟨i, rfl, q⟩
theorem vl_eq (ha : Vl ta σ H x) (hb : Vl tb σ H y) (s : scal x y = true) : Vl (tOp rEq ta tb) σ H (.bl (decide (x = y))) := fun _ q => ha _ (hb _ ⟨s, q⟩)
theorem vl_ne (ha : Vl ta σ H x) (hb : Vl tb σ H y) (s : scal x y = true) : Vl (tOp rNe ta tb) σ H (.bl (!decide (x = y))) := fun _ q => ha _ (hb _ ⟨s, q⟩)
theorem vl_and (ha : Vl ta σ H (.bl a)) (hb : Vl tb σ H (.bl b)) : Vl (tAndV ta tb) σ H (.bl (a && b)) := fun _ q => ha _ ⟨a, rfl, by
  cases a
  · exact q
  · exact hb _ q⟩
theorem vl_or (ha : Vl ta σ H (.bl a)) (hb : Vl tb σ H (.bl b)) : Vl (tOrV ta tb) σ H (.bl (a || b)) := fun _ q => ha _ ⟨a, rfl, by
  cases a
  · exact hb _ q
  · exact q⟩
theorem vl_not (ha : Vl ta σ H (.bl a)) : Vl (tNotV ta) σ H (.bl (!a)) := fun _ q => ha _ ⟨a, rfl, q⟩
theorem vl_chain {p p' : Int → Int → Bool} (ha : Vl ta σ H (.int i)) (hb : Vl tb σ H (.int j)) (hc : Vl tc σ H (.int k)) :
    Vl (tChain (rI0 fun i j => .bl (p i j)) (rI0 fun i j => .bl (p' i j)) ta tb tc) σ H (.bl (p i j && p' j k)) := fun Q q => ha _ (hb _ ⟨i, j, rfl, rfl, _, rfl, by
  show if p i j = true then _ else _
  cases e : p i j
  · rw [e] at q; exact q
  · rw [e] at q; exact hc _ ⟨j, k, rfl, rfl, q⟩⟩)
theorem vl_ifx (ht : Tl tt σ H a) (ha : Vl ta σ H x) (hb : Vl tb σ H y) : Vl (tIf tt ta tb) σ H (if a = true then x else y) := fun Q q => ht _ (by
  cases a
  · exact hb _ q
  · exact ha _ q)
theorem tl_test (h : Vl te σ H (.bl b)) : Tl (tTest te) σ H b := fun _ q => h _ ⟨b, rfl, q⟩
theorem tl_B (h : Vl te σ H (.bl b)) : Tl (tB te) σ H b := fun _ q => h _ ⟨b, rfl, q⟩
theorem tl_and (h1 : Tl tt σ H a) (h2 : Tl tu σ H b) : Tl (tAnd tt tu) σ H (a && b) := fun _ q => h1 _ (by
  cases a
  · exact q
  · exact h2 _ q)
theorem tl_or (h1 : Tl tt σ H a) (h2 : Tl tu σ H b) : Tl (tOr tt tu) σ H (a || b) := fun _ q => h1 _ (by
  cases a
  · exact h2 _ q
  · exact q)
theorem tl_not (h1 : Tl tt σ H a) : Tl (tNot tt) σ H (!a) := fun _ q => h1 _ q
/-- a reading whose parts only reckon -/
theorem p_AndV (h : Vl (tAndV ta tb) σ H v) (q : Q v H) : tAndV ta tb σ H Q := h Q q
theorem p_OrV (h : Vl (tOrV ta tb) σ H v) (q : Q v H) : tOrV ta tb σ H Q := h Q q
theorem p_Chain {r r' : R2} (h : Vl (tChain r r' ta tb tc) σ H v) (q : Q v H) : tChain r r' ta tb tc σ H Q := h Q q
theorem p_If (h : Vl (tIf tt ta tb) σ H v) (q : Q v H) : tIf tt ta tb σ H Q := h Q q
theorem p_And (h : Tl (tAnd tt tu) σ H b) (q : QT b H) : tAnd tt tu σ H QT := h QT q
theorem p_Or (h : Tl (tOr tt tu) σ H b) (q : QT b H) : tOr tt tu σ H QT := h QT q
/-- behind a first part that does more -/
theorem j_and {c : Bool} {A : Prop} (h : Vl tb σ H (.bl b)) (e : Q (.bl false) H → A) (q : Q (.bl (c && b)) H) : if c = true then tb σ H Q else A := by
  cases c
  · exact e q
  · exact h _ q
theorem j_or {c : Bool} {A : Prop} (h : Vl tb σ H (.bl b)) (e : Q (.bl true) H → A) (q : Q (.bl (c || b)) H) : if c = true then A else tb σ H Q := by
  cases c
  · exact h _ q
  · exact e q
end
end GT

/-! ## data: None, bools, whole numbers, texts, tuples and lists of such; how they stand in a heap; == of them -/
namespace GT
open PySem PySem.Spec PyProof.Rows L2
inductive Dt where
  | non
  | bl (b : Bool)
  | num (i : Int)
  | txt (x : Str)
  | tup (ds : List Dt)
  | lst (ds : List Dt)
namespace Dt
mutual
/-- == of Python -/
def beq : Dt → Dt → Bool
  | .non, .non => true
  | .bl a, .bl b => a == b
  | .bl a, .num j => (if a then 1 else 0) == j
  | .num i, .bl b => i == (if b then 1 else 0)
  | .num a, .num b => decide (a = b)
  | .txt a, .txt b => decide (a = b)
  | .tup a, .tup b => beqAll a b
  | .lst a, .lst b => beqAll a b
  | .non, .bl _ | .non, .num _ | .non, .txt _ | .non, .tup _ | .non, .lst _ => false
  | .bl _, .non | .bl _, .txt _ | .bl _, .tup _ | .bl _, .lst _ => false
  | .num _, .non | .num _, .txt _ | .num _, .tup _ | .num _, .lst _ => false
  | .txt _, .non | .txt _, .bl _ | .txt _, .num _ | .txt _, .tup _ | .txt _, .lst _ => false
  | .tup _, .non | .tup _, .bl _ | .tup _, .num _ | .tup _, .txt _ | .tup _, .lst _ => false
  | .lst _, .non | .lst _, .bl _ | .lst _, .num _ | .lst _, .txt _ | .lst _, .tup _ => false
def beqAll : List Dt → List Dt → Bool
  | [], [] => true
  | a :: as, b :: bs => beq a b && beqAll as bs
  | [], _ :: _ => false
  | _ :: _, [] => false
end
mutual
theorem beq_self : ∀ a : Dt, beq a a = true
  | .non => rfl
  | .bl a => by simp [beq]
  | .num a => by simp [beq]
  | .txt a => by simp [beq]
  | .tup a => by rw [beq]; exact beqAll_self a
  | .lst a => by rw [beq]; exact beqAll_self a
theorem beqAll_self : ∀ a : List Dt, beqAll a a = true
  | [] => rfl
  | a :: as => by rw [beqAll, beq_self a, beqAll_self as]; rfl
end
mutual
def depth : Dt → Nat
  | .non => 0
  | .bl _ => 0
  | .num _ => 0
  | .txt _ => 0
  | .tup ks => depthAll ks + 1
  | .lst ks => depthAll ks + 1
def depthAll : List Dt → Nat
  | [] => 0
  | k :: ks => max (depth k) (depthAll ks)
end
mutual
/-- no list and no bool within -/
def flat : Dt → Bool
  | .non => true
  | .bl _ => false
  | .num _ => true
  | .txt _ => true
  | .tup ks => flatAll ks
  | .lst _ => false
def flatAll : List Dt → Bool
  | [] => true
  | k :: ks => flat k && flatAll ks
end
mutual
/-- as a key of a dict -/
def key : Dt → NestedKey
  | .non => .none
  | .bl b => .num (if b then 1 else 0)
  | .num i => .num i
  | .txt x => .text x
  | .tup ks => .tup (keys ks)
  | .lst _ => .none
def keys : List Dt → List NestedKey
  | [] => []
  | k :: ks => key k :: keys ks
end
mutual
/-- without bools: == is equality -/
def pure : Dt → Bool
  | .bl _ => false
  | .tup ks => pureAll ks
  | .lst ks => pureAll ks
  | _ => true
def pureAll : List Dt → Bool
  | [] => true
  | k :: ks => pure k && pureAll ks
end
mutual
theorem eq_of_beq : ∀ a b : Dt, pure a = true → pure b = true → beq a b = true → a = b
  | .non, .non, _, _, _ => rfl
  | .num a, .num b, _, _, h => by simp only [beq, decide_eq_true_eq] at h; rw [h]
  | .txt a, .txt b, _, _, h => by simp only [beq, decide_eq_true_eq] at h; rw [h]
  | .tup a, .tup b, pa, pb, h => by rw [beq] at h; rw [pure] at pa pb; rw [eq_of_beqAll a b pa pb h]
  | .lst a, .lst b, pa, pb, h => by rw [beq] at h; rw [pure] at pa pb; rw [eq_of_beqAll a b pa pb h]
  | .bl _, _, p, _, _ => by simp [pure] at p
  | _, .bl _, _, p, _ => by simp [pure] at p
  | .non, .num _, _, _, h | .non, .txt _, _, _, h | .non, .tup _, _, _, h | .non, .lst _, _, _, h => by simp [beq] at h
  | .num _, .non, _, _, h | .num _, .txt _, _, _, h | .num _, .tup _, _, _, h | .num _, .lst _, _, _, h => by simp [beq] at h
  | .txt _, .non, _, _, h | .txt _, .num _, _, _, h | .txt _, .tup _, _, _, h | .txt _, .lst _, _, _, h => by simp [beq] at h
  | .tup _, .non, _, _, h | .tup _, .num _, _, _, h | .tup _, .txt _, _, _, h | .tup _, .lst _, _, _, h => by simp [beq] at h
  | .lst _, .non, _, _, h | .lst _, .num _, _, _, h | .lst _, .txt _, _, _, h | .lst _, .tup _, _, _, h => by simp [beq] at h
theorem eq_of_beqAll : ∀ a b : List Dt, pureAll a = true → pureAll b = true → beqAll a b = true → a = b
  | [], [], _, _, _ => rfl
  | a :: as, b :: bs, pa, pb, h => by
    rw [beqAll, Bool.and_eq_true] at h
    rw [pureAll, Bool.and_eq_true] at pa pb
    rw [eq_of_beq a b pa.1 pb.1 h.1, eq_of_beqAll as bs pa.2 pb.2 h.2]
  | [], _ :: _, _, _, h => by simp [beqAll] at h
  | _ :: _, [], _, _, h => by simp [beqAll] at h
end
theorem beq_iff {a b : Dt} (pa : pure a = true) (pb : pure b = true) : beq a b = true ↔ a = b := ⟨eq_of_beq a b pa pb, fun e => by rw [e]; exact beq_self b⟩
end Dt
abbrev Dt.eqAt2 (xs ys : List Dt) (j : Nat) : Bool := Dt.beq (xs.getD j .non) (ys.getD j .non)
theorem Dt.beqAll_eq : ∀ xs ys : List Dt, ((List.range (min xs.length ys.length)).all (Dt.eqAt2 xs ys) && xs.length == ys.length) = Dt.beqAll xs ys
  | [], [] => rfl
  | [], _ :: _ => by simp [Dt.beqAll]
  | _ :: _, [] => by simp [Dt.beqAll]
  | x :: xs, y :: ys => by
    have ih := Dt.beqAll_eq xs ys
    have e1 : min (x :: xs).length (y :: ys).length = min xs.length ys.length + 1 := by simp only [List.length_cons]; omega
    have e2 : ((x :: xs).length == (y :: ys).length) = (xs.length == ys.length) := by simp
    have e3 : (List.range (min xs.length ys.length + 1)).all (Dt.eqAt2 (x :: xs) (y :: ys)) = (Dt.beq x y && (List.range (min xs.length ys.length)).all (Dt.eqAt2 xs ys)) := by
      rw [List.range_succ_eq_map, List.all_cons, List.all_map]
      first | rfl | simp [Dt.eqAt2, Function.comp_def]
    rw [e1, e2, e3, Dt.beqAll, ← ih, Bool.and_assoc]
theorem Dt.beqAll_other : ∀ xs ys : List Dt, xs.length ≠ ys.length → Dt.beqAll xs ys = false := fun xs ys h => by
  rw [← Dt.beqAll_eq, show (xs.length == ys.length) = false from beq_eq_false_iff_ne.mpr h, Bool.and_false]
theorem Dt.beqAll_same (xs ys : List Dt) (h : xs.length = ys.length) : (List.range xs.length).all (Dt.eqAt2 xs ys) = Dt.beqAll xs ys := by
  rw [← Dt.beqAll_eq, ← h, Nat.min_self]
  simp
/-! ### in a heap of the model -/
mutual
inductive DtIs (h : Heap) : Dt → Value → Prop
  | non : DtIs h .non .none
  | bl (b) : DtIs h (.bl b) (.bool b)
  | num (i t) : DtIs h (.num i) (.int i t)
  | txt (x t) : DtIs h (.txt x) (.str x t)
  | tup {a vs ks} : h.IsTuple a vs → DtAll h ks vs.toList → DtIs h (.tup ks) (.ref a)
  | lst {a vs ks} : h.IsList a vs → DtAll h ks vs.toList → DtIs h (.lst ks) (.ref a)
inductive DtAll (h : Heap) : List Dt → List Value → Prop
  | nil : DtAll h [] []
  | cons {k v ks vs} : DtIs h k v → DtAll h ks vs → DtAll h (k :: ks) (v :: vs)
end
theorem DtAll.length {h : Heap} : ∀ (ks : List Dt) (vs : List Value), DtAll h ks vs → vs.length = ks.length
  | [], _, r => by cases r; rfl
  | _ :: ks, _, r => by
    cases r with
    | cons _ r' => simp [DtAll.length ks _ r']
theorem ne_list_tuple {h : Heap} {a : Addr} {vs ws : Array Value} (h1 : h.IsList a vs) (h2 : h.IsTuple a ws) : False := by
  obtain ⟨o, e, c, _⟩ := h1
  obtain ⟨o', e', c', _⟩ := h2
  rw [e] at e'; cases e'
  rw [c] at c'
  injection c' with c'
  exact absurd c' (by decide)
mutual
theorem DtIs.inj {h : Heap} : ∀ (x y : Dt) (v : Value), DtIs h x v → DtIs h y v → x = y
  | .non, _, _, hx, hy => by cases hx; cases hy; rfl
  | .bl _, _, _, hx, hy => by cases hx; cases hy; rfl
  | .num i, _, _, hx, hy => by cases hx; cases hy; rfl
  | .txt x, _, _, hx, hy => by cases hx; cases hy; rfl
  | .tup ks, _, _, hx, hy => by
    cases hx with
    | tup h1 h4 =>
      cases hy with
      | tup k1 k4 =>
        obtain ⟨o, e, c, n, d⟩ := h1
        obtain ⟨o', e', c', n', d'⟩ := k1
        rw [e] at e'; cases e'
        rw [d] at d'; cases d'
        rw [DtAll.inj ks _ _ h4 k4]
      | lst k1 k4 => exact (ne_list_tuple k1 h1).elim
  | .lst ks, _, _, hx, hy => by
    cases hx with
    | lst h1 h4 =>
      cases hy with
      | lst k1 k4 =>
        obtain ⟨o, e, c, n, d⟩ := h1
        obtain ⟨o', e', c', n', d'⟩ := k1
        rw [e] at e'; cases e'
        rw [d] at d'; cases d'
        rw [DtAll.inj ks _ _ h4 k4]
      | tup k1 k4 => exact (ne_list_tuple h1 k1).elim
theorem DtAll.inj {h : Heap} : ∀ (xs ys : List Dt) (vs : List Value), DtAll h xs vs → DtAll h ys vs → xs = ys
  | [], _, _, hx, hy => by cases hx; cases hy; rfl
  | x :: xs, _, _, hx, hy => by
    cases hx with
    | cons h1 h2 =>
      cases hy with
      | cons k1 k2 => rw [DtIs.inj x _ _ h1 k1, DtAll.inj xs _ _ h2 k2]
end
section
open SeqAt
theorem dt_here {n a b : Nat} (h : n + min (a + 1) (b + 1) < cLine) : n < cLine := by omega
theorem dt_in {A : Around} {a b : Nat} (h : A.units + min (a + 1) (b + 1) < cLine) : A.in1.units + min a b < cLine := by rw [Around.in1_units]; omega
mutual
theorem eqAt_dt : ∀ (x y : Dt) (A : Around) (s : Shared) (a b : Value), DtIs s.heap x a → DtIs s.heap y b → A.units + 1 + min x.depth y.depth < cLine → EqAt A s a b (Dt.beq x y)
  | .non, _, A, s, _, _, ra, rb, hu => by
    cases ra
    cases rb with
    | non => exact EqAt.same _
    | bl y => exact EqAt.none_bool _
    | num y u => exact EqAt.none_int y u
    | txt y u => exact EqAt.none_str y u
    | tup k1 k4 => exact EqAt.none_tuple k1 (by omega)
    | lst k1 k4 => exact EqAt.none_list k1 (by omega)
  | .bl x, _, A, s, _, _, ra, rb, hu => by
    cases ra
    cases rb with
    | non => exact EqAt.bool_none x
    | bl y => exact (EqAt.bool_bool x y).cast rfl
    | num y u => exact (EqAt.bool_int x y u).cast rfl
    | txt y u => exact EqAt.bool_str x y u
    | tup k1 k4 => exact EqAt.bool_tuple x k1 (by omega)
    | lst k1 k4 => exact EqAt.bool_list x k1 (by omega)
  | .num i, _, A, s, _, _, ra, rb, hu => by
    cases ra with
    | num _ t =>
      cases rb with
      | non => exact EqAt.int_none i t
      | bl y => exact (EqAt.int_bool i t y).cast rfl
      | num y u => exact (EqAt.int_int i t y u).cast rfl
      | txt y u => exact EqAt.int_str i t y u
      | tup k1 k4 => exact EqAt.int_tuple i t k1 (by omega)
      | lst k1 k4 => exact EqAt.int_list i t k1 (by omega)
  | .txt x, _, A, s, _, _, ra, rb, hu => by
    cases ra with
    | txt _ t =>
      cases rb with
      | non => exact EqAt.str_none x t
      | bl y => exact EqAt.str_bool x t y
      | num y u => exact EqAt.str_int x t y u
      | txt y u => exact (EqAt.str_str x t y u).cast rfl
      | tup k1 k4 => exact EqAt.str_tuple x t k1 (by omega)
      | lst k1 k4 => exact EqAt.str_list x t k1 (by omega)
  | .tup xs, _, A, s, _, _, ra, rb, hu => by
    cases ra with
    | @tup l vs _ hl h4 =>
      cases rb with
      | non => exact EqAt.tuple_none hl (by omega)
      | bl y => exact EqAt.tuple_bool y hl (by omega)
      | num y u => exact EqAt.tuple_int y u hl (by omega)
      | txt y u => exact EqAt.tuple_str y u hl (by omega)
      | lst k1 k4 => exact EqAt.tuple_list hl k1 (by omega)
      | @tup l' vs' ys hl' k4 =>
        by_cases hll : l = l'
        · subst hll
          obtain ⟨o, e, c, n, d⟩ := hl
          obtain ⟨o', e', c', n', d'⟩ := hl'
          rw [e] at e'; cases e'
          rw [d] at d'; cases d'
          rw [← DtAll.inj xs ys _ h4 k4, Dt.beq, Dt.beqAll_self]
          exact EqAt.same _
        · have n1 : vs.size = xs.length := by simpa using DtAll.length _ _ h4
          have n2 : vs'.size = ys.length := by simpa using DtAll.length _ _ k4
          show EqAt A s (.ref l) (.ref l') (Dt.beqAll xs ys)
          rw [← Dt.beqAll_eq xs ys, ← n1, ← n2]
          refine EqAt.of_refs hll (RcAt.tuples hl hl' (by omega) fun j j1 j2 => ?_)
          have := eqAt_dts xs ys A.in1 s vs.toList vs'.toList h4 k4 (by simp only [Dt.depth] at hu; rw [Around.in1_units]; omega) j (by simpa using j1) (by simpa using j2)
          simpa using this
  | .lst xs, _, A, s, _, _, ra, rb, hu => by
    cases ra with
    | @lst l vs _ hl h4 =>
      cases rb with
      | non => exact EqAt.list_none hl (by omega)
      | bl y => exact EqAt.list_bool y hl (by omega)
      | num y u => exact EqAt.list_int y u hl (by omega)
      | txt y u => exact EqAt.list_str y u hl (by omega)
      | tup k1 k4 => exact EqAt.list_tuple hl k1 (by omega)
      | @lst l' vs' ys hl' k4 =>
        by_cases hll : l = l'
        · subst hll
          obtain ⟨o, e, c, n, d⟩ := hl
          obtain ⟨o', e', c', n', d'⟩ := hl'
          rw [e] at e'; cases e'
          rw [d] at d'; cases d'
          rw [← DtAll.inj xs ys _ h4 k4, Dt.beq, Dt.beqAll_self]
          exact EqAt.same _
        · have n1 : vs.size = xs.length := by simpa using DtAll.length _ _ h4
          have n2 : vs'.size = ys.length := by simpa using DtAll.length _ _ k4
          show EqAt A s (.ref l) (.ref l') (Dt.beqAll xs ys)
          by_cases hsz : vs.size = vs'.size
          · rw [← Dt.beqAll_same xs ys (by omega), ← n1]
            refine EqAt.of_refs hll (RcAt.lists hl hl' hsz (by omega) fun j j1 j2 => ?_)
            have := eqAt_dts xs ys A.in1 s vs.toList vs'.toList h4 k4 (by simp only [Dt.depth] at hu; rw [Around.in1_units]; omega) j (by simpa using j1) (by simpa using j2)
            simpa using this
          · rw [Dt.beqAll_other xs ys (by omega)]
            exact EqAt.of_refs hll (RcAt.lists_lengths hl hl' (by simpa using hsz) (by omega))
theorem eqAt_dts : ∀ (xs ys : List Dt) (A : Around) (s : Shared) (vs ws : List Value), DtAll s.heap xs vs → DtAll s.heap ys ws →
    A.units + 1 + min (Dt.depthAll xs) (Dt.depthAll ys) < cLine → ∀ j (h1 : j < vs.length) (h2 : j < ws.length), EqAt A s vs[j] ws[j] (Dt.eqAt2 xs ys j)
  | [], _, _, _, _, _, ra, _, _, j, h1, _ => by cases ra; exact absurd h1 (Nat.not_lt_zero _)
  | _ :: _, [], _, _, _, _, _, rb, _, j, _, h2 => by cases rb; exact absurd h2 (Nat.not_lt_zero _)
  | x :: xs, y :: ys, A, s, _, _, ra, rb, hu, j, h1, h2 => by
    cases ra with
    | cons r rs =>
      cases rb with
      | cons r' rs' =>
        simp only [Dt.depthAll] at hu
        cases j with
        | zero => exact eqAt_dt x y A s _ _ r r' (by omega)
        | succ j => exact eqAt_dts xs ys A s _ _ rs rs' (by omega) j (Nat.lt_of_succ_lt_succ h1) (Nat.lt_of_succ_lt_succ h2)
end
end
end GT

namespace GT
open PySem PySem.Spec PyProof.Rows L2
section
open SeqAt
theorem rcAt_dt {x y : Dt} {A : Around} {s : Shared} {a b : Value} (ra : DtIs s.heap x a) (rb : DtIs s.heap y b) (hu : A.units + 1 + min x.depth y.depth < cLine) : RcAt A s a b (Dt.beq x y) := by
  cases ra with
  | non =>
    cases rb with
    | non => exact RcAt.none_none
    | bl y => exact RcAt.none_bool y
    | num y u => exact RcAt.none_int y u
    | txt y u => exact RcAt.none_str y u
    | tup k1 k4 => exact RcAt.none_tuple k1 (by omega)
    | lst k1 k4 => exact RcAt.none_list k1 (by omega)
  | bl x =>
    cases rb with
    | non => exact RcAt.bool_none x
    | bl y => exact RcAt.bool_bool x y
    | num y u => exact RcAt.bool_int x y u
    | txt y u => exact RcAt.bool_str x y u
    | tup k1 k4 => exact RcAt.bool_tuple x k1 (by omega)
    | lst k1 k4 => exact RcAt.bool_list x k1 (by omega)
  | num x t =>
    cases rb with
    | non => exact RcAt.int_none x t
    | bl y => exact RcAt.int_bool x t y
    | num y u => exact RcAt.int_int x t y u
    | txt y u => exact RcAt.int_str x t y u
    | tup k1 k4 => exact RcAt.int_tuple x t k1 (by omega)
    | lst k1 k4 => exact RcAt.int_list x t k1 (by omega)
  | txt x t =>
    cases rb with
    | non => exact RcAt.str_none x t
    | bl y => exact RcAt.str_bool x t y
    | num y u => exact RcAt.str_int x t y u
    | txt y u => exact RcAt.str_str x t y u
    | tup k1 k4 => exact RcAt.str_tuple x t k1 (by omega)
    | lst k1 k4 => exact RcAt.str_list x t k1 (by omega)
  | @tup l vs xs hl h4 =>
    cases rb with
    | non => exact RcAt.tuple_none hl (by omega)
    | bl y => exact RcAt.tuple_bool y hl (by omega)
    | num y u => exact RcAt.tuple_int y u hl (by omega)
    | txt y u => exact RcAt.tuple_str y u hl (by omega)
    | lst k1 k4 => exact RcAt.tuple_list hl k1 (by omega)
    | @tup l' vs' ys hl' k4 =>
      have n1 : vs.size = xs.length := by simpa using DtAll.length _ _ h4
      have n2 : vs'.size = ys.length := by simpa using DtAll.length _ _ k4
      show RcAt A s (.ref l) (.ref l') (Dt.beqAll xs ys)
      rw [← Dt.beqAll_eq xs ys, ← n1, ← n2]
      refine RcAt.tuples hl hl' (by omega) fun j j1 j2 => ?_
      have := eqAt_dts xs ys A.in1 s vs.toList vs'.toList h4 k4 (by simp only [Dt.depth] at hu; rw [Around.in1_units]; omega) j (by simpa using j1) (by simpa using j2)
      simpa using this
  | @lst l vs xs hl h4 =>
    cases rb with
    | non => exact RcAt.list_none hl (by omega)
    | bl y => exact RcAt.list_bool y hl (by omega)
    | num y u => exact RcAt.list_int y u hl (by omega)
    | txt y u => exact RcAt.list_str y u hl (by omega)
    | tup k1 k4 => exact RcAt.list_tuple hl k1 (by omega)
    | @lst l' vs' ys hl' k4 =>
      have n1 : vs.size = xs.length := by simpa using DtAll.length _ _ h4
      have n2 : vs'.size = ys.length := by simpa using DtAll.length _ _ k4
      show RcAt A s (.ref l) (.ref l') (Dt.beqAll xs ys)
      by_cases hsz : vs.size = vs'.size
      · rw [← Dt.beqAll_same xs ys (by omega), ← n1]
        refine RcAt.lists hl hl' hsz (by omega) fun j j1 j2 => ?_
        have := eqAt_dts xs ys A.in1 s vs.toList vs'.toList h4 k4 (by simp only [Dt.depth] at hu; rw [Around.in1_units]; omega) j (by simpa using j1) (by simpa using j2)
        simpa using this
      · rw [Dt.beqAll_other xs ys (by omega)]
        exact RcAt.lists_lengths hl hl' (by simpa using hsz) (by omega)
theorem rcNeAt_dt {x y : Dt} {A : Around} {s : Shared} {a b : Value} (ra : DtIs s.heap x a) (rb : DtIs s.heap y b) (hu : A.units + 1 + min x.depth y.depth < cLine) : RcNeAt A s a b (!Dt.beq x y) := by
  cases ra with
  | non =>
    cases rb with
    | non => exact RcNeAt.none_none
    | bl y => exact RcNeAt.none_bool y
    | num y u => exact RcNeAt.none_int y u
    | txt y u => exact RcNeAt.none_str y u
    | tup k1 k4 => exact RcNeAt.none_tuple k1 (by omega)
    | lst k1 k4 => exact RcNeAt.none_list k1 (by omega)
  | bl x =>
    cases rb with
    | non => exact RcNeAt.bool_none x
    | bl y => exact RcNeAt.bool_bool x y
    | num y u => exact RcNeAt.bool_int x y u
    | txt y u => exact RcNeAt.bool_str x y u
    | tup k1 k4 => exact RcNeAt.bool_tuple x k1 (by omega)
    | lst k1 k4 => exact RcNeAt.bool_list x k1 (by omega)
  | num x t =>
    cases rb with
    | non => exact RcNeAt.int_none x t
    | bl y => exact RcNeAt.int_bool x t y
    | num y u => exact RcNeAt.int_int x t y u
    | txt y u => exact RcNeAt.int_str x t y u
    | tup k1 k4 => exact RcNeAt.int_tuple x t k1 (by omega)
    | lst k1 k4 => exact RcNeAt.int_list x t k1 (by omega)
  | txt x t =>
    cases rb with
    | non => exact RcNeAt.str_none x t
    | bl y => exact RcNeAt.str_bool x t y
    | num y u => exact RcNeAt.str_int x t y u
    | txt y u => exact RcNeAt.str_str x t y u
    | tup k1 k4 => exact RcNeAt.str_tuple x t k1 (by omega)
    | lst k1 k4 => exact RcNeAt.str_list x t k1 (by omega)
  | @tup l vs xs hl h4 =>
    cases rb with
    | non => exact RcNeAt.tuple_none hl (by omega)
    | bl y => exact RcNeAt.tuple_bool y hl (by omega)
    | num y u => exact RcNeAt.tuple_int y u hl (by omega)
    | txt y u => exact RcNeAt.tuple_str y u hl (by omega)
    | lst k1 k4 => exact RcNeAt.tuple_list hl k1 (by omega)
    | @tup l' vs' ys hl' k4 =>
      have n1 : vs.size = xs.length := by simpa using DtAll.length _ _ h4
      have n2 : vs'.size = ys.length := by simpa using DtAll.length _ _ k4
      show RcNeAt A s (.ref l) (.ref l') (!Dt.beqAll xs ys)
      rw [← Dt.beqAll_eq xs ys, ← n1, ← n2]
      refine RcNeAt.tuples hl hl' (by omega) fun j j1 j2 => ?_
      have := eqAt_dts xs ys A.in1 s vs.toList vs'.toList h4 k4 (by simp only [Dt.depth] at hu; rw [Around.in1_units]; omega) j (by simpa using j1) (by simpa using j2)
      simpa using this
  | @lst l vs xs hl h4 =>
    cases rb with
    | non => exact RcNeAt.list_none hl (by omega)
    | bl y => exact RcNeAt.list_bool y hl (by omega)
    | num y u => exact RcNeAt.list_int y u hl (by omega)
    | txt y u => exact RcNeAt.list_str y u hl (by omega)
    | tup k1 k4 => exact RcNeAt.list_tuple hl k1 (by omega)
    | @lst l' vs' ys hl' k4 =>
      have n1 : vs.size = xs.length := by simpa using DtAll.length _ _ h4
      have n2 : vs'.size = ys.length := by simpa using DtAll.length _ _ k4
      show RcNeAt A s (.ref l) (.ref l') (!Dt.beqAll xs ys)
      by_cases hsz : vs.size = vs'.size
      · rw [← Dt.beqAll_same xs ys (by omega), ← n1]
        refine RcNeAt.lists hl hl' hsz (by omega) fun j j1 j2 => ?_
        have := eqAt_dts xs ys A.in1 s vs.toList vs'.toList h4 k4 (by simp only [Dt.depth] at hu; rw [Around.in1_units]; omega) j (by simpa using j1) (by simpa using j2)
        simpa using this
      · rw [Dt.beqAll_other xs ys (by omega)]
        exact RcNeAt.lists_lengths hl hl' (by simpa using hsz) (by omega)
end
/-! ### in the abstract heap -/
/-- a tuple that never changes: tracked, or of the written part -/
def TupAt (K : PySem.W.Frag) (H : Hp) (a : Addr) (xs : List V) : Prop :=
  H a = some (.tup xs) ∨ ∃ (o : Obj) (its : Array Value) (n : Nat), K.lookup a = some o ∧ o.cls = .type "tuple" ∧ o.data = .seq its n ∧ its.size ≤ sizeLine ∧ Vals xs its.toList
mutual
inductive DtAt (K : PySem.W.Frag) (H : Hp) : V → Dt → Prop
  | non : DtAt K H .non .non
  | bl (b : Bool) : DtAt K H (.bl b) (.bl b)
  | num (i : Int) : DtAt K H (.int i) (.num i)
  | txt (x : Str) : DtAt K H (.str x) (.txt x)
  | tup {a : Addr} {xs : List V} {ds : List Dt} : TupAt K H a xs → DtsAt K H xs ds → DtAt K H (.ref a) (.tup ds)
  | lst {a : Addr} {xs : List V} {ds : List Dt} : SqL K H a xs → DtsAt K H xs ds → DtAt K H (.ref a) (.lst ds)
inductive DtsAt (K : PySem.W.Frag) (H : Hp) : List V → List Dt → Prop
  | nil : DtsAt K H [] []
  | cons {v : V} {vs : List V} {d : Dt} {ds : List Dt} : DtAt K H v d → DtsAt K H vs ds → DtsAt K H (v :: vs) (d :: ds)
end
section
variable {K : PySem.W.Frag} {H H1 : Hp} {M : List Addr}
theorem TupAt.stp {a : Addr} {xs : List V} (h : TupAt K H a xs) (s : Stp M H H1) : TupAt K H1 a xs := by
  rcases h with h | h
  · exact .inl (s.tups _ _ h)
  · exact .inr h
theorem TupAt.sqt {a : Addr} {xs : List V} (h : TupAt K H a xs) : SqT K H a xs := by
  rcases h with h | h
  · exact .inl (.inl h)
  · exact .inr h
mutual
/-- data without lists stay whatever is changed -/
theorem DtAt.stp (s : Stp M H H1) : ∀ (d : Dt) (v : V), d.flat = true → DtAt K H v d → DtAt K H1 v d
  | .non, _, _, h => by cases h; exact .non
  | .bl _, _, f, h => by simp [Dt.flat] at f
  | .num _, _, _, h => by cases h; exact .num _
  | .txt _, _, _, h => by cases h; exact .txt _
  | .tup ds, _, f, h => by
    cases h with
    | tup h1 h2 => exact .tup (h1.stp s) (DtsAt.stp s ds _ (by simpa [Dt.flat] using f) h2)
  | .lst _, _, f, _ => by simp [Dt.flat] at f
theorem DtsAt.stp (s : Stp M H H1) : ∀ (ds : List Dt) (vs : List V), Dt.flatAll ds = true → DtsAt K H vs ds → DtsAt K H1 vs ds
  | [], _, _, h => by cases h; exact .nil
  | d :: ds, _, f, h => by
    cases h with
    | cons h1 h2 =>
      simp only [Dt.flatAll, Bool.and_eq_true] at f
      exact .cons (DtAt.stp s d _ f.1 h1) (DtsAt.stp s ds _ f.2 h2)
end
theorem DtsAt.length : ∀ {vs : List V} {ds : List Dt}, DtsAt K H vs ds → vs.length = ds.length
  | _, _, .nil => rfl
  | _, _, .cons _ t => by simp [DtsAt.length t]
theorem DtsAt.get : ∀ {vs : List V} {ds : List Dt} {i : Nat} {d : Dt}, DtsAt K H vs ds → ds[i]? = some d → ∃ v, vs[i]? = some v ∧ DtAt K H v d
  | _, _, _, _, .nil, e => by simp at e
  | _, _, 0, _, .cons r _, e => by simp at e; subst e; exact ⟨_, rfl, r⟩
  | _, _, i + 1, d, .cons _ t, e => by
    obtain ⟨v, h1, h2⟩ := DtsAt.get (i := i) (d := d) t (by simpa using e)
    exact ⟨v, by simpa using h1, h2⟩
theorem DtsAt.getV : ∀ {vs : List V} {ds : List Dt} {i : Nat} {v : V}, DtsAt K H vs ds → vs[i]? = some v → ∃ d, ds[i]? = some d ∧ DtAt K H v d
  | _, _, _, _, .nil, e => by simp at e
  | _, _, 0, _, .cons r _, e => by simp at e; subst e; exact ⟨_, rfl, r⟩
  | _, _, i + 1, v, .cons _ t, e => by
    obtain ⟨d, h1, h2⟩ := DtsAt.getV (i := i) (v := v) t (by simpa using e)
    exact ⟨d, by simpa using h1, h2⟩
theorem DtsAt.append : ∀ {vs ws : List V} {ds es : List Dt}, DtsAt K H vs ds → DtsAt K H ws es → DtsAt K H (vs ++ ws) (ds ++ es)
  | _, _, _, _, .nil, s => s
  | _, _, _, _, .cons r t, s => .cons r (DtsAt.append t s)
theorem DtsAt.snoc {vs : List V} {ds : List Dt} {v : V} {d : Dt} (r : DtsAt K H vs ds) (h : DtAt K H v d) : DtsAt K H (vs ++ [v]) (ds ++ [d]) := r.append (.cons h .nil)
end
section
variable {X : Cx} {pins : List (Addr × Obj)} {σ : L2.St} {H : Hp} {s : Shared}
mutual
theorem DtAt.is (I : Inv X pins σ H s) : ∀ (d : Dt) (v : V) (u : Value), DtAt X.K H v d → RelV v u → DtIs s.heap d u
  | .non, _, _, h, r => by cases h; cases r; exact .non
  | .bl b, _, _, h, r => by cases h; cases r; exact .bl b
  | .num i, _, _, h, r => by cases h; obtain ⟨t, rfl⟩ := r; exact .num i t
  | .txt x, _, _, h, r => by cases h; obtain ⟨t, rfl⟩ := r; exact .txt x t
  | .tup ds, _, _, h, r => by
    cases h with
    | tup h1 h2 =>
      cases r
      obtain ⟨its, rv, ht, _⟩ := I.tuple h1.sqt
      exact .tup ht (by simpa using DtsAt.is I ds _ its h2 rv)
  | .lst ds, _, _, h, r => by
    cases h with
    | lst h1 h2 =>
      cases r
      obtain ⟨its, rv, ht, _⟩ := I.list h1
      exact .lst ht.isList (by simpa using DtsAt.is I ds _ its h2 rv)
theorem DtsAt.is (I : Inv X pins σ H s) : ∀ (ds : List Dt) (vs : List V) (us : List Value), DtsAt X.K H vs ds → Vals vs us → DtAll s.heap ds us
  | [], _, _, h, r => by cases h; cases r; exact .nil
  | d :: ds, _, _, h, r => by
    cases h with
    | cons h1 h2 =>
      cases r with
      | cons r1 r2 => exact .cons (DtAt.is I d _ _ h1 r1) (DtsAt.is I ds _ _ h2 r2)
end
end
section
variable {X : Cx}
def rEqT (K : PySem.W.Frag) : R2 := fun x y H Q => ∃ d e, DtAt K H x d ∧ DtAt K H y e ∧ d.depth ≤ 60 ∧ e.depth ≤ 60 ∧ Q (.bl (Dt.beq d e)) H
def rNeT (K : PySem.W.Frag) : R2 := fun x y H Q => ∃ d e, DtAt K H x d ∧ DtAt K H y e ∧ d.depth ≤ 60 ∧ e.depth ≤ 60 ∧ Q (.bl (!Dt.beq d e)) H
theorem op_eqT (hu : X.A.units + 64 < cLine) : OpR X (compareOp .Eq) (rEqT X.K) := by
  intro pins s σ H x y v u Q I rx ry h
  obtain ⟨d, e, hd, he, sd, se, q⟩ := h
  exact rcAt_dt (DtAt.is I d x v hd rx) (DtAt.is I e y u he ry) (by omega) _ _ _ _ ⟨.bl _, H, I, rfl, q⟩
theorem op_neT (hu : X.A.units + 64 < cLine) : OpR X (compareOp .NotEq) (rNeT X.K) := by
  intro pins s σ H x y v u Q I rx ry h
  obtain ⟨d, e, hd, he, sd, se, q⟩ := h
  exact rcNeAt_dt (DtAt.is I d x v hd rx) (DtAt.is I e y u he ry) (by omega) _ _ _ _ ⟨.bl _, H, I, rfl, q⟩
open Classical in
/-- a value's datum -/
noncomputable def datOf (h : Heap) (v : Value) : Dt := if e : ∃ d, DtIs h d v then e.choose else .non
theorem datOf_eq {h : Heap} {v : Value} {d : Dt} (r : DtIs h d v) : datOf h v = d := by
  unfold datOf
  have e : ∃ d, DtIs h d v := ⟨d, r⟩
  rw [dif_pos e]
  exact DtIs.inj _ _ v e.choose_spec r
theorem DtAll.mem {h : Heap} : ∀ {ds : List Dt} {vs : List Value} {v : Value}, DtAll h ds vs → v ∈ vs → ∃ d ∈ ds, DtIs h d v
  | _, _, _, .nil, e => nomatch e
  | _, _, _, .cons r t, e => by
    rcases List.mem_cons.mp e with e | e
    · subst e; exact ⟨_, List.mem_cons_self, r⟩
    · obtain ⟨d, h1, h2⟩ := DtAll.mem t e
      exact ⟨d, List.mem_cons_of_mem _ h1, h2⟩
theorem Dt.depth_mem : ∀ {ds : List Dt} {d : Dt}, d ∈ ds → d.depth ≤ Dt.depthAll ds
  | _ :: _, _, e => by
    rcases List.mem_cons.mp e with e | e
    · subst e; simp only [Dt.depthAll]; omega
    · have := Dt.depth_mem e; simp only [Dt.depthAll]; omega
def rInT (K : PySem.W.Frag) : R2 := fun x y H Q => ∃ d ds, DtAt K H x d ∧ DtAt K H y (.lst ds) ∧ d.depth ≤ 60 ∧ Dt.depthAll ds ≤ 60 ∧ Q (.bl (ds.any fun z => Dt.beq z d)) H
def rNotInT (K : PySem.W.Frag) : R2 := fun x y H Q => ∃ d ds, DtAt K H x d ∧ DtAt K H y (.lst ds) ∧ d.depth ≤ 60 ∧ Dt.depthAll ds ≤ 60 ∧ Q (.bl (!ds.any fun z => Dt.beq z d)) H
theorem any_items {h : Heap} {e : Dt} {ds : List Dt} {vs : Array Value} (r : DtAll h ds vs.toList) : (vs.any fun v => Dt.beq (datOf h v) e) = ds.any fun d => Dt.beq d e := by
  rw [← Array.any_toList]
  generalize hl : vs.toList = l at r
  clear hl
  induction l generalizing ds with
  | nil => cases r; rfl
  | cons v l ih =>
    cases r with
    | cons r1 r2 => rw [List.any_cons, List.any_cons, datOf_eq r1, ih r2]
theorem op_inT (hu : X.A.units + 64 < cLine) : OpR X (compareOp .In) (rInT X.K) := by
  intro pins s σ H x y v u Q I rx ry h
  obtain ⟨d, ds, hd, he, sd, se, q⟩ := h
  have r1 := DtAt.is I d x v hd rx
  have r2 := DtAt.is I (.lst ds) y u he ry
  cases r2 with
  | @lst a vs _ h1 h4 =>
    refine SeqAt.in_listAt (fun w => Dt.beq (datOf s.heap w) d) h1 (fun w hw => ?_) ?_
    · obtain ⟨c, hc, rc⟩ := DtAll.mem h4 (Array.mem_def.mp hw)
      rw [datOf_eq rc]
      have hc2 := Dt.depth_mem hc
      exact eqAt_dt c d X.A.in1 s _ _ rc r1 (by rw [Around.in1_units]; omega)
    · rw [any_items h4]
      exact ⟨.bl _, H, I, rfl, q⟩
theorem op_notInT (hu : X.A.units + 64 < cLine) : OpR X (compareOp .NotIn) (rNotInT X.K) := by
  intro pins s σ H x y v u Q I rx ry h
  obtain ⟨d, ds, hd, he, sd, se, q⟩ := h
  have r1 := DtAt.is I d x v hd rx
  have r2 := DtAt.is I (.lst ds) y u he ry
  cases r2 with
  | @lst a vs _ h1 h4 =>
    refine SeqAt.notIn_listAt (fun w => Dt.beq (datOf s.heap w) d) h1 (fun w hw => ?_) ?_
    · obtain ⟨c, hc, rc⟩ := DtAll.mem h4 (Array.mem_def.mp hw)
      rw [datOf_eq rc]
      have hc2 := Dt.depth_mem hc
      exact eqAt_dt c d X.A.in1 s _ _ rc r1 (by rw [Around.in1_units]; omega)
    · rw [any_items h4]
      exact ⟨.bl _, H, I, rfl, q⟩
end
end GT
namespace GT
open PySem PySem.Spec PyProof.Rows L2
/-! ### isinstance of data -/
def Dt.ty : Dt → String
  | .non => "NoneType"
  | .bl _ => "bool"
  | .num _ => "int"
  | .txt _ => "str"
  | .tup _ => "tuple"
  | .lst _ => "list"
theorem tyx_dt {K : PySem.W.Frag} {H : Hp} {v : V} {d : Dt} (h : DtAt K H v d) : TyX K H v (.type d.ty) := by
  cases h with
  | non => exact .base .non
  | bl b => exact .base (.bl b)
  | num i => exact .base (.int i)
  | txt x => exact .base (.str x)
  | tup h1 h2 =>
    rcases h1 with h1 | ⟨o, its, n, e, c, _⟩
    · exact .base (.tup h1)
    · exact .kTuple e c
  | lst h1 h2 =>
    rcases h1 with (h1 | ⟨o, h1⟩) | ⟨o, its, n, e, c, _⟩
    · exact .base (.lst h1)
    · exact .base (.frz h1)
    · exact .kList e c
theorem i_Isi {K : PySem.W.Frag} {H : Hp} {Q : VK} {v : V} {n : String} {d : Dt} (T : String) (b : Bool) (h : DtAt K H v d) (q : Q (.bl b) H) (hT : d.ty = T := by rfl) (e : kitB T n = some b := by decide +kernel) : rIsi K [v, .ty n] H Q :=
  ⟨v, .ty n, _, _, b, rfl, .ty n, tyx_dt h, kit_ty (by rw [hT]; exact e), q⟩
theorem i_EqT {K : PySem.W.Frag} {H : Hp} {Q : VK} {x y : V} {d e : Dt} (hd : DtAt K H x d) (he : DtAt K H y e) (q : Q (.bl (Dt.beq d e)) H) (h1 : d.depth ≤ 60 := by first | decide | (simp [Dt.depth, Dt.depthAll]; done) | omega) (h2 : e.depth ≤ 60 := by first | decide | (simp [Dt.depth, Dt.depthAll]; done) | omega) : rEqT K x y H Q := ⟨d, e, hd, he, h1, h2, q⟩
theorem i_NeT {K : PySem.W.Frag} {H : Hp} {Q : VK} {x y : V} {d e : Dt} (hd : DtAt K H x d) (he : DtAt K H y e) (q : Q (.bl (!Dt.beq d e)) H) (h1 : d.depth ≤ 60 := by first | decide | (simp [Dt.depth, Dt.depthAll]; done) | omega) (h2 : e.depth ≤ 60 := by first | decide | (simp [Dt.depth, Dt.depthAll]; done) | omega) : rNeT K x y H Q := ⟨d, e, hd, he, h1, h2, q⟩
end GT

/-! ## dicts whose keys are tuples, nested ones too -/
namespace GT
open PySem PySem.Spec PyProof.Rows L2
/-! ### data without lists as keys -/
mutual
theorem Dt.depth_key : ∀ d : Dt, d.flat = true → (Dt.key d).depth = d.depth
  | .non, _ => rfl
  | .bl _, f => by simp [Dt.flat] at f
  | .num _, _ => rfl
  | .txt _, _ => rfl
  | .tup ds, f => by
    simp only [Dt.flat] at f
    simp only [Dt.key, NestedKey.depth, Dt.depth, Dt.depth_keys ds f]
  | .lst _, f => by simp [Dt.flat] at f
theorem Dt.depth_keys : ∀ ds : List Dt, Dt.flatAll ds = true → NestedKey.depthAll (Dt.keys ds) = Dt.depthAll ds
  | [], _ => rfl
  | d :: ds, f => by
    simp only [Dt.flatAll, Bool.and_eq_true] at f
    simp only [Dt.keys, NestedKey.depthAll, Dt.depthAll, Dt.depth_key d f.1, Dt.depth_keys ds f.2]
end
mutual
theorem DtIs.nested {h : Heap} : ∀ (d : Dt) (v : Value), d.flat = true → DtIs h d v → NestedIs h d.key v
  | .non, _, _, r => by cases r; exact .none
  | .bl _, _, f, _ => by simp [Dt.flat] at f
  | .num _, _, _, r => by cases r; exact .int _ _
  | .txt _, _, _, r => by cases r; exact .text _ _
  | .tup ds, _, f, r => by
    cases r with
    | tup h1 h2 =>
      obtain ⟨o, e, c, n, dd⟩ := h1
      exact .tup e c dd (DtAll.nested ds _ (by simpa [Dt.flat] using f) h2)
  | .lst _, _, f, _ => by simp [Dt.flat] at f
theorem DtAll.nested {h : Heap} : ∀ (ds : List Dt) (vs : List Value), Dt.flatAll ds = true → DtAll h ds vs → NestedAll h (Dt.keys ds) vs
  | [], _, _, r => by cases r; exact .nil
  | d :: ds, _, f, r => by
    cases r with
    | cons r1 r2 =>
      simp only [Dt.flatAll, Bool.and_eq_true] at f
      exact .cons (DtIs.nested d _ f.1 r1) (DtAll.nested ds _ f.2 r2)
end
mutual
theorem Dt.key_inj : ∀ a b : Dt, a.flat = true → b.flat = true → a.key = b.key → a = b
  | .non, .non, _, _, _ => rfl
  | .num a, .num b, _, _, h => by simp only [Dt.key, NestedKey.num.injEq] at h; rw [h]
  | .txt a, .txt b, _, _, h => by simp only [Dt.key, NestedKey.text.injEq] at h; rw [h]
  | .tup a, .tup b, fa, fb, h => by
    simp only [Dt.key, NestedKey.tup.injEq] at h
    rw [Dt.keys_inj a b (by simpa [Dt.flat] using fa) (by simpa [Dt.flat] using fb) h]
  | .bl _, _, f, _, _ | .lst _, _, f, _, _ => by simp [Dt.flat] at f
  | _, .bl _, _, f, _ | _, .lst _, _, f, _ => by simp [Dt.flat] at f
  | .non, .num _, _, _, h | .non, .txt _, _, _, h | .non, .tup _, _, _, h => by simp [Dt.key] at h
  | .num _, .non, _, _, h | .num _, .txt _, _, _, h | .num _, .tup _, _, _, h => by simp [Dt.key] at h
  | .txt _, .non, _, _, h | .txt _, .num _, _, _, h | .txt _, .tup _, _, _, h => by simp [Dt.key] at h
  | .tup _, .non, _, _, h | .tup _, .num _, _, _, h | .tup _, .txt _, _, _, h => by simp [Dt.key] at h
theorem Dt.keys_inj : ∀ a b : List Dt, Dt.flatAll a = true → Dt.flatAll b = true → Dt.keys a = Dt.keys b → a = b
  | [], [], _, _, _ => rfl
  | a :: as, b :: bs, fa, fb, h => by
    simp only [Dt.keys, List.cons.injEq] at h
    simp only [Dt.flatAll, Bool.and_eq_true] at fa fb
    rw [Dt.key_inj a b fa.1 fb.1 h.1, Dt.keys_inj as bs fa.2 fb.2 h.2]
  | [], _ :: _, _, _, h => by simp [Dt.keys] at h
  | _ :: _, [], _, _, h => by simp [Dt.keys] at h
end
/-- the value y is the key k -/
def KyAt (K : PySem.W.Frag) (H : Hp) (y : V) (k : NestedKey) : Prop := ∃ d : Dt, d.flat = true ∧ d.key = k ∧ d.depth ≤ 8 ∧ DtAt K H y d
theorem KyAt.of {K : PySem.W.Frag} {H : Hp} {y : V} {d : Dt} (h : DtAt K H y d) (f : d.flat = true := by rfl) (n : d.depth ≤ 8 := by first | decide | (simp [Dt.depth, Dt.depthAll]; done)) : KyAt K H y d.key := ⟨d, f, rfl, n, h⟩
theorem KyAt.stp {K : PySem.W.Frag} {M : List Addr} {H H1 : Hp} {y : V} {k : NestedKey} (h : KyAt K H y k) (s : Stp M H H1) : KyAt K H1 y k :=
  let ⟨d, f, e, n, x⟩ := h; ⟨d, f, e, n, DtAt.stp s d y f x⟩
theorem KyAt.is {X : Cx} {pins : List (Addr × Obj)} {σ : L2.St} {H : Hp} {s : Shared} {a : Addr} {k : NestedKey} (I : Inv X pins σ H s) (h : KyAt X.K H (.ref a) k) : (nestedKind X.prog X.w).is s.heap k a := by
  obtain ⟨d, f, e, n, x⟩ := h
  have r := DtIs.nested d _ f (DtAt.is I d _ _ x (show RelV (.ref a) (.ref a) from rfl))
  rw [e] at r
  exact ⟨r, by rw [← e, Dt.depth_key d f]; exact n⟩
/-! ### the object -/
section
variable (P : Program) (w : World)
abbrev NdRel : List (NestedKey × Addr × V) → List (NestedKey × Addr × Value) → Prop := Paired fun p q => p.1 = q.1 ∧ p.2.1 = q.2.1 ∧ RelV p.2.2 q.2.2
def NdRaw (d : Addr) (xs : List (NestedKey × Addr × V)) (h : Heap) : Prop :=
  xs.length ≤ sizeLine ∧ (d == sysModules) = false ∧ ∃ ys : List (NestedKey × Addr × Value), NdRel xs ys ∧
    ∃ o es ep, h.get? d = some o ∧ o.ExactDict ∧ o.data = .dict es ep ∧ es.toList = ys.map (entryOfKey (nestedKind P w)) ∧ (ys.map (·.1)).Nodup
/-- a dict, its entries in order: key, the key's tuple, value -/
def ndO (d : Addr) (xs : List (NestedKey × Addr × V)) : HO := .ext (NdRaw P w d xs)
end
section
variable {P : Program} {w : World} {d : Addr} {xs : List (NestedKey × Addr × V)} {H : Hp} {h : Heap}
theorem ndO_ok (x : NdRaw P w d xs h) : ObjOk P w H h d (ndO P w d xs) := by
  refine ⟨x, ?_, fun h1 h2 y k => ?_⟩
  · obtain ⟨_, _, ys, _, o, es, ep, e, _⟩ := x
    exact ⟨o, e⟩
  · obtain ⟨z, hd, ys, r, o, es, ep, e, q⟩ := y
    exact ⟨z, hd, ys, r, o, es, ep, k o e, q⟩
theorem ndO_of {o : HO} (x : ObjOk P w H h d (ndO P w d xs)) : NdRaw P w d xs h := x.1
end
/-! ### entries by their keys -/
abbrev NKV := NestedKey × V
def plainX (xs : List (NestedKey × Addr × V)) : List NKV := xs.map fun x => (x.1, x.2.2)
theorem plainX_len (xs : List (NestedKey × Addr × V)) : (plainX xs).length = xs.length := by simp [plainX]
def putX (xs : List (NestedKey × Addr × V)) (k : NestedKey) (a : Addr) (v : V) : List (NestedKey × Addr × V) :=
  if (xs.any fun x => decide (x.1 = k)) = true then xs.map (fun x => if x.1 = k then (x.1, x.2.1, v) else x) else xs ++ [(k, a, v)]
theorem plainX_put (xs : List (NestedKey × Addr × V)) (k : NestedKey) (a : Addr) (v : V) : plainX (putX xs k a v) = putK (plainX xs) k v := by
  unfold putX putK plainX
  have e : ((xs.map fun x => ((x.1, x.2.2) : NKV)).any fun kv => decide (kv.1 = k)) = xs.any fun x => decide (x.1 = k) := by
    rw [List.any_map]; rfl
  rw [e]
  split
  · rw [List.map_map, List.map_map]
    refine List.map_congr_left fun x _ => ?_
    by_cases h : x.1 = k <;> simp [h]
  · simp
theorem putX_mem {xs : List (NestedKey × Addr × V)} {k : NestedKey} {a : Addr} {v : V} {x : NestedKey × Addr × V} (h : x ∈ putX xs k a v) : (x.1 = k ∧ x.2.1 = a) ∨ ∃ y ∈ xs, y.1 = x.1 ∧ y.2.1 = x.2.1 := by
  unfold putX at h
  split at h
  · obtain ⟨y, hy, e⟩ := List.mem_map.mp h
    refine .inr ⟨y, hy, ?_⟩
    by_cases q : y.1 = k
    · rw [if_pos q] at e; rw [← e]; exact ⟨rfl, rfl⟩
    · rw [if_neg q] at e; rw [← e]; exact ⟨rfl, rfl⟩
  · rcases List.mem_append.mp h with h | h
    · exact .inr ⟨x, h, rfl, rfl⟩
    · rw [List.mem_singleton] at h
      rw [h]; exact .inl ⟨rfl, rfl⟩
theorem NdRel.val {xs : List (NestedKey × Addr × V)} {ys : List (NestedKey × Addr × Value)} (r : NdRel xs ys) (k : NestedKey) : RelO (valV (plainX xs) k) ((atKey ys k).map (·.2)) := by
  induction r with
  | nil => exact True.intro
  | @cons p q ps qs h t ih =>
    obtain ⟨h1, _, h2⟩ := h
    by_cases e : p.1 = k
    · have e' : q.1 = k := h1.symm.trans e
      have b : atKey (q :: qs) k = some q.2 := by simp [atKey, List.find?_cons, e']
      have c : valV (plainX (p :: ps)) k = some p.2.2 := valV_pos (p := (p.1, p.2.2)) e
      rw [c, b]; exact h2
    · have e' : ¬ q.1 = k := fun z => e (h1.trans z)
      have b : atKey (q :: qs) k = atKey qs k := by simp [atKey, List.find?_cons, e']
      have c : valV (plainX (p :: ps)) k = valV (plainX ps) k := valV_neg (p := (p.1, p.2.2)) e
      rw [c, b]; exact ih
theorem NdRel.any {xs : List (NestedKey × Addr × V)} {ys : List (NestedKey × Addr × Value)} (r : NdRel xs ys) (k : NestedKey) : (xs.any fun x => decide (x.1 = k)) = (atKey ys k).isSome := by
  have h := (r.val k).isSome_eq
  rw [Option.isSome_map] at h
  rw [← h, ← valV_any]
  show _ = (plainX xs).any _
  unfold plainX
  rw [List.any_map]; rfl
theorem NdRel.repl {xs : List (NestedKey × Addr × V)} {ys : List (NestedKey × Addr × Value)} (r : NdRel xs ys) (k : NestedKey) {v : V} {u : Value} (rv : RelV v u) : NdRel (xs.map fun x => if x.1 = k then (x.1, x.2.1, v) else x) (ys.map (putAt k u)) := by
  induction r with
  | nil => exact .nil
  | @cons p q ps qs h t ih =>
    rw [List.map_cons, List.map_cons]
    refine .cons ?_ ih
    obtain ⟨h1, h2, h3⟩ := h
    unfold putAt
    by_cases e : p.1 = k
    · rw [if_pos e, if_pos (h1.symm.trans e)]; exact ⟨h1, h2, rv⟩
    · rw [if_neg e, if_neg (fun z => e (h1.trans z))]; exact ⟨h1, h2, h3⟩
theorem NdRel.put {xs : List (NestedKey × Addr × V)} {ys : List (NestedKey × Addr × Value)} (r : NdRel xs ys) (k : NestedKey) {a : Addr} {v : V} {u : Value} (rv : RelV v u) : NdRel (putX xs k a v) (storedH ys k a u) := by
  unfold putX storedH
  rw [r.any k]
  by_cases q : (atKey ys k).isSome = true
  · rw [if_pos q, if_pos q]; exact r.repl k rv
  · rw [if_neg q, if_neg q]; exact Paired.snoc r ⟨rfl, rfl, rv⟩
theorem putX_len (xs : List (NestedKey × Addr × V)) (k : NestedKey) (a : Addr) (v : V) : (putX xs k a v).length ≤ xs.length + 1 := by
  have h := length_putK (plainX xs) k v
  rw [← plainX_put xs k a v, plainX_len, plainX_len] at h
  exact h
/-! ### what is known of a dict -/
/-- the entries xs have their keys' tuples where they say -/
def KeysAt (K : PySem.W.Frag) (H : Hp) (xs : List (NestedKey × Addr × V)) : Prop := ∀ x ∈ xs, KyAt K H (.ref x.2.1) x.1
theorem KeysAt.stp {K : PySem.W.Frag} {M : List Addr} {H H1 : Hp} {xs : List (NestedKey × Addr × V)} (h : KeysAt K H xs) (s : Stp M H H1) : KeysAt K H1 xs := fun x hx => (h x hx).stp s
theorem KeysAt.put {K : PySem.W.Frag} {H : Hp} {xs : List (NestedKey × Addr × V)} {k : NestedKey} {a : Addr} {v : V} (h : KeysAt K H xs) (ha : KyAt K H (.ref a) k) : KeysAt K H (putX xs k a v) := fun x hx => by
  rcases putX_mem hx with ⟨e1, e2⟩ | ⟨y, hy, e1, e2⟩
  · rw [e1, e2]; exact ha
  · rw [← e1, ← e2]; exact h y hy
/-- a dict that is ours: may be read and written -/
def ND (P : Program) (w : World) (K : PySem.W.Frag) (H : Hp) (d : Addr) (kvs : List NKV) : Prop := ∃ xs, H d = some (ndO P w d xs) ∧ KeysAt K H xs ∧ plainX xs = kvs
/-- .. while it is walked -/
def NDF (P : Program) (w : World) (K : PySem.W.Frag) (H : Hp) (d : Addr) (o : Obj) (kvs : List NKV) : Prop := ∃ xs, H d = some (.frz o (ndO P w d xs)) ∧ KeysAt K H xs ∧ plainX xs = kvs
/-- .. either -/
def NDR (P : Program) (w : World) (K : PySem.W.Frag) (H : Hp) (d : Addr) (kvs : List NKV) : Prop := ∃ xs, Rd H d (ndO P w d xs) ∧ KeysAt K H xs ∧ plainX xs = kvs
section
variable {P : Program} {w : World} {K : PySem.W.Frag} {H H1 : Hp} {M : List Addr} {d : Addr} {kvs : List NKV} {o : Obj}
theorem ND.r (h : ND P w K H d kvs) : NDR P w K H d kvs := let ⟨xs, e, q⟩ := h; ⟨xs, .inl e, q⟩
theorem NDF.r (h : NDF P w K H d o kvs) : NDR P w K H d kvs := let ⟨xs, e, q⟩ := h; ⟨xs, .inr ⟨o, e⟩, q⟩
theorem ND.stp (h : ND P w K H d kvs) (s : Stp M H H1) (n : d ∉ M) : ND P w K H1 d kvs := let ⟨xs, e, k, q⟩ := h; ⟨xs, s.keep _ _ e n, k.stp s, q⟩
theorem NDF.stp (h : NDF P w K H d o kvs) (s : Stp M H H1) (n : d ∉ M) : NDF P w K H1 d o kvs := let ⟨xs, e, k, q⟩ := h; ⟨xs, s.keep _ _ e n, k.stp s, q⟩
theorem ND.there (h : ND P w K H d kvs) : ∃ u, H d = some u ∧ ∀ xs, u ≠ .tup xs := let ⟨xs, e, _⟩ := h; ⟨_, e, fun _ z => nomatch z⟩
end
section
variable {X : Cx} {pins : List (Addr × Obj)} {σ : L2.St} {H : Hp} {s : Shared} {d a : Addr} {k : NestedKey} {kvs : List NKV} {v : V} {u : Value} {A : Around} {E : Value → Shared → Prop} {xs : List (NestedKey × Addr × V)}
theorem nd_raw (I : Inv X pins σ H s) (e : Rd H d (ndO X.prog X.w d xs)) (hk : KeysAt X.K H xs) : xs.length ≤ sizeLine ∧ (d == sysModules) = false ∧ ∃ ys, NdRel xs ys ∧ s.heap.DictOfH (nestedKind X.prog X.w) d ys := by
  obtain ⟨z, hd, ys, r, o, es, ep, h1, h2, h3, h4, h5⟩ := (ndO_of (o := ndO X.prog X.w d xs) (e.ok I.hok))
  refine ⟨z, hd, ys, r, o, es, ep, h1, h2, h3, h4, ?_, h5⟩
  have all : ∀ {l : List (NestedKey × Addr × V)} {m : List (NestedKey × Addr × Value)}, NdRel l m → KeysAt X.K H l → ∀ x ∈ m, (nestedKind X.prog X.w).is s.heap x.1 x.2.1 := by
    intro l m q
    induction q with
    | nil => intro _ x hx; exact nomatch hx
    | @cons p q ps qs hq t ih =>
      intro ha x hx
      rcases List.mem_cons.mp hx with e | hx
      · subst e
        rw [← hq.1, ← hq.2.1]
        exact (ha p List.mem_cons_self).is I
      · exact ih (fun y hy => ha y (List.mem_cons_of_mem _ hy)) x hx
  exact all r hk
theorem nd_room (hu : A.units + 9 < cLine) : (nestedKind X.prog X.w).room A.in1 := by
  show A.in1.units + 8 < cLine
  rw [Around.in1_units]; omega
theorem nd_getItem {Q : Value → Shared → Prop} (hu : A.units + 9 < cLine) (I : Inv X pins σ H s) (g : NDR X.prog X.w X.K H d kvs) (hk : KyAt X.K H (.ref a) k) (hv : valV kvs k = some v) (h : ∀ w' s', Inv X pins σ H s' → RelV v w' → Q w' s') :
    wpAny (model X.prog X.w) A (getItem (.ref d) (.ref a)) Q E s := by
  obtain ⟨xs, e, ks, rfl⟩ := g
  obtain ⟨z, hd, ys, rel, dd⟩ := nd_raw I e ks
  obtain ⟨w', hw, rw'⟩ := RelO.some_of (v := v) (o := (atKey ys k).map (·.2)) (by rw [← hv]; exact rel.val k)
  obtain ⟨p, hp, hp2⟩ := Option.map_eq_some_iff.mp hw
  refine wpAny_getItem_heap (nd_room hu) (hk.is I) dd hp ?_
  rw [hp2]
  exact h w' _ (I.tok _) rw'
theorem nd_in {Q : Value → Shared → Prop} (hu : A.units + 9 < cLine) (I : Inv X pins σ H s) (g : NDR X.prog X.w X.K H d kvs) (hk : KyAt X.K H (.ref a) k) (h : ∀ s', Inv X pins σ H s' → Q (.bool (valV kvs k).isSome) s') :
    wpAny (model X.prog X.w) A (compareOp .In (.ref a) (.ref d)) Q E s := by
  obtain ⟨xs, e, ks, rfl⟩ := g
  obtain ⟨z, hd, ys, rel, dd⟩ := nd_raw I e ks
  refine wpAny_in_heap (nd_room hu) (hk.is I) hd dd ?_
  have q := (rel.val k).isSome_eq
  rw [Option.isSome_map] at q
  rw [← q]
  exact h _ (I.tok _)
theorem nd_notIn {Q : Value → Shared → Prop} (hu : A.units + 9 < cLine) (I : Inv X pins σ H s) (g : NDR X.prog X.w X.K H d kvs) (hk : KyAt X.K H (.ref a) k) (h : ∀ s', Inv X pins σ H s' → Q (.bool (!(valV kvs k).isSome)) s') :
    wpAny (model X.prog X.w) A (compareOp .NotIn (.ref a) (.ref d)) Q E s := by
  obtain ⟨xs, e, ks, rfl⟩ := g
  obtain ⟨z, hd, ys, rel, dd⟩ := nd_raw I e ks
  refine wpAny_notIn_heap (nd_room hu) (hk.is I) hd dd ?_
  have q := (rel.val k).isSome_eq
  rw [Option.isSome_map] at q
  rw [← q]
  exact h _ (I.tok _)
theorem nd_setItem {Q : Unit → Shared → Prop} (hu : A.units + 9 < cLine) (I : Inv X pins σ H s) (e : H d = some (ndO X.prog X.w d xs)) (ks : KeysAt X.K H xs) (hk : KyAt X.K H (.ref a) k) (hl : xs.length < sizeLine) (rv : RelV v u)
    (h : ∀ s', Inv X pins σ (upd H d (ndO X.prog X.w d (putX xs k a v))) s' → Q () s') : wpAny (model X.prog X.w) A (setItem (.ref d) (.ref a) u) Q E s := by
  obtain ⟨z, hd, ys, rel, dd⟩ := nd_raw I (.inl e) ks
  have hz : ys.length ≤ sizeLine := by rw [← Paired.length rel]; exact z
  have hl2 : (putX xs k a v).length ≤ sizeLine := by have := putX_len xs k a v; omega
  refine wpAny_setItem_heap (hsz := hz) (nd_room hu) (hk.is I) dd fun h' dd' hs => h _ ?_
  obtain ⟨q, es, ep, hq, h2, h3, h4, _, h5⟩ := dd'
  refine d_write I (by rw [e]; exact True.intro) hs ⟨q, hq⟩ (ndO_ok ⟨hl2, hd, _, rel.put k rv, q, es, ep, hq, h2, h3, h4, h5⟩)
end
/-! ### readings and rules -/
def tNGet (P : Program) (w : World) (K : PySem.W.Frag) (td ty : TE) : TE := fun σ H Q => td σ H fun x H1 => ty σ H1 fun y H2 => ∃ d a kvs k v, x = .ref d ∧ y = .ref a ∧ NDR P w K H2 d kvs ∧ KyAt K H2 (.ref a) k ∧ valV kvs k = some v ∧ Q v H2
def tNIn (P : Program) (w : World) (K : PySem.W.Frag) (ty td : TE) : TE := fun σ H Q => ty σ H fun y H1 => td σ H1 fun x H2 => ∃ d a kvs k, x = .ref d ∧ y = .ref a ∧ NDR P w K H2 d kvs ∧ KyAt K H2 (.ref a) k ∧ Q (.bl (valV kvs k).isSome) H2
def tNNotIn (P : Program) (w : World) (K : PySem.W.Frag) (ty td : TE) : TE := fun σ H Q => ty σ H fun y H1 => td σ H1 fun x H2 => ∃ d a kvs k, x = .ref d ∧ y = .ref a ∧ NDR P w K H2 d kvs ∧ KyAt K H2 (.ref a) k ∧ Q (.bl (!(valV kvs k).isSome)) H2
/-- d[y] = v: the dict behind has putK; the heap behind told by what is known of it -/
def sNPut (P : Program) (w : World) (K : PySem.W.Frag) (td ty tv : TE) : TS := fun D σ H => tv σ H fun v H1 => td σ H1 fun x H2 => ty σ H2 fun y H3 => ∃ d a kvs k, x = .ref d ∧ y = .ref a ∧ ND P w K H3 d kvs ∧ KyAt K H3 (.ref a) k ∧ kvs.length < sizeLine ∧
  ∀ H4, ND P w K H4 d (putK kvs k v) → Stp [d] H3 H4 → (∀ (H0 : Hp) M, Stp M H0 H3 → H0 d = none → Stp M H0 H4) → D.nx σ H4
def tNNew (P : Program) (w : World) (K : PySem.W.Frag) : TE := fun _ H Q => ∀ p H1, H p = none → ND P w K H1 p [] → Stp [] H H1 → Q (.ref p) H1
section
variable {X : Cx} {o i e value : Expr} {pos pos' tpos : Pos} {td ty tv : TE}
theorem nd_typeIs {pins : List (Addr × Obj)} {σ : L2.St} {H : Hp} {s : Shared} {d : Addr} {kvs : List NKV} (I : Inv X pins σ H s) (g : NDR X.prog X.w X.K H d kvs) : s.TypeIs (.ref d) "dict" := by
  obtain ⟨xs, e, ks, rfl⟩ := g
  obtain ⟨z, hd, ys, rel, dd⟩ := nd_raw I e ks
  exact dd.typeIs
theorem hu9 {A : Around} {k : Nat} (hr : Room k A) : A.units + 9 < cLine := by have := hr.un; omega
theorem pe_nget {k : Nat} (hr : Room k X.A) (ho : PE X o td) (hi : PE X i ty) (hs : NoSl i) : PE X (.Subscript o i pos) (tNGet X.prog X.w X.K td ty) := by
  refine ⟨fun pins s σ H Q I h => ?_⟩
  refine subD_of PySem.F.slot_dict_getitem.lookup hs (thn (ho.run pins s σ H _ I h) fun u s1 ⟨x, H1, I1, rx, q1⟩ => thn (hi.run pins s1 σ H1 _ I1 q1) fun iv s2 ⟨y, H2, I2, ry, d, a, kvs, k, v, ex, ey, g, hk, hv, q2⟩ => ?_)
  subst ex ey
  obtain rfl : u = Value.ref d := rx
  obtain rfl : iv = Value.ref a := ry
  exact ⟨nd_typeIs I2 g, nd_getItem (hu9 hr) I2 g hk hv fun w' s3 I3 rw' => ⟨v, H2, I3, rw', q2⟩⟩
theorem pc_nin {k : Nat} (hr : Room k X.A) (hi : PE X i ty) (ho : PE X o td) : PC X .In i o (tNIn X.prog X.w X.K ty td) := by
  refine ⟨fun pins s σ H Q I h => ?_⟩
  refine thn (hi.run pins s σ H _ I h) fun iv s1 ⟨y, H1, I1, ry, q1⟩ => thn (ho.run pins s1 σ H1 _ I1 q1) fun u s2 ⟨x, H2, I2, rx, d, a, kvs, k, ex, ey, g, hk, q2⟩ => ?_
  subst ex ey
  obtain rfl : u = Value.ref d := rx
  obtain rfl : iv = Value.ref a := ry
  exact nd_in (hu9 hr) I2 g hk fun s3 I3 => ⟨.bl _, H2, I3, rfl, q2⟩
theorem pc_nnotin {k : Nat} (hr : Room k X.A) (hi : PE X i ty) (ho : PE X o td) : PC X .NotIn i o (tNNotIn X.prog X.w X.K ty td) := by
  refine ⟨fun pins s σ H Q I h => ?_⟩
  refine thn (hi.run pins s σ H _ I h) fun iv s1 ⟨y, H1, I1, ry, q1⟩ => thn (ho.run pins s1 σ H1 _ I1 q1) fun u s2 ⟨x, H2, I2, rx, d, a, kvs, k, ex, ey, g, hk, q2⟩ => ?_
  subst ex ey
  obtain rfl : u = Value.ref d := rx
  obtain rfl : iv = Value.ref a := ry
  exact nd_notIn (hu9 hr) I2 g hk fun s3 I3 => ⟨.bl _, H2, I3, rfl, q2⟩
theorem ps_nput {k : Nat} (hr : Room k X.A) (ho : PE X o td) (hi : PE X i ty) (hv : PE X value tv) (hs : swapsWith value (some (.Subscript o i pos')) pos.line X.env = pure false) :
    PS X (.Assign [.Subscript o i pos'] value pos) (sNPut X.prog X.w X.K td ty tv) := by
  refine ⟨fun pins s σ H D I h => ?_⟩
  refine wpAny_Assign_Subscript (thn (hv.run pins s σ H _ I h) fun r s1 ⟨v, H1, I1, rv, q1⟩ => thn (ho.run pins s1 σ H1 _ I1 q1) fun u s2 ⟨x, H2, I2, rx, q2⟩ => thn (hi.run pins s2 σ H2 _ I2 q2) fun iv s3 ⟨y, H3, I3, ry, d, a, kvs, k, ex, ey, g, hk, hl, q3⟩ => ?_) hs
  subst ex ey
  obtain rfl : u = Value.ref d := rx
  obtain rfl : iv = Value.ref a := ry
  obtain ⟨xs, e, ks, rfl⟩ := g
  rw [plainX_len] at hl
  have st : Stp [d] H3 (upd H3 d (ndO X.prog X.w d (putX xs k a v))) := .wr (by simp) e fun _ z => nomatch z
  refine nd_setItem (hu9 hr) I3 e ks hk hl rv fun s4 I4 => ⟨σ, _, I4, q3 _ ⟨_, upd_same, (ks.put hk).stp st, plainX_put xs k a v⟩ st fun H0 M s0 n => s0.mut n⟩
theorem pe_dnewN : PE X (.Dict [] [] pos) (tNNew X.prog X.w X.K) := ⟨fun pins s σ H Q I h => by
  have hn := I.hok.fresh (Nat.le_refl s.heap.objs.size)
  refine wpAny_Dict_empty ⟨.ref s.heap.objs.size, _, I.laid (a := s.heap.objs.size) (o := ndO X.prog X.w s.heap.objs.size []) (t' := s.toks) (fun _ _ q => Heap.get?_push_of_some _ q) (Nat.le_refl _) (ndO_ok ?_), rfl, h _ _ hn ⟨[], upd_same, fun _ z => (nomatch z), rfl⟩ (.new hn)⟩
  exact ⟨Nat.zero_le _, beq_eq_false_iff_ne.mpr (Ne.symm (Nat.ne_of_lt I.big)), [], .nil, _, #[], 0, Heap.get?_push_size _ rfl, ⟨rfl, rfl, rfl⟩, rfl, rfl, List.nodup_nil⟩⟩
end
end GT

/-! ## walks of such dicts -/
namespace GT
open PySem PySem.Spec PyProof.Rows L2
section
variable {X : Cx} {pins : List (Addr × Obj)} {σ : L2.St} {H : Hp} {s : Shared} {d : Addr} {o : Obj}
theorem nd_frz {xs : List (NestedKey × Addr × V)} (I : Inv X pins σ H s) (h : H d = some (.frz o (ndO X.prog X.w d xs))) :
    (d == sysModules) = false ∧ s.heap.get? d = some o ∧ o.ExactDict ∧ ∃ (es : Array DictEntry) (ep : Nat), o.data = .dict es ep ∧ es.size = xs.length ∧
      ∀ (i : Nat) (x : NestedKey × Addr × V), xs[i]? = some x → ∃ en : DictEntry, es[i]? = some en ∧ en.key = .ref x.2.1 ∧ RelV x.2.2 en.val := by
  obtain ⟨hd, z⟩ := I.hok d _ h
  obtain ⟨z, hs, ys, pr, o', es, ep, ho, hx, hdt, he, _⟩ := ndO_of (o := ndO X.prog X.w d xs) z
  rw [hd] at ho
  cases ho
  refine ⟨hs, hd, hx, es, ep, hdt, ?_, fun i x e => ?_⟩
  · have l1 : es.size = ys.length := size_of_entries he
    have l2 : xs.length = ys.length := Paired.length pr
    omega
  · obtain ⟨b, hb, e1, e2, e3⟩ := paired_get pr e
    have q := entry_at he i
    rw [hb] at q
    exact ⟨_, q, congrArg Value.ref e2.symm, e3⟩
end
/-- the entries of the locked dict at d: the keys' tuples | new pairs -/
def ItN (P : Program) (w : World) (d : Addr) (o : Obj) (xs : List (NestedKey × Addr × V)) : It :=
  ⟨fun i H => H d = some (.frz o (ndO P w d xs)) ∧ i < xs.length, fun i H x H' => H' = H ∧ ∃ e, xs[i]? = some e ∧ x = .ref e.2.1, fun i H => H d = some (.frz o (ndO P w d xs)) ∧ xs.length ≤ i⟩
def ItNi (P : Program) (w : World) (d : Addr) (o : Obj) (xs : List (NestedKey × Addr × V)) : It :=
  ⟨fun i H => H d = some (.frz o (ndO P w d xs)) ∧ i < xs.length, fun i H x H' => ∃ T e, xs[i]? = some e ∧ x = .ref T ∧ H T = none ∧ H' = upd H T (.tup [.ref e.2.1, e.2.2]), fun i H => H d = some (.frz o (ndO P w d xs)) ∧ xs.length ≤ i⟩
section
variable {P : Program} {w : World} {K : PySem.W.Frag} {tg : Expr} {d : Addr} {o : Obj} {es : Array DictEntry} {ep : Nat} {xs : List (NestedKey × Addr × V)}
theorem turn_n (it : Addr) (hod : o.data = .dict es ep) : Turn P w K tg (ItN P w d o xs) [it] it (fun i h => h.IsKeyIter it d i xs.length ep) where
  mem := by simp
  obj := fun i h st b hb => by
    have e : b = it := by simpa using hb
    subst e
    obtain ⟨oi, e, c, dd⟩ := st
    exact ⟨oi, e, fun v z => by rw [dd] at z; cases z⟩
  keep := fun i h h' st k => st.at fun oi e => k it (by simp) oi e
  item := by
    intro X hP hw hK hc i pins s σ H E I hf st hg
    subst hP hw hK
    obtain ⟨hd, hi⟩ := hg
    obtain ⟨f0, f1, f2, f3, f4, f5⟩ := hf it (by simp)
    obtain ⟨hs, hgd, hx, es', ep', hdt, hsz, ent⟩ := nd_frz I hd
    obtain ⟨rfl, rfl⟩ := dict_ep hod hdt
    obtain ⟨e, he⟩ : ∃ e, xs[i]? = some e := ⟨xs[i], List.getElem?_eq_getElem hi⟩
    obtain ⟨en, hen, hkey, _⟩ := ent i e he
    refine next_key_item st hgd hdt hsz hen fun h' st' sb => ?_
    have I1 : Inv X pins σ H { s with heap := h' } := I.turned (t' := s.toks) (fun b ob hb e => (sb.2 b hb).trans e) f0 f1 f3 f4 f5
    obtain ⟨oi, e1, c, dd⟩ := id st'
    exact ⟨en.key, rfl, go_of (s := { s with heap := h' }) e1 c dd (by decide) ⟨.ref e.2.1, H, I1, hkey, ⟨rfl, e, he, rfl⟩, st', fun b hb => (hf b hb).1⟩⟩
  done := by
    intro X hP hw hK hc i pins s σ H E I hf st hg
    subst hP hw hK
    obtain ⟨hd, hi⟩ := hg
    obtain ⟨f0, f1, f2, f3, f4, f5⟩ := hf it (by simp)
    obtain ⟨hs, hgd, hx, es', ep', hdt, hsz, ent⟩ := nd_frz I hd
    obtain ⟨rfl, rfl⟩ := dict_ep hod hdt
    exact next_key_end (I.ok.hd hc) st hgd hdt hsz hi fun h' eb => ⟨rfl, I.turned (t' := s.toks) (fun b ob hb e => eb b ob hb e) f0 f1 f3 f4 f5⟩
  self := fun A i s Q E st h => by
    refine wpAny_pyIter_slot st.typeIs F.slot_dict_keyiterator_iter (wpAny_call_entry F.slot_dict_keyiterator_iter st.typeIs F.entry_dict_keyiterator_iter ?_ (F.args_dict_keyiterator_iter_1 _))
    show wpAny _ _ (ret (.ref it)) _ _ s
    exact wpAny_pure ⟨_, rfl, "dict_keyiterator", _, st.typeIs, F.slot_dict_keyiterator_next.lookup, h⟩
theorem turn_ni {elts : List Expr} {kk : Nat} {tpos : Pos} (it : Addr) (hod : o.data = .dict es ep) :
    Turn P w K (.Tuple elts kk tpos) (ItNi P w d o xs) [it] it (fun i h => ∃ ok ov, IsItemIter h it d i xs.length ep ok ov) where
  mem := by simp
  obj := fun i h st b hb => by
    have e : b = it := by simpa using hb
    subst e
    obtain ⟨ok, ov, e⟩ := st
    exact ⟨_, e, fun v z => nomatch z⟩
  keep := fun i h h' st k => let ⟨ok, ov, e⟩ := st; ⟨ok, ov, k it (by simp) _ e⟩
  item := by
    intro X hP hw hK hc i pins s σ H E I hf st hg
    subst hP hw hK
    obtain ⟨hd, hi⟩ := hg
    obtain ⟨hs, hgd, hx, es', ep', hdt, hsz, ent⟩ := nd_frz I hd
    obtain ⟨rfl, rfl⟩ := dict_ep hod hdt
    obtain ⟨e, hxe⟩ : ∃ e, xs[i]? = some e := ⟨xs[i], List.getElem?_eq_getElem hi⟩
    obtain ⟨en, hen, hkey, hval⟩ := ent i e hxe
    obtain ⟨ok, ov, he⟩ := st
    rw [← hsz] at he
    have hlt : it < s.heap.objs.size := Heap.lt_size he
    obtain ⟨hie, hen2⟩ := Array.getElem?_eq_some_iff.mp hen
    refine wpAny_pyNext_items_item_raw he ⟨o, hgd, hx, hdt⟩ hie fun h' ho hT hz hk => ?_
    refine ⟨_, rfl, wpAny_letOwnedTupleGo_items (s := { s with heap := h' }) ho fun h'' he' sb => ?_⟩
    rw [hen2, hkey] at hT
    have hT2 : h''.get? s.heap.objs.size = some { cls := .type "tuple", data := .seq #[.ref e.2.1, en.val] } := (sb.2 _ (Nat.ne_of_gt hlt)).trans hT
    have new : ObjOk X.prog X.w (upd H s.heap.objs.size (.tup [.ref e.2.1, e.2.2])) h'' s.heap.objs.size (.tup [.ref e.2.1, e.2.2]) :=
      ⟨by show 2 ≤ sizeLine; decide, [.ref e.2.1, en.val], .cons rfl (.cons hval .nil), ⟨_, hT2, rfl, _, rfl⟩⟩
    have I1 : Inv X pins σ (upd H s.heap.objs.size (.tup [.ref e.2.1, e.2.2])) { s with heap := h'' } :=
      I.turnedNew (t' := s.toks) (ch := [it]) (fun b ob hb e => (sb.2 b (by simpa using hb)).trans (hk b ob (by simpa using hb) e)) hf (Nat.le_refl _) new
    refine ⟨.ref s.heap.objs.size, _, I1, rfl, ⟨_, e, hxe, rfl, I.hok.fresh (Nat.le_refl _), rfl⟩, ⟨(es'[i]).key, (es'[i]).val, ?_⟩, fun b hb => ?_⟩
    · rw [← hsz]; exact he'
    · have e : b = it := by simpa using hb
      rw [e, upd_ne (Nat.ne_of_lt hlt)]
      exact (hf it (by simp)).1
  done := by
    intro X hP hw hK hc i pins s σ H E I hf st hg
    subst hP hw hK
    obtain ⟨hd, hi⟩ := hg
    obtain ⟨f0, f1, f2, f3, f4, f5⟩ := hf it (by simp)
    obtain ⟨hs, hgd, hx, es', ep', hdt, hsz, ent⟩ := nd_frz I hd
    obtain ⟨rfl, rfl⟩ := dict_ep hod hdt
    obtain ⟨ok, ov, he⟩ := st
    rw [← hsz] at he
    exact wpAny_pyNext_items_end_raw (I.ok.hd hc) he ⟨o, hgd, hx, hdt⟩ (by omega) fun h' eb => ⟨rfl, I.turned (t' := s.toks) (fun b ob hb e => eb b ob hb e) f0 f1 f3 f4 f5⟩
  self := fun A i s Q E st h => let ⟨_, _, e⟩ := st; PySem.W.kcp_self e h
end
def iN (P : Program) (w : World) (td : TE) : TI := fun σ H R => td σ H fun x H1 => ∃ d o xs, x = .ref d ∧ H1 d = some (.frz o (ndO P w d xs)) ∧ R (ItN P w d o xs) H1
def iNi (P : Program) (w : World) (td : TE) : TI := fun σ H R => td σ H fun x H1 => ∃ d o xs, x = .ref d ∧ H1 d = some (.frz o (ndO P w d xs)) ∧ R (ItNi P w d o xs) H1
section
variable {X : Cx} {tg e : Expr} {td : TE} {apos cpos : Pos}
theorem pi_n (he : PE X e td) : PI X tg e (iN X.prog X.w td) := by
  refine ⟨fun pins s σ H R I h => ?_⟩
  refine thn (he.run pins s σ H _ I h) fun u s1 ⟨x, H1, I1, rx, d, o, xs, ex, hd, q⟩ => ?_
  subst ex
  obtain rfl : u = Value.ref d := rx
  obtain ⟨hs, hgd, hx, es, ep, hdt, hsz, ent⟩ := nd_frz I1 hd
  refine iter_keys hs hgd hx hdt (pi_one (tk := s1.toks) I1 _ (turn_n _ hdt) ⟨_, Heap.get?_push_size _ rfl, rfl, ?_⟩ q)
  rw [hsz] <;> rfl
theorem pi_ni {elts : List Expr} {kk : Nat} {tpos : Pos} (he : PE X e td) (hbase : attributeBase e "items" X.env (eval e X.env) = eval e X.env := by rfl) (hline : (apos.endLine == cpos.line) = true := by rfl) :
    PI X (.Tuple elts kk tpos) (.Call (.Attribute e "items" apos) [] [] cpos) (iNi X.prog X.w td) := by
  refine ⟨fun pins s σ H R I h => ?_⟩
  refine wpAny_Call_method (T := "dict") (id := "dict.items") hbase rfl hline F.plainAttrs_dict F.slot_dict_items F.type_dict_items (thn (he.run pins s σ H _ I h) fun u s1 ⟨x, H1, I1, rx, d, o, xs, ex, hd, q⟩ => ?_)
  subst ex
  obtain rfl : u = Value.ref d := rx
  obtain ⟨hs, hgd, hx, es, ep, hdt, hsz, ent⟩ := nd_frz I1 hd
  have dr : s1.heap.DictRaw d es ep := ⟨o, hgd, hx, hdt⟩
  refine ⟨dr.typeIs, fun b q => by cases q; exact ⟨o, hgd, hx.2.1⟩, ?_⟩
  have I2 : Inv X pins σ H1 { s1 with heap := s1.heap.push { cls := .type "dict_items", data := .fields #[.ref d] } } := I1.kept (t' := s1.toks) fun b ob q => Heap.get?_push_of_some _ q
  have fin : wpAny (model X.prog X.w) X.A (pyIter (.ref s1.heap.objs.size)) (PIE X pins σ (.Tuple elts kk tpos) R) X.xe { s1 with heap := s1.heap.push { cls := .type "dict_items", data := .fields #[.ref d] } } := by
    refine wpAny_pyIter_items_raw (d := d) (es := es) (ep := ep) ⟨_, Heap.get?_push_size _ rfl, rfl, rfl⟩ (dr.at fun ob q => Heap.get?_push_of_some _ q) (pi_one (tk := s1.toks) I2 _ (turn_ni _ hdt) ⟨.none, .none, ?_⟩ q)
    rw [← hsz]
    exact Heap.get?_push_size _ rfl
  show wpAny _ _ (callWith cpos (.builtin "dict.items") [.ref d] [] []) _ X.xe s1
  exact method_meetsIn F.slot_dict_items F.entry_dict_items rfl (PySem.evalArgs_none ⟨rfl, dr.typeIs, F.args_dict_items_1 _, _, meets_dict_items_raw d hs, ⟨es, ep, dr⟩, fin⟩)
end
end GT

/-! ## loops over such dicts, locked; data in order -/
namespace GT
open PySem PySem.Spec PyProof.Rows L2
section
variable {P : Program} {w : World} {d : Addr} {o : Obj} {xs : List (NestedKey × Addr × V)}
theorem for_n {g : TG} {tb : TS} {D : Ends} {σ : L2.St} {H : Hp} (Pv : Nat → L2.St → Hp → Prop) (h0 : Pv 0 σ H) (hl : ∀ i σ H, i ≤ xs.length → Pv i σ H → H d = some (.frz o (ndO P w d xs)))
    (hs : ∀ i x σ H, xs[i]? = some x → Pv i σ H → g (.ref x.2.1) σ H fun σ2 H2 => tb { D with nx := Pv (i + 1), ct := Pv (i + 1), bk := D.nx } σ2 H2) (hd : ∀ σ H, Pv xs.length σ H → D.nx σ H) :
    ∃ W : Nat → Nat → L2.St → Hp → Prop, (∃ m, W 0 m σ H) ∧ ∀ i m σ H, W i m σ H →
      ((ItN P w d o xs).stop i H ∧ D.nx σ H) ∨ ((ItN P w d o xs).go i H ∧ ∃ N : L2.St → Hp → Prop, (∀ σ' H', N σ' H' → ∃ m', m' < m ∧ W (i + 1) m' σ' H') ∧ ∀ x H', (ItN P w d o xs).yld i H x H' → g x σ H' fun σ2 H2 => tb { D with nx := N, ct := N, bk := D.nx } σ2 H2) := by
  refine ⟨fun i m σ H => m = xs.length - i ∧ i ≤ xs.length ∧ Pv i σ H, ⟨xs.length, by simp, Nat.zero_le _, h0⟩, ?_⟩
  rintro i m σ H ⟨rfl, hi, p⟩
  have q := hl i σ H hi p
  by_cases hlt : i < xs.length
  · refine .inr ⟨⟨q, hlt⟩, Pv (i + 1), fun σ' H' p' => ⟨xs.length - (i + 1), by omega, rfl, hlt, p'⟩, fun x H' y => ?_⟩
    obtain ⟨e, z, hz, rfl⟩ := y
    subst e
    exact hs i z σ _ hz p
  · have e : i = xs.length := by omega
    subst e
    exact .inl ⟨⟨q, Nat.le_refl _⟩, hd σ H p⟩
theorem for_ni {g : TG} {tb : TS} {D : Ends} {σ : L2.St} {H : Hp} (Pv : Nat → L2.St → Hp → Prop) (h0 : Pv 0 σ H) (hl : ∀ i σ H, i ≤ xs.length → Pv i σ H → H d = some (.frz o (ndO P w d xs)))
    (hs : ∀ i x σ H T, xs[i]? = some x → Pv i σ H → H T = none → g (.ref T) σ (upd H T (.tup [.ref x.2.1, x.2.2])) fun σ2 H2 => tb { D with nx := Pv (i + 1), ct := Pv (i + 1), bk := D.nx } σ2 H2) (hd : ∀ σ H, Pv xs.length σ H → D.nx σ H) :
    ∃ W : Nat → Nat → L2.St → Hp → Prop, (∃ m, W 0 m σ H) ∧ ∀ i m σ H, W i m σ H →
      ((ItNi P w d o xs).stop i H ∧ D.nx σ H) ∨ ((ItNi P w d o xs).go i H ∧ ∃ N : L2.St → Hp → Prop, (∀ σ' H', N σ' H' → ∃ m', m' < m ∧ W (i + 1) m' σ' H') ∧ ∀ x H', (ItNi P w d o xs).yld i H x H' → g x σ H' fun σ2 H2 => tb { D with nx := N, ct := N, bk := D.nx } σ2 H2) := by
  refine ⟨fun i m σ H => m = xs.length - i ∧ i ≤ xs.length ∧ Pv i σ H, ⟨xs.length, by simp, Nat.zero_le _, h0⟩, ?_⟩
  rintro i m σ H ⟨rfl, hi, p⟩
  have q := hl i σ H hi p
  by_cases hlt : i < xs.length
  · refine .inr ⟨⟨q, hlt⟩, Pv (i + 1), fun σ' H' p' => ⟨xs.length - (i + 1), by omega, rfl, hlt, p'⟩, fun x H' y => ?_⟩
    obtain ⟨T, z, hz, rfl, n, rfl⟩ := y
    exact hs i z σ _ T hz p n
  · have e : i = xs.length := by omega
    subst e
    exact .inl ⟨⟨q, Nat.le_refl _⟩, hd σ H p⟩
theorem lc_n {g : TG} {tt : TT} {te : TE} {vs : List Nat} {σ : L2.St} {H1 : Hp} {D : Addr} {Qd : Hp → Prop} (Pv : Nat → Hp → Prop) (h0 : Pv 0 (upd H1 D (.lst []))) (hl : ∀ i H, i ≤ xs.length → Pv i H → H d = some (.frz o (ndO P w d xs)))
    (hs : ∀ i x H, xs[i]? = some x → Pv i H → g (.ref x.2.1) (wipe σ vs) H fun σ2 H2 => wipe σ2 vs = wipe σ vs ∧ tt σ2 H2 fun b H3 =>
      if b = true then te σ2 H3 fun y H4 => ∃ acc, H4 D = some (.lst acc) ∧ acc.length < sizeLine ∧ Pv (i + 1) (upd H4 D (.lst (acc ++ [y]))) else Pv (i + 1) H3) (hd : ∀ H, Pv xs.length H → Qd H) :
    ∃ W : Nat → Nat → Hp → Prop, (∃ m, W 0 m (upd H1 D (.lst []))) ∧ ∀ i m H, W i m H →
      ((ItN P w d o xs).stop i H ∧ Qd H) ∨ ((ItN P w d o xs).go i H ∧ ∃ Nx : Hp → Prop, (∀ H', Nx H' → ∃ m', m' < m ∧ W (i + 1) m' H') ∧ ∀ x H', (ItN P w d o xs).yld i H x H' → g x (wipe σ vs) H' fun σ2 H2 => wipe σ2 vs = wipe σ vs ∧ tt σ2 H2 fun b H3 =>
        if b = true then te σ2 H3 fun y H4 => ∃ acc, H4 D = some (.lst acc) ∧ acc.length < sizeLine ∧ Nx (upd H4 D (.lst (acc ++ [y]))) else Nx H3) := by
  refine ⟨fun i m H => m = xs.length - i ∧ i ≤ xs.length ∧ Pv i H, ⟨xs.length, by simp, Nat.zero_le _, h0⟩, ?_⟩
  rintro i m H ⟨rfl, hi, p⟩
  have q := hl i H hi p
  by_cases hlt : i < xs.length
  · refine .inr ⟨⟨q, hlt⟩, Pv (i + 1), fun H' p' => ⟨xs.length - (i + 1), by omega, rfl, hlt, p'⟩, fun x H' y => ?_⟩
    obtain ⟨e, z, hz, rfl⟩ := y
    subst e
    exact hs i z _ hz p
  · have e : i = xs.length := by omega
    subst e
    exact .inl ⟨⟨q, Nat.le_refl _⟩, hd H p⟩
theorem lc_ni {g : TG} {tt : TT} {te : TE} {vs : List Nat} {σ : L2.St} {H1 : Hp} {D : Addr} {Qd : Hp → Prop} (Pv : Nat → Hp → Prop) (h0 : Pv 0 (upd H1 D (.lst []))) (hl : ∀ i H, i ≤ xs.length → Pv i H → H d = some (.frz o (ndO P w d xs)))
    (hs : ∀ i x H T, xs[i]? = some x → Pv i H → H T = none → g (.ref T) (wipe σ vs) (upd H T (.tup [.ref x.2.1, x.2.2])) fun σ2 H2 => wipe σ2 vs = wipe σ vs ∧ tt σ2 H2 fun b H3 =>
      if b = true then te σ2 H3 fun y H4 => ∃ acc, H4 D = some (.lst acc) ∧ acc.length < sizeLine ∧ Pv (i + 1) (upd H4 D (.lst (acc ++ [y]))) else Pv (i + 1) H3) (hd : ∀ H, Pv xs.length H → Qd H) :
    ∃ W : Nat → Nat → Hp → Prop, (∃ m, W 0 m (upd H1 D (.lst []))) ∧ ∀ i m H, W i m H →
      ((ItNi P w d o xs).stop i H ∧ Qd H) ∨ ((ItNi P w d o xs).go i H ∧ ∃ Nx : Hp → Prop, (∀ H', Nx H' → ∃ m', m' < m ∧ W (i + 1) m' H') ∧ ∀ x H', (ItNi P w d o xs).yld i H x H' → g x (wipe σ vs) H' fun σ2 H2 => wipe σ2 vs = wipe σ vs ∧ tt σ2 H2 fun b H3 =>
        if b = true then te σ2 H3 fun y H4 => ∃ acc, H4 D = some (.lst acc) ∧ acc.length < sizeLine ∧ Nx (upd H4 D (.lst (acc ++ [y]))) else Nx H3) := by
  refine ⟨fun i m H => m = xs.length - i ∧ i ≤ xs.length ∧ Pv i H, ⟨xs.length, by simp, Nat.zero_le _, h0⟩, ?_⟩
  rintro i m H ⟨rfl, hi, p⟩
  have q := hl i H hi p
  by_cases hlt : i < xs.length
  · refine .inr ⟨⟨q, hlt⟩, Pv (i + 1), fun H' p' => ⟨xs.length - (i + 1), by omega, rfl, hlt, p'⟩, fun x H' y => ?_⟩
    obtain ⟨T, z, hz, rfl, n, rfl⟩ := y
    exact hs i z _ T hz p n
  · have e : i = xs.length := by omega
    subst e
    exact .inl ⟨⟨q, Nat.le_refl _⟩, hd H p⟩
end
/-! ### locks -/
section
variable {P : Program} {w : World} {K : PySem.W.Frag} {H : Hp} {d : Addr} {kvs : List NKV} {σ : L2.St} {Q : VK} {D : Ends}
theorem lockE_nd {t : TE} (g : ND P w K H d kvs) (h : ∀ o xs, plainX xs = kvs → KeysAt K H xs → H d = some (ndO P w d xs) →
    t σ (upd H d (.frz o (ndO P w d xs))) fun v H' => H' d = some (.frz o (ndO P w d xs)) ∧ Q v (upd H' d (ndO P w d xs))) : tLockE t σ H Q := by
  obtain ⟨xs, e, k, hx⟩ := g
  exact ⟨d, _, e, True.intro, fun o => h o xs hx k e⟩
theorem lock_nd {t : TS} (g : ND P w K H d kvs) (h : ∀ o xs, plainX xs = kvs → KeysAt K H xs → H d = some (ndO P w d xs) →
    t ⟨fun σ' H' => H' d = some (.frz o (ndO P w d xs)) ∧ D.nx σ' (upd H' d (ndO P w d xs)), fun v H' => H' d = some (.frz o (ndO P w d xs)) ∧ D.rt v (upd H' d (ndO P w d xs)), fun σ' H' => H' d = some (.frz o (ndO P w d xs)) ∧ D.bk σ' (upd H' d (ndO P w d xs)), fun σ' H' => H' d = some (.frz o (ndO P w d xs)) ∧ D.ct σ' (upd H' d (ndO P w d xs))⟩ σ (upd H d (.frz o (ndO P w d xs)))) : tLock t D σ H := by
  obtain ⟨xs, e, k, hx⟩ := g
  exact ⟨d, _, e, True.intro, fun o => h o xs hx k e⟩
theorem Stp.lock {M : List Addr} {H : Hp} {d : Addr} {o : Obj} {u : HO} (e : H d = some u) (nt : ∀ xs, u ≠ .tup xs) : Stp (d :: M) H (upd H d (.frz o u)) := .wr (by simp) e nt
theorem Stp.unlock {M : List Addr} {H H' : Hp} {d : Addr} {u : HO} (s : Stp (d :: M) H H') (e : H d = some u) (nt : ∀ xs, u ≠ .tup xs) (nb : ∀ ps, u ≠ .tbl ps := by exact fun _ z => nomatch z) : Stp M H (upd H' d u) :=
  ⟨fun c v h n => by
    by_cases q : c = d
    · rw [q, upd_same]; rw [q, e] at h; exact h
    · rw [upd_ne q]; exact s.keep c v h (by simp [q, n]),
   fun c xs h => by
    by_cases q : c = d
    · rw [q, e] at h; exact absurd (Option.some.inj h) (nt xs)
    · rw [upd_ne q]; exact s.tups c xs h,
   fun c ps h => by
    by_cases q : c = d
    · rw [q, upd_same] at h; exact absurd (Option.some.inj h) (nb ps)
    · rw [upd_ne q] at h; exact s.tbls c ps h⟩
/-- what is behind the lock, seen from within -/
theorem Stp.off {H' : Hp} {d : Addr} {o : Obj} {u : HO} (e : H' d = some (.frz o u)) (nb : ∀ ps, u ≠ .tbl ps := by exact fun _ z => nomatch z) : Stp [d] H' (upd H' d u) := .wr (by simp) e (fun _ z => nomatch z) nb
theorem ndO_nt {d : Addr} {xs : List (NestedKey × Addr × V)} : ∀ ys, ndO P w d xs ≠ .tup ys := fun _ z => nomatch z
theorem ndf {H' : Hp} {d : Addr} {o : Obj} {xs : List (NestedKey × Addr × V)} (e : H' d = some (.frz o (ndO P w d xs))) (k : KeysAt K H' xs) : NDF P w K H' d o (plainX xs) := ⟨xs, e, k, rfl⟩
theorem nd_of {H' : Hp} {d : Addr} {xs : List (NestedKey × Addr × V)} (e : H' d = some (ndO P w d xs)) (k : KeysAt K H' xs) : ND P w K H' d (plainX xs) := ⟨xs, e, k, rfl⟩
theorem plainX_at {xs : List (NestedKey × Addr × V)} {i : Nat} {x : NestedKey × Addr × V} (h : xs[i]? = some x) : (plainX xs)[i]? = some (x.1, x.2.2) := by unfold plainX; rw [List.getElem?_map, h]; rfl
end
/-! ### putK -/
section
variable {κ : Type} [DecidableEq κ]
theorem putK_mem {kvs : List (κ × V)} {k : κ} {v : V} {p : κ × V} (h : p ∈ putK kvs k v) : p = (k, v) ∨ (p ∈ kvs ∧ p.1 ≠ k) := by
  unfold putK at h
  split at h
  · obtain ⟨y, hy, e⟩ := List.mem_map.mp h
    by_cases q : y.1 = k
    · simp only [q, if_true] at e; left; rw [← e]
    · simp only [q, if_false] at e; right; rw [← e]; exact ⟨hy, q⟩
  · rename_i hn
    rcases List.mem_append.mp h with h | h
    · refine .inr ⟨h, fun e => hn ?_⟩
      rw [List.any_eq_true]; exact ⟨p, h, by simp [e]⟩
    · rw [List.mem_singleton] at h; exact .inl h
theorem putK_keys (kvs : List (κ × V)) (k : κ) (v : V) : (putK kvs k v).map (·.1) = if (kvs.any fun kv => decide (kv.1 = k)) = true then kvs.map (·.1) else kvs.map (·.1) ++ [k] := by
  unfold putK
  split
  · rw [List.map_map]
    refine List.map_congr_left fun x _ => ?_
    by_cases h : x.1 = k <;> simp [h]
  · simp
theorem putK_nd {kvs : List (κ × V)} {k : κ} {v : V} (h : (kvs.map (·.1)).Nodup) : ((putK kvs k v).map (·.1)).Nodup := by
  rw [putK_keys]
  split
  · exact h
  · rename_i hn
    rw [List.nodup_append]
    refine ⟨h, List.pairwise_singleton .., ?_⟩
    intro a ha b hb e
    rw [List.mem_singleton] at hb
    subst hb; subst e
    obtain ⟨p, hp, e⟩ := List.mem_map.mp ha
    exact hn (by rw [List.any_eq_true]; exact ⟨p, hp, by simp [e]⟩)
theorem valV_mem {kvs : List (κ × V)} {k : κ} {v : V} (h : valV kvs k = some v) : (k, v) ∈ kvs := by
  unfold valV at h
  obtain ⟨p, hp, rfl⟩ := Option.map_eq_some_iff.mp h
  have h1 := List.mem_of_find?_eq_some hp
  have h2 := List.find?_some hp
  simp only [decide_eq_true_eq] at h2
  rw [← h2]; exact h1
theorem valV_of {kvs : List (κ × V)} {k : κ} {v : V} (n : (kvs.map (·.1)).Nodup) (h : (k, v) ∈ kvs) : valV kvs k = some v := by
  induction kvs with
  | nil => cases h
  | cons p r ih =>
    rw [List.map_cons, List.nodup_cons] at n
    rcases List.mem_cons.mp h with e | h
    · subst e; simp [valV, List.find?_cons]
    · have : p.1 ≠ k := fun e => n.1 (List.mem_map.mpr ⟨_, h, e.symm⟩)
      rw [show valV (p :: r) k = valV r k by simp [valV, List.find?_cons, this]]
      exact ih n.2 h
end
/-! ### data in order -/
mutual
def Dt.py : Dt → PyData
  | .non => .none
  | .bl b => .bool b
  | .num i => .int i
  | .txt x => .str x
  | .tup ds => .tuple (Dt.pys ds)
  | .lst ds => .list (Dt.pys ds)
def Dt.pys : List Dt → List PyData
  | [] => []
  | d :: ds => d.py :: Dt.pys ds
end
theorem Dt.pys_map : ∀ ds : List Dt, Dt.pys ds = ds.map Dt.py
  | [] => rfl
  | d :: ds => by rw [Dt.pys, Dt.pys_map ds]; rfl
mutual
theorem Dt.py_depth : ∀ d : Dt, d.py.depth = d.depth
  | .non => rfl
  | .bl _ => rfl
  | .num _ => rfl
  | .txt _ => rfl
  | .tup ds => by simp only [Dt.py, PyData.depth, Dt.depth, Dt.pys_depth ds]
  | .lst ds => by simp only [Dt.py, PyData.depth, Dt.depth, Dt.pys_depth ds]
theorem Dt.pys_depth : ∀ ds : List Dt, PyData.depthAll (Dt.pys ds) = Dt.depthAll ds
  | [] => rfl
  | d :: ds => by simp only [Dt.pys, PyData.depthAll, Dt.depthAll, Dt.py_depth d, Dt.pys_depth ds]
end
mutual
theorem DtIs.reads {h : Heap} : ∀ (d : Dt) (v : Value), d.flat = true → DtIs h d v → Reads h v d.py []
  | .non, _, _, r => by cases r; exact .none
  | .bl _, _, f, _ => by simp [Dt.flat] at f
  | .num _, _, _, r => by cases r; exact .int _ _
  | .txt _, _, _, r => by cases r; exact .str _ _
  | .tup ds, _, f, r => by
    cases r with
    | tup h1 h2 =>
      obtain ⟨o, e, c, n, dd⟩ := h1
      exact .tuple e c dd (DtAll.reads ds _ (by simpa [Dt.flat] using f) h2)
  | .lst _, _, f, _ => by simp [Dt.flat] at f
theorem DtAll.reads {h : Heap} : ∀ (ds : List Dt) (vs : List Value), Dt.flatAll ds = true → DtAll h ds vs → ReadsAll h vs (Dt.pys ds) []
  | [], _, _, r => by cases r; exact .nil
  | d :: ds, _, f, r => by
    cases r with
    | cons r1 r2 =>
      simp only [Dt.flatAll, Bool.and_eq_true] at f
      exact .cons (as := []) (bs := []) (DtIs.reads d _ f.1 r1) (DtAll.reads ds _ f.2 r2)
end
open PySem.W in
section
variable {X : Cx}
/-- two that can be ordered -/
structure Ordb (K : PySem.W.Frag) (H : Hp) (x y : V) (d e : Dt) : Prop where
  x : DtAt K H x d
  y : DtAt K H y e
  fx : d.flat = true
  fy : e.flat = true
  al : alike d.py e.py = true
  nn : d.py ≠ .none
  dp : d.depth ≤ 8
def rLtO (K : PySem.W.Frag) : R2 := fun x y H Q => ∃ d e, Ordb K H x y d e ∧ Q (.bl (dataLt d.py e.py)) H
def rGtO (K : PySem.W.Frag) : R2 := fun x y H Q => ∃ d e, Ordb K H x y d e ∧ Q (.bl (dataLt e.py d.py)) H
theorem op_ltO (hu : X.A.units + 64 < cLine) : OpR X (compareOp .Lt) (rLtO X.K) := by
  intro pins s σ H x y v u Q I rx ry h
  obtain ⟨d, e, ⟨hx, hy, fx, fy, al, nn, dp⟩, q⟩ := h
  have n1 := Dt.py_depth d
  refine lt_data (DtIs.reads d _ fx (DtAt.is I d x v hx rx)) (DtIs.reads e _ fy (DtAt.is I e y u hy ry)) al nn (by omega) ⟨.bl _, H, I, rfl, q⟩
theorem op_gtO (hu : X.A.units + 64 < cLine) : OpR X (compareOp .Gt) (rGtO X.K) := by
  intro pins s σ H x y v u Q I rx ry h
  obtain ⟨d, e, ⟨hx, hy, fx, fy, al, nn, dp⟩, q⟩ := h
  have n1 := Dt.py_depth d
  refine gt_data (DtIs.reads d _ fx (DtAt.is I d x v hx rx)) (DtIs.reads e _ fy (DtAt.is I e y u hy ry)) al nn (by omega) ⟨.bl _, H, I, rfl, q⟩
end
end GT
/-! ### the rules where the context is a comprehension's block: P, w, K told -/
namespace GT
open PySem PySem.Spec PyProof.Rows L2
section
variable {P : Program} {w : World} {K : PySem.W.Frag} {X : Cx} {o i e value : Expr} {pos pos' tpos : Pos} {td ty tv : TE}
theorem pe_ngetK {k : Nat} (eP : X.prog = P) (ew : X.w = w) (eK : X.K = K) (hr : Room k X.A) (ho : PE X o td) (hi : PE X i ty) (hs : NoSl i) : PE X (.Subscript o i pos) (tNGet P w K td ty) := by
  subst eP; subst ew; subst eK; exact pe_nget hr ho hi hs
theorem pc_ninK {k : Nat} (eP : X.prog = P) (ew : X.w = w) (eK : X.K = K) (hr : Room k X.A) (hi : PE X i ty) (ho : PE X o td) : PC X .In i o (tNIn P w K ty td) := by
  subst eP; subst ew; subst eK; exact pc_nin hr hi ho
theorem pc_nnotinK {k : Nat} (eP : X.prog = P) (ew : X.w = w) (eK : X.K = K) (hr : Room k X.A) (hi : PE X i ty) (ho : PE X o td) : PC X .NotIn i o (tNNotIn P w K ty td) := by
  subst eP; subst ew; subst eK; exact pc_nnotin hr hi ho
end
end GT
/-! ### steps of loops -/
namespace GT
open PySem PySem.Spec PyProof.Rows L2
section
variable {σ : L2.St} {H : Hp} {Q : VK} {D : Ends} {R : It → Hp → Prop} {ta : TA} {td te tk tv : TE} {wi : TI} {g : TG} {tb : TS} {tt : TT} {vs : List Nat} {K : PySem.W.Frag} {P : Program} {w : World}
theorem i_For (q : wi σ H fun J H1 => ∃ W : Nat → Nat → L2.St → Hp → Prop, (∃ m, W 0 m σ H1) ∧ ∀ i m σ H, W i m σ H →
  (J.stop i H ∧ D.nx σ H) ∨ (J.go i H ∧ ∃ N : L2.St → Hp → Prop, (∀ σ' H', N σ' H' → ∃ m', m' < m ∧ W (i + 1) m' σ' H') ∧ ∀ x H', J.yld i H x H' → g x σ H' fun σ2 H2 => tb { D with nx := N, ct := N, bk := D.nx } σ2 H2)) : tFor wi g tb D σ H := q
theorem i_Lc (q : wi σ H fun J H1 => ∀ D, H1 D = none → ∃ W : Nat → Nat → Hp → Prop, (∃ m, W 0 m (upd H1 D (.lst []))) ∧ ∀ i m H, W i m H →
  (J.stop i H ∧ Q (.ref D) H) ∨ (J.go i H ∧ ∃ Nx : Hp → Prop, (∀ H', Nx H' → ∃ m', m' < m ∧ W (i + 1) m' H') ∧ ∀ x H', J.yld i H x H' → g x (wipe σ vs) H' fun σ2 H2 => wipe σ2 vs = wipe σ vs ∧ tt σ2 H2 fun b H3 =>
    if b = true then te σ2 H3 fun y H4 => ∃ acc, H4 D = some (.lst acc) ∧ acc.length < sizeLine ∧ Nx (upd H4 D (.lst (acc ++ [y]))) else Nx H3)) : tLc wi g tt te vs σ H Q := q
theorem i_Rng1 (q : ta σ H fun vs H1 => ∃ j : Int, vs = [.int j] ∧ -(2 ^ 62) ≤ j ∧ j < 2 ^ 62 ∧ R (Itr 0 j.toNat) H1) : iRng1 ta σ H R := q
theorem i_Rng2 (q : ta σ H fun vs H1 => ∃ i j : Int, vs = [.int i, .int j] ∧ (-(2 ^ 62) ≤ i ∧ i < 2 ^ 62 ∧ -(2 ^ 62) ≤ j ∧ j < 2 ^ 62) ∧ R (Itr i (j - i).toNat) H1) : iRng2 ta σ H R := q
theorem i_List (q : td σ H fun x H1 => ∃ a, x = .ref a ∧ (∃ xs, SqL K H1 a xs) ∧ R (Itl K a) H1) : iList K td σ H R := q
theorem i_Nk (q : td σ H fun x H1 => ∃ d o xs, x = .ref d ∧ H1 d = some (.frz o (ndO P w d xs)) ∧ R (ItN P w d o xs) H1) : iN P w td σ H R := q
theorem i_Nki (q : td σ H fun x H1 => ∃ d o xs, x = .ref d ∧ H1 d = some (.frz o (ndO P w d xs)) ∧ R (ItNi P w d o xs) H1) : iNi P w td σ H R := q
theorem i_NGet (q : td σ H fun x H1 => te σ H1 fun y H2 => ∃ d a kvs k v, x = .ref d ∧ y = .ref a ∧ NDR P w K H2 d kvs ∧ KyAt K H2 (.ref a) k ∧ valV kvs k = some v ∧ Q v H2) : tNGet P w K td te σ H Q := q
theorem i_NIn (q : te σ H fun y H1 => td σ H1 fun x H2 => ∃ d a kvs k, x = .ref d ∧ y = .ref a ∧ NDR P w K H2 d kvs ∧ KyAt K H2 (.ref a) k ∧ Q (.bl (valV kvs k).isSome) H2) : tNIn P w K te td σ H Q := q
theorem i_NNotIn (q : te σ H fun y H1 => td σ H1 fun x H2 => ∃ d a kvs k, x = .ref d ∧ y = .ref a ∧ NDR P w K H2 d kvs ∧ KyAt K H2 (.ref a) k ∧ Q (.bl (!(valV kvs k).isSome)) H2) : tNNotIn P w K te td σ H Q := q
theorem i_NPut (q : tv σ H fun v H1 => td σ H1 fun x H2 => tk σ H2 fun y H3 => ∃ d a kvs k, x = .ref d ∧ y = .ref a ∧ ND P w K H3 d kvs ∧ KyAt K H3 (.ref a) k ∧ kvs.length < sizeLine ∧
  ∀ H4, ND P w K H4 d (putK kvs k v) → Stp [d] H3 H4 → (∀ (H0 : Hp) M, Stp M H0 H3 → H0 d = none → Stp M H0 H4) → D.nx σ H4) : sNPut P w K td tk tv D σ H := q
end
/-- what is new and is written: an item more -/
theorem Stp.into {M : List Addr} {H0 H1 H2 : Hp} {p : Addr} (s : Stp M H0 H1) (n : H0 p = none) (t : Stp (p :: M) H1 H2) : Stp M H0 H2 :=
  ⟨fun c o h m => t.keep c o (s.keep c o h m) (by
      simp only [List.mem_cons, not_or]
      exact ⟨fun e => (by rw [e, n] at h; cases h), m⟩), fun c xs h => t.tups c xs (s.tups c xs h), fun c ps h => let ⟨qs, e⟩ := t.tbls c ps h; s.tbls c qs e⟩
/-- .. and the other way: the steps before it was made do not count -/
theorem key_num2 (a b : Int) : (Dt.tup [.num a, .num b]).key = .tup [.num a, .num b] := rfl
end GT

/-! ## two such dicts compared -/
namespace GT
open PySem PySem.Spec PyProof.Rows PySem.Calls
section
variable {prog : Program} {w : World} {K : Type} [DecidableEq K] {knd : HeapKind prog w K} {A : Around} {E : Value → Shared → Prop} {s : Shared}
inductive HHits {K : Type} [DecidableEq K] (A : Around) (s : Shared) (kb : List (K × Addr × Value)) : List (K × Addr × Value) → Bool → Prop
  | nil : HHits A s kb [] true
  | miss {k : K} {q : Addr × Value} {r : List (K × Addr × Value)} : (∀ p, (k, p) ∉ kb) → HHits A s kb ((k, q) :: r) false
  | hit {k : K} {q : Addr × Value} {r : List (K × Addr × Value)} {e b : Bool} : (∃ p, (k, p) ∈ kb) → (∀ p, (k, p) ∈ kb → SeqAt.EqAt A s q.2 p.2 e) → HHits A s kb r b → HHits A s kb ((k, q) :: r) (e && b)
theorem HHits.inv {kb : List (K × Addr × Value)} {k : K} {q : Addr × Value} {r : List (K × Addr × Value)} {b : Bool} (h : HHits A s kb ((k, q) :: r) b) :
    ((∀ p, (k, p) ∉ kb) ∧ b = false) ∨ ∃ e b', (∃ p, (k, p) ∈ kb) ∧ (∀ p, (k, p) ∈ kb → SeqAt.EqAt A s q.2 p.2 e) ∧ HHits A s kb r b' ∧ b = (e && b') := by
  cases h with
  | miss hn => exact .inl ⟨hn, rfl⟩
  | hit hy he hr => exact .inr ⟨_, _, hy, he, hr, rfl⟩
theorem h_samePairs {nm : String} {a b : Addr} {ka kb : List (K × Addr × Value)} {r : Bool} {Q : Bool → Shared → Prop} (hu : knd.room A) (ha : (a == sysModules) = false) (hb : (b == sysModules) = false)
    (da : s.heap.DictOfH knd a ka) (db : s.heap.DictOfH knd b kb) (hits : ka.length = kb.length → HHits A s kb ka r) (h : Q (ka.length == kb.length && r) s) :
    wpAny (model prog w) A (Builtin.Dict.samePairs nm a b) Q E s := by
  obtain ⟨oa, es, ep, hoa, _, hda, hka, hia, _⟩ := da
  obtain ⟨ob, es', ep', hob, _, hdb, hkb, hib, hnb⟩ := db
  have hla : ka.length = es.size := (size_of_entries hka).symm
  have hlb : kb.length = es'.size := (size_of_entries hkb).symm
  rw [hla, hlb] at h
  unfold Builtin.Dict.samePairs Builtin.Dict.showsAll
  rw [if_neg (show ¬ (a == sysModules) = true by rw [ha]; exact Bool.false_ne_true), if_neg (show ¬ (b == sysModules) = true by rw [hb]; exact Bool.false_ne_true)]
  refine wpAny_bind (wpAny_pure (wpAny_bind (wpAny_pure ?_)))
  refine wpAny_bind (wpAny_dictEntries hoa hda ?_)
  dsimp only
  refine wpAny_bind (wpAny_dictEntries hob hdb ?_)
  by_cases hsz : es.size = es'.size
  case neg =>
    rw [if_pos (by simpa using hsz)]
    have hbf : (es.size == es'.size) = false := by simpa using hsz
    rw [hbf, Bool.false_and] at h
    exact wpAny_bind (wpAny_rule (wpAny_pure h))
  case pos =>
    have h' : Q r s := by simpa [hsz] using h
    have hits' := hits (by rw [hla, hlb]; exact hsz)
    rw [if_neg (by rw [hsz]; simp)]
    refine wpAny_bind (wpAny_dictEpoch hoa hda ?_)
    refine wpAny_bind ?_
    rw [Std.Legacy.Range.forIn_eq_forIn_range']
    simp only [Std.Legacy.Range.size, Nat.sub_zero, Nat.add_sub_cancel, Nat.div_one]
    refine wpAny_forIn_list _
      (fun rest q s' => s' = s ∧ q = (none, ()) ∧ ∃ i, rest = List.range' i (es.size - i) ∧ i ≤ es.size ∧ HHits A s kb (ka.drop i) r)
      _ ?_ ?_ _ _ ⟨rfl, rfl, 0, by simp, Nat.zero_le _, hits'⟩
    · rintro x rest q s' ⟨rfl, rfl, i, hr, hi, hpre⟩
      have hlt : i < es.size := by
        rcases Nat.lt_or_ge i es.size with h | h
        · exact h
        · rw [Nat.sub_eq_zero_of_le h] at hr; simp at hr
      obtain ⟨rfl, hrest⟩ : x = i ∧ rest = List.range' (i + 1) (es.size - (i + 1)) := by
        have e : es.size - i = (es.size - (i + 1)) + 1 := by omega
        rw [e, List.range'_succ] at hr
        injection hr with h1 h2
        exact ⟨h1, h2⟩
      refine wpAny_bind (wpAny_dictEntries hoa hda ?_)
      have hlt' : x < ka.length := by rw [hla]; exact hlt
      obtain ⟨k, ad, v, hkv⟩ : ∃ k ad v, ka[x] = (k, ad, v) := ⟨_, _, _, rfl⟩
      have hdrop : ka.drop x = (k, ad, v) :: ka.drop (x + 1) := by rw [← hkv]; exact List.drop_eq_getElem_cons hlt'
      have hent : es[x]? = some (entryOfKey knd (k, ad, v)) := by rw [entry_at hka x, List.getElem?_eq_getElem hlt', hkv]; rfl
      have hkey : knd.is s'.heap k ad := by
        have := hia (k, ad, v) (by rw [← hkv]; exact List.getElem_mem hlt')
        exact this
      rw [hent]
      rw [hdrop] at hpre
      show wpAny _ _ (holding [Value.ref ad, v] _ >>= _) _ _ _
      refine wpAny_bind (wpAny_holding (wpAny_bind (wpAny_dictFind_heap hu hkey hob hdb hkb hib hnb (fun hn => ?_) fun j p hj => ?_)))
      · rcases hpre.inv with ⟨_, er⟩ | ⟨_, _, ⟨p, hp⟩, _⟩
        · rw [er] at h'
          refine wpAny_pure ?_
          show wpAny _ _ (if (!false) = true then _ else _) _ _ _
          rw [if_pos (by decide)]
          exact wpAny_pure (wpAny_pure h')
        · obtain ⟨j, hj⟩ := List.getElem?_of_mem hp
          exact absurd hj (hn j p)
      · have hm : (k, p) ∈ kb := List.mem_of_getElem? hj
        refine wpAny_bind (wpAny_dictEntries hob hdb ?_)
        have hent' : es'[j]? = some (entryOfKey knd (k, p)) := by rw [entry_at hkb j, hj]; rfl
        rw [hent']
        rcases hpre.inv with ⟨hn, _⟩ | ⟨e, b', _, he, hrr, er⟩
        · exact absurd hm (hn p)
        · refine wpAny_holding (he p hm prog w _ _ ?_)
          cases e with
          | false =>
            rw [er, Bool.false_and] at h'
            show wpAny _ _ (if (!false) = true then _ else _) _ _ _
            rw [if_pos (by decide)]
            exact wpAny_pure (wpAny_pure h')
          | true =>
            rw [Bool.true_and] at er
            rw [← er] at hrr
            show wpAny _ _ (if (!true) = true then _ else _) _ _ _
            rw [if_neg (by decide)]
            refine wpAny_bind (wpAny_dictEpoch hoa hda ?_)
            rw [if_neg (by simp)]
            exact wpAny_pure ⟨rfl, rfl, x + 1, hrest, hlt, hrr⟩
    · rintro q s' ⟨rfl, rfl, i, hr, hi, hpre⟩
      have hin : i = es.size := by
        rcases Nat.lt_or_ge i es.size with h | h
        · have e : es.size - i = (es.size - (i + 1)) + 1 := by omega
          rw [e, List.range'_succ] at hr; exact nomatch hr
        · exact Nat.le_antisymm hi h
      refine wpAny_pure ?_
      rw [hin, ← hla, List.drop_length] at hpre
      cases hpre
      exact h'
theorem h_eq {a b : Addr} {ka kb : List (K × Addr × Value)} {r : Bool} {Q : Value → Shared → Prop} (hk : knd.room A.in1) (ha : (a == sysModules) = false) (hb : (b == sysModules) = false)
    (da : s.heap.DictOfH knd a ka) (db : s.heap.DictOfH knd b kb) (hu : A.units < cLine) (hits : ka.length = kb.length → HHits A.in1 s kb ka r) (h : Q (.bool (ka.length == kb.length && r)) s) :
    wpAny (model prog w) A (compareOp .Eq (.ref a) (.ref b)) Q E s := by
  refine wpAny_richCompare_same_room (op := .Eq) da.typeIs db.typeIs PySem.F.slot_dict_eq (wpAny_call_entry PySem.F.slot_dict_eq da.typeIs PySem.F.entry_dict_eq ?_ (PySem.F.args_dict_eq_2 _ _)) hu
  show wpAny _ _ (Builtin.Dict.dictSlotArgs "__eq__" ⟨[.ref a, .ref b], []⟩ >>= _) _ _ s
  refine wpAny_bind ?_
  unfold Builtin.Dict.dictSlotArgs
  refine wpAny_bind (wpAny_notOrdered_dict da.typeIs ?_)
  show wpAny _ _ (pure (Value.ref a, Value.ref b)) _ _ s
  refine wpAny_pure ?_
  refine wpAny_bind (wpAny_isInstance (T := "dict") db.typeIs PySem.F.sub_dict_dict ?_)
  simp only [Bool.not_true, Bool.false_eq_true, if_false]
  refine wpAny_bind (wpAny_pure (wpAny_bind (wpAny_pure ?_)))
  refine wpAny_bind (h_samePairs hk ha hb da db hits ?_)
  refine wpAny_pure ⟨_, rfl, ?_, ?_⟩
  · exact fun x => nomatch x
  · simpa using h
theorem h_ne {a b : Addr} {ka kb : List (K × Addr × Value)} {r : Bool} {Q : Value → Shared → Prop} (hk : knd.room A.in1) (ha : (a == sysModules) = false) (hb : (b == sysModules) = false)
    (da : s.heap.DictOfH knd a ka) (db : s.heap.DictOfH knd b kb) (hu : A.units < cLine) (hits : ka.length = kb.length → HHits A.in1 s kb ka r) (h : Q (.bool (!(ka.length == kb.length && r))) s) :
    wpAny (model prog w) A (compareOp .NotEq (.ref a) (.ref b)) Q E s := by
  refine wpAny_richCompare_same_room (op := .NotEq) da.typeIs db.typeIs PySem.F.slot_dict_ne (wpAny_call_entry PySem.F.slot_dict_ne da.typeIs PySem.F.entry_dict_ne ?_ (PySem.F.args_dict_ne_2 _ _)) hu
  show wpAny _ _ (Builtin.Dict.dictSlotArgs "__ne__" ⟨[.ref a, .ref b], []⟩ >>= _) _ _ s
  refine wpAny_bind ?_
  unfold Builtin.Dict.dictSlotArgs
  refine wpAny_bind (wpAny_notOrdered_dict da.typeIs ?_)
  show wpAny _ _ (pure (Value.ref a, Value.ref b)) _ _ s
  refine wpAny_pure ?_
  refine wpAny_bind (wpAny_isInstance (T := "dict") db.typeIs PySem.F.sub_dict_dict ?_)
  simp only [Bool.not_true, Bool.false_eq_true, if_false]
  refine wpAny_bind (wpAny_pure (wpAny_bind (wpAny_pure ?_)))
  refine wpAny_bind (h_samePairs hk ha hb da db hits ?_)
  refine wpAny_pure ⟨_, rfl, ?_, ?_⟩
  · exact fun x => nomatch x
  · simpa using h
end
end GT
namespace GT
open PySem PySem.Spec PyProof.Rows L2
/-! ### entries whose values are data -/
abbrev NKD := NestedKey × Dt
def valD (kd : List NKD) (k : NestedKey) : Option Dt := (kd.find? fun p => decide (p.1 = k)).map (·.2)
/-- == of two such dicts -/
def dEq (ka kb : List NKD) : Bool := ka.length == kb.length && ka.all fun p => match valD kb p.1 with
  | none => false
  | some d => Dt.beq p.2 d
/-- the values at kvs are the data of kd -/
def DD (K : PySem.W.Frag) (H : Hp) : List NKV → List NKD → Prop := Paired fun p q => p.1 = q.1 ∧ DtAt K H p.2 q.2 ∧ q.2.flat = true ∧ q.2.depth ≤ 8
section
variable {K : PySem.W.Frag} {H H1 : Hp} {M : List Addr} {kvs : List NKV} {kd : List NKD}
theorem DD.stp (h : DD K H kvs kd) (s : Stp M H H1) : DD K H1 kvs kd := by
  induction h with
  | nil => exact .nil
  | cons h _ ih => exact .cons ⟨h.1, DtAt.stp s _ _ h.2.2.1 h.2.1, h.2.2⟩ ih
theorem DD.keys (h : DD K H kvs kd) : kvs.map (·.1) = kd.map (·.1) := by
  induction h with
  | nil => rfl
  | cons h _ ih => rw [List.map_cons, List.map_cons, h.1, ih]
theorem DD.len (h : DD K H kvs kd) : kvs.length = kd.length := Paired.length h
theorem DD.val (h : DD K H kvs kd) (k : NestedKey) : (valV kvs k = none ∧ valD kd k = none) ∨ ∃ v d, valV kvs k = some v ∧ valD kd k = some d ∧ DtAt K H v d ∧ d.flat = true ∧ d.depth ≤ 8 := by
  induction h with
  | nil => exact .inl ⟨rfl, rfl⟩
  | @cons p q ps qs h t ih =>
    obtain ⟨h1, h2, h3, h4⟩ := h
    by_cases e : p.1 = k
    · have e' : q.1 = k := h1.symm.trans e
      exact .inr ⟨p.2, q.2, by simp [valV, List.find?_cons, e], by simp [valD, List.find?_cons, e'], h2, h3, h4⟩
    · have e' : ¬ q.1 = k := fun z => e (h1.trans z)
      rw [show valV (p :: ps) k = valV ps k by simp [valV, List.find?_cons, e], show valD (q :: qs) k = valD qs k by simp [valD, List.find?_cons, e']]
      exact ih
def putD (kd : List NKD) (k : NestedKey) (d : Dt) : List NKD :=
  if (kd.any fun p => decide (p.1 = k)) = true then kd.map (fun p => if p.1 = k then (p.1, d) else p) else kd ++ [(k, d)]
theorem DD.put (h : DD K H kvs kd) {k : NestedKey} {v : V} {d : Dt} (hv : DtAt K H v d) (f : d.flat = true) (n : d.depth ≤ 8) : DD K H (putK kvs k v) (putD kd k d) := by
  have e : (kvs.any fun p => decide (p.1 = k)) = kd.any fun p => decide (p.1 = k) := by
    clear hv f n
    induction h with
    | nil => rfl
    | cons h _ ih => rw [List.any_cons, List.any_cons, ih, h.1]
  unfold putK putD
  rw [e]
  split
  · rename_i hs
    clear e hs
    induction h with
    | nil => exact .nil
    | @cons p q ps qs h t ih =>
      rw [List.map_cons, List.map_cons]
      refine .cons ?_ ih
      by_cases c : p.1 = k
      · rw [if_pos c, if_pos (h.1.symm.trans c)]; exact ⟨h.1, hv, f, n⟩
      · rw [if_neg c, if_neg (fun z => c (h.1.trans z))]; exact h
  · exact Paired.snoc h ⟨rfl, hv, f, n⟩
theorem valD_put (kd : List NKD) (k j : NestedKey) (d : Dt) : valD (putD kd k d) j = if j = k then some d else valD kd j := by
  unfold putD
  split
  · rename_i ha
    rw [List.any_eq_true] at ha
    obtain ⟨p, hp, hk⟩ := ha
    simp only [decide_eq_true_eq] at hk
    induction kd with
    | nil => cases hp
    | cons q r ih =>
      by_cases e : q.1 = k
      · rw [List.map_cons, if_pos e]
        by_cases c : j = k
        · rw [if_pos c]; simp [valD, List.find?_cons, e, c]
        · rw [if_neg c]
          have n1 : ¬ q.1 = j := fun z => c (z.symm.trans e)
          rw [show valD ((q.1, d) :: r.map (fun p => if p.1 = k then (p.1, d) else p)) j = valD (r.map (fun p => if p.1 = k then (p.1, d) else p)) j by simp [valD, List.find?_cons, n1], show valD (q :: r) j = valD r j by simp [valD, List.find?_cons, n1]]
          clear ih hp hk
          induction r with
          | nil => rfl
          | cons x r ih2 =>
            rw [List.map_cons]
            by_cases ex : x.1 = k
            · rw [if_pos ex]
              have n2 : ¬ x.1 = j := fun z => c (z.symm.trans ex)
              simpa [valD, List.find?_cons, n2] using ih2
            · rw [if_neg ex]
              by_cases ej : x.1 = j
              · simp [valD, List.find?_cons, ej]
              · simpa [valD, List.find?_cons, ej] using ih2
      · rw [List.map_cons, if_neg e]
        rcases List.mem_cons.mp hp with z | hp
        · rw [z] at hk; exact absurd hk e
        · by_cases ej : q.1 = j
          · have c : ¬ j = k := fun z => e (ej.trans z)
            rw [if_neg c]; simp [valD, List.find?_cons, ej]
          · have := ih hp
            simpa [valD, List.find?_cons, ej] using this
  · rename_i ha
    have hn : ∀ p ∈ kd, ¬ p.1 = k := fun p hp e => ha (by rw [List.any_eq_true]; exact ⟨p, hp, by simp [e]⟩)
    clear ha
    induction kd with
    | nil =>
      by_cases c : j = k
      · rw [if_pos c]; simp [valD, c]
      · rw [if_neg c]
        have : ¬ k = j := fun z => c z.symm
        simp [valD, this]
    | cons q r ih =>
      have ih := ih fun p hp => hn p (List.mem_cons_of_mem _ hp)
      by_cases ej : q.1 = j
      · have c : ¬ j = k := fun z => hn q List.mem_cons_self (ej.trans z)
        rw [if_neg c]; simp [valD, List.find?_cons, ej]
      · simpa [valD, List.find?_cons, ej] using ih
end
theorem valD_mem {kd : List NKD} {k : NestedKey} {d : Dt} (h : valD kd k = some d) : (k, d) ∈ kd := by
  unfold valD at h
  obtain ⟨p, hp, rfl⟩ := Option.map_eq_some_iff.mp h
  have h2 := List.find?_some hp
  simp only [decide_eq_true_eq] at h2
  rw [← h2]; exact List.mem_of_find?_eq_some hp
theorem valD_of {kd : List NKD} {k : NestedKey} {d : Dt} (n : (kd.map (·.1)).Nodup) (h : (k, d) ∈ kd) : valD kd k = some d := by
  induction kd with
  | nil => cases h
  | cons p r ih =>
    rw [List.map_cons, List.nodup_cons] at n
    rcases List.mem_cons.mp h with e | h
    · subst e; simp [valD, List.find?_cons]
    · have : p.1 ≠ k := fun e => n.1 (List.mem_map.mpr ⟨_, h, e.symm⟩)
      rw [show valD (p :: r) k = valD r k by simp [valD, List.find?_cons, this]]
      exact ih n.2 h
theorem len_sub {κ : Type} [DecidableEq κ] : ∀ (a b : List κ), a.Nodup → a ⊆ b → a.length ≤ b.length
  | [], _, _, _ => Nat.zero_le _
  | x :: r, b, n, h => by
    rw [List.nodup_cons] at n
    have hx : x ∈ b := h List.mem_cons_self
    have ih := len_sub r (b.erase x) n.2 fun y hy => by
      have ne : y ≠ x := fun e => n.1 (e ▸ hy)
      exact (List.mem_erase_of_ne ne).mpr (h (List.mem_cons_of_mem _ hy))
    have l := List.length_erase_of_mem hx
    have p : 0 < b.length := List.length_pos_of_mem hx
    rw [List.length_cons]
    omega
/-- == tells whether each key has the same value -/
theorem dEq_iff {ka kb : List NKD} (na : (ka.map (·.1)).Nodup) (nb : (kb.map (·.1)).Nodup) (pa : ∀ p ∈ ka, p.2.pure = true) (pb : ∀ p ∈ kb, p.2.pure = true) : dEq ka kb = true ↔ ∀ k, valD ka k = valD kb k := by
  unfold dEq
  rw [Bool.and_eq_true, List.all_eq_true, beq_iff_eq]
  constructor
  · rintro ⟨hl, h⟩
    have sub : ∀ p ∈ ka, valD kb p.1 = some p.2 := fun p hp => by
      have := h p hp
      cases q : valD kb p.1 with
      | none => rw [q] at this; exact absurd this (by simp)
      | some d =>
        rw [q] at this
        rw [Dt.eq_of_beq _ _ (pa p hp) (pb _ (valD_mem q)) this]
    -- keys of ka are those of kb
    have s1 : (ka.map (·.1)) ⊆ (kb.map (·.1)) := fun k hk => by
      obtain ⟨p, hp, rfl⟩ := List.mem_map.mp hk
      exact List.mem_map.mpr ⟨_, valD_mem (sub p hp), rfl⟩
    intro k
    cases q : valD ka k with
    | some d => exact (sub _ (valD_mem q)).symm
    | none =>
      cases r : valD kb k with
      | none => rfl
      | some d =>
        have hk : k ∈ kb.map (·.1) := List.mem_map.mpr ⟨_, valD_mem r, rfl⟩
        by_cases hka : k ∈ ka.map (·.1)
        · obtain ⟨p, hp, rfl⟩ := List.mem_map.mp hka
          rw [valD_of na hp] at q
          cases q
        · have := len_sub (k :: ka.map (·.1)) (kb.map (·.1)) (List.nodup_cons.mpr ⟨hka, na⟩) fun y hy => by
            rcases List.mem_cons.mp hy with e | e
            · rw [e]; exact hk
            · exact s1 e
          simp at this
          omega
  · intro h
    have sub : ∀ {x y : List NKD}, (x.map (·.1)).Nodup → (∀ k, valD x k = valD y k) → (x.map (·.1)) ⊆ (y.map (·.1)) := fun nx hxy k hk => by
      obtain ⟨p, hp, rfl⟩ := List.mem_map.mp hk
      have := hxy p.1
      rw [valD_of nx hp] at this
      exact List.mem_map.mpr ⟨_, valD_mem this.symm, rfl⟩
    refine ⟨?_, fun p hp => ?_⟩
    · have l1 := len_sub _ _ na (sub na h)
      have l2 := len_sub _ _ nb (sub nb fun k => (h k).symm)
      simp at l1 l2
      omega
    · rw [← h p.1, valD_of na hp]
      exact Dt.beq_self _
end GT

namespace GT
open PySem PySem.Spec PyProof.Rows L2
abbrev YD (h : Heap) : List (NestedKey × Addr × Value) → List NKD → Prop := Paired fun y q => y.1 = q.1 ∧ DtIs h q.2 y.2.2 ∧ q.2.depth ≤ 8
section
variable {X : Cx} {pins : List (Addr × Obj)} {σ : L2.St} {H : Hp} {s : Shared}
theorem yd_of (I : Inv X pins σ H s) : ∀ {xs : List (NestedKey × Addr × V)} {ys : List (NestedKey × Addr × Value)} {da : List NKD}, NdRel xs ys → DD X.K H (plainX xs) da → YD s.heap ys da := by
  intro xs ys da r
  induction r generalizing da with
  | nil =>
    intro d
    have d' : DD X.K H [] da := d
    cases d'
    exact .nil
  | @cons p q ps qs h t ih =>
    intro d
    have d' : DD X.K H ((p.1, p.2.2) :: plainX ps) da := d
    cases d' with
    | cons e et => exact .cons ⟨h.1.symm.trans e.1, DtAt.is I _ _ _ e.2.1 h.2.2, e.2.2.2⟩ (ih et)
theorem YD.keys {h : Heap} {ys : List (NestedKey × Addr × Value)} {da : List NKD} (r : YD h ys da) : ys.map (·.1) = da.map (·.1) := by
  induction r with
  | nil => rfl
  | cons h _ ih => rw [List.map_cons, List.map_cons, h.1, ih]
theorem YD.len {h : Heap} {ys : List (NestedKey × Addr × Value)} {da : List NKD} (r : YD h ys da) : ys.length = da.length := Paired.length r
theorem YD.at {h : Heap} {ys : List (NestedKey × Addr × Value)} {da : List NKD} (r : YD h ys da) {k : NestedKey} {p : Addr × Value} (m : (k, p) ∈ ys) : ∃ d, (k, d) ∈ da ∧ DtIs h d p.2 ∧ d.depth ≤ 8 := by
  induction r with
  | nil => cases m
  | @cons y q _ _ e _ ih =>
    rcases List.mem_cons.mp m with z | m
    · subst z
      obtain ⟨k', d'⟩ := q
      obtain ⟨rfl, e2, e3⟩ := e
      exact ⟨_, List.mem_cons_self, e2, e3⟩
    · obtain ⟨d, hd, x⟩ := ih m
      exact ⟨d, List.mem_cons_of_mem _ hd, x⟩
theorem YD.hits {A : Around} {yb : List (NestedKey × Addr × Value)} {db : List NKD} (hu : A.units + 32 < cLine) (rb : YD s.heap yb db) (nb : (db.map (·.1)).Nodup) {ya : List (NestedKey × Addr × Value)} {da : List NKD} (r : YD s.heap ya da) :
    HHits A s yb ya (da.all fun p => match valD db p.1 with
      | none => false
      | some d => Dt.beq p.2 d) := by
  induction r with
  | nil => exact .nil
  | @cons y q _ _ e _ ih =>
    obtain ⟨k, a, u⟩ := y
    obtain ⟨k', d⟩ := q
    obtain ⟨e1, e2, e3⟩ := e
    obtain rfl : k = k' := e1
    rw [List.all_cons]
    cases hv : valD db k with
    | none =>
      simp only [hv, Bool.false_and]
      refine .miss fun p hp => ?_
      obtain ⟨d', hd, _⟩ := rb.at hp
      rw [valD_of nb hd] at hv
      cases hv
    | some d2 =>
      simp only [hv]
      refine .hit ?_ (fun p hp => ?_) ih
      · have hm : k ∈ yb.map (·.1) := by rw [rb.keys]; exact List.mem_map.mpr ⟨_, valD_mem hv, rfl⟩
        obtain ⟨⟨k2, p⟩, hp, ek⟩ := List.mem_map.mp hm
        obtain rfl : k2 = k := ek
        exact ⟨p, hp⟩
      · obtain ⟨d', hd, h1, h2⟩ := rb.at hp
        rw [valD_of nb hd] at hv
        cases hv
        exact eqAt_dt d _ A s u p.2 e2 h1 (by omega)
end
section
variable {P : Program} {w : World} {K : PySem.W.Frag} {X : Cx}
def rEqN (P : Program) (w : World) (K : PySem.W.Frag) : R2 := fun x y H Q => ∃ a b ka kb da db, x = .ref a ∧ y = .ref b ∧ NDR P w K H a ka ∧ NDR P w K H b kb ∧ DD K H ka da ∧ DD K H kb db ∧
  ((da.map (·.1)).Nodup → (db.map (·.1)).Nodup → Q (.bl (dEq da db)) H)
def rNeN (P : Program) (w : World) (K : PySem.W.Frag) : R2 := fun x y H Q => ∃ a b ka kb da db, x = .ref a ∧ y = .ref b ∧ NDR P w K H a ka ∧ NDR P w K H b kb ∧ DD K H ka da ∧ DD K H kb db ∧
  ((da.map (·.1)).Nodup → (db.map (·.1)).Nodup → Q (.bl (!dEq da db)) H)
theorem DictOfH.nd {h : Heap} {P : Program} {w : World} {d : Addr} {ys : List (NestedKey × Addr × Value)} (x : h.DictOfH (nestedKind P w) d ys) : (ys.map (·.1)).Nodup := by
  obtain ⟨_, _, _, _, _, _, _, _, n⟩ := x
  exact n
theorem op_eqN (eP : X.prog = P) (ew : X.w = w) (eK : X.K = K) (hu : X.A.units + 64 < cLine) : OpR X (compareOp .Eq) (rEqN P w K) := by
  subst eP; subst ew; subst eK
  intro pins s σ H x y v u Q I rx ry h
  obtain ⟨a, b, ka, kb, da, db, rfl, rfl, ⟨xa, ea, ksa, rfl⟩, ⟨xb, eb, ksb, rfl⟩, dda, ddb, q⟩ := h
  obtain rfl : v = Value.ref a := rx
  obtain rfl : u = Value.ref b := ry
  obtain ⟨_, ha, ya, ra, oa⟩ := nd_raw I ea ksa
  obtain ⟨_, hb, yb, rb, ob⟩ := nd_raw I eb ksb
  have ja := yd_of I ra dda
  have jb := yd_of I rb ddb
  have na : (da.map (·.1)).Nodup := by rw [← ja.keys]; exact DictOfH.nd oa
  have nb : (db.map (·.1)).Nodup := by rw [← jb.keys]; exact DictOfH.nd ob
  have hu1 : X.A.in1.units = X.A.units + 1 := Around.in1_units ..
  refine h_eq (knd := nestedKind X.prog X.w) (show X.A.in1.units + 8 < cLine by omega) ha hb oa ob (by omega) (fun _ => YD.hits (by omega) jb nb ja) ?_
  refine ⟨.bl _, H, I, rfl, ?_⟩
  rw [ja.len, jb.len]
  exact q na nb
theorem op_neN (eP : X.prog = P) (ew : X.w = w) (eK : X.K = K) (hu : X.A.units + 64 < cLine) : OpR X (compareOp .NotEq) (rNeN P w K) := by
  subst eP; subst ew; subst eK
  intro pins s σ H x y v u Q I rx ry h
  obtain ⟨a, b, ka, kb, da, db, rfl, rfl, ⟨xa, ea, ksa, rfl⟩, ⟨xb, eb, ksb, rfl⟩, dda, ddb, q⟩ := h
  obtain rfl : v = Value.ref a := rx
  obtain rfl : u = Value.ref b := ry
  obtain ⟨_, ha, ya, ra, oa⟩ := nd_raw I ea ksa
  obtain ⟨_, hb, yb, rb, ob⟩ := nd_raw I eb ksb
  have ja := yd_of I ra dda
  have jb := yd_of I rb ddb
  have na : (da.map (·.1)).Nodup := by rw [← ja.keys]; exact DictOfH.nd oa
  have nb : (db.map (·.1)).Nodup := by rw [← jb.keys]; exact DictOfH.nd ob
  have hu1 : X.A.in1.units = X.A.units + 1 := Around.in1_units ..
  refine h_ne (knd := nestedKind X.prog X.w) (show X.A.in1.units + 8 < cLine by omega) ha hb oa ob (by omega) (fun _ => YD.hits (by omega) jb nb ja) ?_
  refine ⟨.bl _, H, I, rfl, ?_⟩
  rw [ja.len, jb.len]
  exact q na nb
end
end GT

/-! ## methods and makers -/
namespace GT
open PySem PySem.Spec PyProof.Rows L2
def Dfm (K : PySem.W.Frag) (C : Addr) (d : He.DefD) : Prop := ∃ (f : Addr) (fd : FuncData), FunD K d.name d.qual d.params d.body d.scope [] [] f fd ∧ Meth K C d.name f
def Dfi (K : PySem.W.Frag) (mg : Str → Option Value) (C : Addr) (x : Str) (d : He.DefD) : Prop := ∃ (f : Addr) (fd : FuncData), FunD K d.name d.qual d.params d.body d.scope [] [] f fd ∧ (Mk K C f ∧ mg x = some (.ref C))
def Mth (P : Program) (w : World) (K : PySem.W.Frag) (mg : Str → Option Value) (base : Heap) (k : Nat) (C : Addr) (m : Str) (ps : List Str) (sp : Sp) : Prop :=
  ∃ (f : Addr) (fd : FuncData), FnOk P w K mg base CX0 k f fd ps sp ∧ Meth K C m f ∧ PySem.W.keepIn K (.ref f) = true ∧ Binds K fd ps []
def Mki (P : Program) (w : World) (K : PySem.W.Frag) (mg : Str → Option Value) (base : Heap) (k : Nat) (C : Addr) (x : Str) (ps : List Str) (sp : Sp) : Prop :=
  ∃ (f : Addr) (fd : FuncData), FnOk P w K mg base CX0 k f fd ps sp ∧ (Mk K C f ∧ mg x = some (.ref C)) ∧ PySem.W.keepIn K (.ref f) = true ∧ Binds K fd ps []
section
variable {X : Cx} {o e : Expr} {es : List Expr} {t : TA} {ta : TE} {x m : Str} {p pos apos : Pos} {ps : List Str} {sp : Sp} {k : Nat} {C : Addr}
theorem pc_meth {pl : Sem Bool} (he : PE X o ta) (c : Cls X.K C) (M : Mth X.prog X.w X.K X.mg X.base k C m ps sp) (hr : Room k X.A) (ha : PA X (e :: es) t)
    (hst : starEach (e :: es) X.env = (false, eval e X.env) :: starEach es X.env := by rfl) (hpl : (backTo pos (starEach es X.env)).any (·.1) = false := by rfl)
    (ht : eval (.Call (.Attribute o m apos) (e :: es) [] pos) X.env = (do
      let ov ← eval o X.env
      standAt apos.atName
      let (f, first) ← holding [ov] (getMethod ov m pl)
      callWith pos f first (backTo pos (starEach (e :: es) X.env)) (backToKw pos (keywordEach [] X.env))) := by rfl) :
    PE X (.Call (.Attribute o m apos) (e :: es) [] pos) (tMeth C m sp [] E0 ta t) := by
  obtain ⟨f, fd, F, hm, hk, hb⟩ := M
  exact pe_meth he c hm F hr hb .nil pass0 ha hst hpl ht
theorem pc_meth0 {pl : Sem Bool} (he : PE X o ta) (c : Cls X.K C) (M : Mth X.prog X.w X.K X.mg X.base k C m ps sp) (hr : Room k X.A)
    (ht : eval (.Call (.Attribute o m apos) [] [] pos) X.env = (do
      let ov ← eval o X.env
      standAt apos.atName
      let (f, first) ← holding [ov] (getMethod ov m pl)
      callWith pos f first (backTo pos (starEach [] X.env)) (backToKw pos (keywordEach [] X.env))) := by rfl) :
    PE X (.Call (.Attribute o m apos) [] [] pos) (tMeth C m sp [] E0 ta tNil) := by
  obtain ⟨f, fd, F, hm, hk, hb⟩ := M
  exact pe_meth0 he c hm F hr hb .nil pass0 ht
theorem pc_make0 (M : Mki X.prog X.w X.K X.mg X.base k C x ps sp) (hr : Room (k + 1) X.A) (hg : Gl X x) (hdb : (x == ("__debug__" : Str)) = false := by decide) : PE X (.Call (.Name x p) [] [] pos) (tMake C sp [] E0 tNil) := by
  obtain ⟨f, fd, F, ⟨hm, hx⟩, hk, hb⟩ := M
  exact pe_make0 hm F hr hg hx hb .nil pass0 hdb
theorem pc_make (M : Mki X.prog X.w X.K X.mg X.base k C x ps sp) (hr : Room (k + 1) X.A) (hg : Gl X x) (ha : PA X (e :: es) t) (hdb : (x == ("__debug__" : Str)) = false := by decide)
    (he : starEach (e :: es) X.env = (false, eval e X.env) :: starEach es X.env := by rfl) (hpl : (backTo pos (starEach es X.env)).any (·.1) = false := by rfl) : PE X (.Call (.Name x p) (e :: es) [] pos) (tMake C sp [] E0 t) := by
  obtain ⟨f, fd, F, ⟨hm, hx⟩, hk, hb⟩ := M
  exact pe_make hm F hr hg hx hb .nil pass0 ha hdb he hpl
end
section
variable {σ : L2.St} {H : Hp} {Q : VK} {ta tv : TE} {t : TA} {K : PySem.W.Frag} {C : Addr} {m f : Str} {sp : Sp} {dvs : List V} {E : XK} {D : Ends}
theorem i_Meth (q : ta σ H fun x H1 => ∃ a dx fs, x = .ref a ∧ H1 a = some (.ins C dx fs) ∧ fs.lookup m = none ∧ t σ H1 fun vs H2 => sp (x :: (vs ++ dvs)) H2 Q E) : tMeth C m sp dvs E ta t σ H Q := q
theorem i_Make (q : t σ H fun vs H1 => ∀ x dx, H1 x = none → H1 dx = none → dx ≠ x → sp (.ref x :: (vs ++ dvs)) (upd (upd H1 dx (.own x)) x (.ins C dx [])) (fun v H2 => v = .non ∧ Q (.ref x) H2) E) : tMake C sp dvs E t σ H Q := q
theorem i_Fld (q : ta σ H fun x H1 => ∃ a C dx fs v, x = .ref a ∧ H1 a = some (.ins C dx fs) ∧ Cls K C ∧ NoAttr K C f ∧ fs.lookup f = some v ∧ Q v H1) : tFld K ta f σ H Q := q
theorem i_sFld (q : tv σ H fun y H1 => ta σ H1 fun x H2 => ∃ a C dx fs, x = .ref a ∧ H2 a = some (.ins C dx fs) ∧ Cls K C ∧ NoAttr K C f ∧ fs.length < 1000 ∧ D.nx σ (upd H2 a (.ins C dx (putF f y fs)))) : sFld K ta tv f D σ H := q
end
/-! ### stamps, pairs of numbers in order -/
def ltP2 (a b : Int × Int) : Bool := decide (a.1 < b.1 ∨ (a.1 = b.1 ∧ a.2 < b.2))
theorem ltP2_eq (a b : Int × Int) : PySem.W.dataLt (Dt.tup [.num a.1, .num a.2]).py (Dt.tup [.num b.1, .num b.2]).py = ltP2 a b := PySem.W.dataLt_ii a.1 a.2 b.1 b.2
theorem al2 (a b : Int × Int) : PySem.W.alike (Dt.tup [.num a.1, .num a.2]).py (Dt.tup [.num b.1, .num b.2]).py = true := rfl
theorem i_LtP {K : PySem.W.Frag} {H : Hp} {Q : VK} {x y : V} {a b : Int × Int} (hx : DtAt K H x (.tup [.num a.1, .num a.2])) (hy : DtAt K H y (.tup [.num b.1, .num b.2])) (q : Q (.bl (ltP2 a b)) H) : rLtO K x y H Q :=
  ⟨_, _, ⟨hx, hy, rfl, rfl, rfl, by simp [Dt.py], by simp [Dt.depth, Dt.depthAll]⟩, by rw [ltP2_eq]; exact q⟩
theorem i_GtP {K : PySem.W.Frag} {H : Hp} {Q : VK} {x y : V} {a b : Int × Int} (hx : DtAt K H x (.tup [.num a.1, .num a.2])) (hy : DtAt K H y (.tup [.num b.1, .num b.2])) (q : Q (.bl (ltP2 b a)) H) : rGtO K x y H Q :=
  ⟨_, _, ⟨hx, hy, rfl, rfl, rfl, by simp [Dt.py], by simp [Dt.depth, Dt.depthAll]⟩, by rw [ltP2_eq]; exact q⟩
end GT

/-! ## sorted, max of data -/
namespace GT
open PySem PySem.Spec PyProof.Rows L2 PySem.W
section
variable {X : Cx} {K : PySem.W.Frag} {H : Hp}
theorem Dt.flat_mem : ∀ {ds : List Dt} {d : Dt}, Dt.flatAll ds = true → d ∈ ds → d.flat = true
  | _ :: _, _, f, e => by
    simp only [Dt.flatAll, Bool.and_eq_true] at f
    rcases List.mem_cons.mp e with e | e
    · subst e; exact f.1
    · exact Dt.flat_mem f.2 e
theorem dts_each {pins : List (Addr × Obj)} {σ : L2.St} {s : Shared} (I : Inv X pins σ H s) : ∀ {xs : List V} {us : List Value} {ds : List Dt}, Vals xs us → DtsAt X.K H xs ds → EachIs (fun (u : Value) (d : Dt) => ∃ x, RelV x u ∧ DtAt X.K H x d) us ds
  | _, _, _, .nil, h => by cases h; exact .nil
  | _, _, _, .cons r rs, h => by
    cases h with
    | cons h1 h2 => exact .cons ⟨_, r, h1⟩ (dts_each I rs h2)
theorem each_dts : ∀ {us : List Value} {ds : List Dt}, EachIs (fun (u : Value) (d : Dt) => ∃ x, RelV x u ∧ DtAt K H x d) us ds → ∃ xs, Vals xs us ∧ DtsAt K H xs ds
  | _, _, .nil => ⟨[], .nil, .nil⟩
  | _, _, .cons ⟨x, r, h⟩ t => by
    obtain ⟨xs, h1, h2⟩ := each_dts t
    exact ⟨x :: xs, .cons r h1, .cons h h2⟩
def leD (d e : Dt) : Bool := dataLe false Dt.py d e
def rSortedD (K : PySem.W.Frag) : List V → Hp → VK → Prop := fun vs H Q => ∃ (a : Addr) (xs : List V) (ds : List Dt), vs = [.ref a] ∧ SqL K H a xs ∧ DtsAt K H xs ds ∧ Dt.flatAll ds = true ∧ Dt.depthAll ds ≤ 8 ∧ AllAlike (ds.map Dt.py) ∧ Sortable (ds.map Dt.py) ∧
  ∀ (p : Addr) (ys : List V), H p = none → DtsAt K H ys (ds.mergeSort leD) → Q (.ref p) (upd H p (.lst ys))
theorem cr_sortedD (hu : X.A.units + 64 < cLine) : CallR X (.builtin "sorted") (rSortedD X.K) := by
  intro pins s σ H vs us Q I r h
  obtain ⟨a, xs, ds, rfl, hs, hd, hf, hdp, hal, hsk, q⟩ := h
  obtain rfl := Vals.ref1 r
  obtain ⟨its, rv, hl, hz⟩ := I.list hs
  have e := dts_each I rv hd
  have er : EachIs (fun v d => ∃ as, Reads s.heap v (Dt.py d) as) its ds := (each_mem e).mono fun u d ⟨⟨x, rx, hx⟩, hm⟩ => ⟨[], DtIs.reads d u (Dt.flat_mem hf hm) (DtAt.is I d x u hx rx)⟩
  have ln : xs.length = ds.length := hd.length
  refine sorted_data hl.isList e er hal hsk (by rw [← ln]; exact hz) (fun d hm => ?_) fun out ho hR => ?_
  · have h1 := Dt.depth_mem hm
    have h2 := Dt.py_depth d
    omega
  · obtain ⟨ys, vy, dy⟩ := each_dts hR
    obtain ⟨ep, he'⟩ := sortedAll_at s.heap its out.toArray
    have hlen : ys.length ≤ sizeLine := by
      have h1 := vy.length
      have : ys.length = out.length := h1
      rw [this, ho, ← ln]; exact hz
    exact ⟨.ref _, upd H (s.heap.objs.size + 1) (.lst ys), I.laid (t' := s.toks) (fun _ _ => sortedAll_old) (Nat.le_succ _) ⟨hlen, out, ep, vy, he'⟩, rfl, q _ ys (I.hok.fresh (Nat.le_succ _)) dy⟩
end
end GT
namespace GT
open PySem PySem.Spec PyProof.Rows L2 PySem.W
section
variable {X : Cx}
theorem each_at {α β : Type} {R : α → β → Prop} : ∀ {us : List α} {ds : List β} {i : Nat} {u : α}, EachIs R us ds → us[i]? = some u → ∃ d, ds[i]? = some d ∧ R u d
  | _, _, _, _, .nil, e => by simp at e
  | _, _, 0, _, .cons r _, e => by simp at e; subst e; exact ⟨_, rfl, r⟩
  | _, _, i + 1, _, .cons _ t, e => by
    obtain ⟨d, h1, h2⟩ := each_at (i := i) t (by simpa using e)
    exact ⟨d, by simpa using h1, h2⟩
theorem maxD_mem : ∀ (xs : List PyData) (x : PyData), maxD x xs ∈ x :: xs
  | [], x => by simp [maxD]
  | y :: ys, x => by
    have e : maxD x (y :: ys) = maxD (if dataLt x y then y else x) ys := rfl
    rw [e]
    have h := maxD_mem ys (if dataLt x y then y else x)
    rcases List.mem_cons.mp h with z | z
    · rw [z]; split <;> simp
    · simp [z]
/-- max(xs, default=None): the data of xs are alike; what is greatest, as it stands -/
def rMaxN (K : PySem.W.Frag) : List V → List V → Hp → VK → Prop := fun vs zs H Q => ∃ (a : Addr) (xs : List V) (ds : List Dt), vs = [.ref a] ∧ zs = [.non] ∧ SqL K H a xs ∧ DtsAt K H xs ds ∧ Dt.flatAll ds = true ∧ Dt.depthAll ds ≤ 8 ∧ AllAlike (ds.map Dt.py) ∧ (∀ d ∈ ds, d.py ≠ .none) ∧
  (ds = [] → Q .non H) ∧ ∀ (d : Dt) (es : List Dt) (x : Dt) (v : V), ds = d :: es → x ∈ ds → x.py = maxD d.py (es.map Dt.py) → DtAt K H v x → Q v H
theorem cr_maxN (hc : X.calm = true) (hu : X.A.units + 64 < cLine) : CallRK X (.builtin "max") [Str.ofString "default"] (rMaxN X.K) := by
  intro pins s σ H vs zs us ws Q I r rz h
  obtain ⟨a, xs, ds, rfl, rfl, hs, hd, hf, hdp, hal, hnn, q0, q1⟩ := h
  obtain rfl := Vals.ref1 r
  obtain ⟨w1, rfl, e1⟩ := vals1 rz
  obtain rfl : w1 = Value.none := e1
  obtain ⟨its, rv, hl, hz⟩ := I.list hs
  have hr : ReadsAll s.heap its (Dt.pys ds) [] := DtAll.reads ds its hf (DtsAt.is I ds xs its hd rv)
  have hr' : ReadsAll s.heap (its.toArray).toList (ds.map Dt.py) [] := by rw [← Dt.pys_map]; simpa using hr
  have ha : AlikeAll (ds.map Dt.py) := ⟨fun x hx y hy => hal x hx y hy, fun x hx => by
    obtain ⟨d, hd, rfl⟩ := List.mem_map.mp hx
    exact hnn d hd⟩
  have hdep : PyData.depthAll (ds.map Dt.py) ≤ 8 := by rw [← Dt.pys_map, Dt.pys_depth]; exact hdp
  refine max_list_default (I.ok.hd hc) hl.isList hr' ha (by omega) (fun hnil h' tk k => ?_) fun y ys i v h' tk bs hx hv hR k => ?_
  · exact ⟨.non, H, I.kept k, rfl, q0 (by simpa using hnil)⟩
  · have hv' : its[i]? = some v := by simpa using hv
    obtain ⟨d, hdi, x, rx, hx2⟩ := each_at (dts_each I rv hd) hv'
    have hdm := List.mem_of_getElem? hdi
    have hrd := PyProof.Rows.Reads.keeps k (DtIs.reads d v (Dt.flat_mem hf hdm) (DtAt.is I d x v hx2 rx))
    have hmm : maxD y ys ∈ ds.map Dt.py := by rw [hx]; exact maxD_mem ys y
    have heq : d.py = maxD y ys := alike_unique _ _ v _ _ (hal _ (List.mem_map.mpr ⟨d, hdm, rfl⟩) _ hmm) hrd hR
    cases ds with
    | nil => cases hx
    | cons d0 es =>
      rw [List.map_cons] at hx
      injection hx with h1 h2
      refine ⟨x, H, I.kept k, rx, q1 d0 es d x rfl hdm (by rw [heq, ← h1, ← h2]) hx2⟩
end
end GT

/-! ## a lambda of one parameter, a tuple: (x[0], x[1], x[2]) -/
namespace GT
open PySem PySem.Spec PyProof.Rows L2
section
variable {prog : Program} {w : World} {A : Around} {E : Value → Shared → Prop} {s : Shared} {env : Env}
theorem raw_ix {x : Str} {p p2 pos : Pos} {kd : Nat} {k : Nat} {t : Addr} {items : Array Value} {v : Value} {m : Str → Option Value} {Q : Value → Shared → Prop} (hk : env.scope.kind = .function) (hl : env.kindOf x = some .local) (hn : s.heap.Ns env.locals m) (hm : m x = some (.ref t)) (ht : IsTup s.heap t items) (hv : items[k]? = some v) (h9 : k < 9)
    (q : Q v { s with toks := s.toks + 1 }) (hd : (x == ("__debug__" : Str)) = false) : wpAny (model prog w) A (eval (.Subscript (.Name x p) (.Constant (.int (k : Int)) kd p2) pos) env) Q E s := by
  have hlt : k < items.size := (Array.getElem?_eq_some_iff.mp hv).1
  refine subD_of (T := "tuple") slot_tuple_getitem.lookup (fun _ _ => rfl) (wpAny_Name (wpAny_loadName_local hk hl hn hm (wpAny_Constant_int ⟨ht.typeIs, ?_⟩)) hd)
  refine getItem_tuple (j := k) ht (by omega) (by omega) ?_ hv q
  unfold seqIndex?
  rw [if_neg (show ¬ (k : Int) < 0 by omega)]
  have h1 : (0 : Int) ≤ (k : Int) := by omega
  have h2 : (k : Int) < (items.size : Int) := by omega
  simp only [h1, h2, decide_true, Bool.and_true, if_true]
  simp
theorem raw_key3 {x : Str} {p0 p1 p2 q0 q1 q2 r0 r1 r2 pos : Pos} {d0 d1 d2 kd : Nat} {t : Addr} {items : Array Value} {v0 v1 v2 : Value} {m : Str → Option Value} {Q : Value → Shared → Prop} (hk : env.scope.kind = .function) (hl : env.kindOf x = some .local) (hn : s.heap.Ns env.locals m) (hm : m x = some (.ref t)) (ht : IsTup s.heap t items)
    (h0 : items[0]? = some v0) (h1 : items[1]? = some v1) (h2 : items[2]? = some v2) (hd : (x == ("__debug__" : Str)) = false)
    (q : Q (.ref s.heap.objs.size) { s with heap := s.heap.push { cls := .type "tuple", data := .seq #[v0, v1, v2] }, toks := s.toks + 3 }) :
    wpAny (model prog w) A (eval (.Tuple [.Subscript (.Name x p0) (.Constant (.int (0 : Int)) d0 q0) r0, .Subscript (.Name x p1) (.Constant (.int (1 : Int)) d1 q1) r1, .Subscript (.Name x p2) (.Constant (.int (2 : Int)) d2 q2) r2] kd pos) env) Q E s := by
  refine wpAny_Tuple ?_
  refine spliced_more (raw_ix (k := 0) hk hl hn hm ht h0 (by decide) ?_ hd)
  refine spliced_more (raw_ix (k := 1) hk hl hn hm ht h1 (by decide) ?_ hd)
  refine spliced_more (raw_ix (k := 2) hk hl hn hm ht h2 (by decide) ?_ hd)
  exact spliced_none ⟨by show 3 ≤ sizeLine; decide, q⟩
/-- the call of such a lambda -/
theorem lam_key3 {f c' t : Addr} {qual x : Str} {params : Arguments} {scope : Scope} {pm ctv : Value} {p0 p1 p2 q0 q1 q2 r0 r1 r2 pos : Pos} {d0 d1 d2 kd : Nat} {items : Array Value} {v0 v1 v2 : Value}
    (of : s.heap.get? f = some (PySem.W.kla_obj "<lambda>" qual params (.Tuple [.Subscript (.Name x p0) (.Constant (.int (0 : Int)) d0 q0) r0, .Subscript (.Name x p1) (.Constant (.int (1 : Int)) d1 q1) r1, .Subscript (.Name x p2) (.Constant (.int (2 : Int)) d2 q2) r2] kd pos) scope [] pm c' ctv))
    (rc : s.heap.CodeRec (.ref c') qual) (nl : s.heap.NoLimit) (room : A.depth < recursionLimit)
    (hbind : bindArgs (PySem.W.kla_fn "<lambda>" qual params (.Tuple [.Subscript (.Name x p0) (.Constant (.int (0 : Int)) d0 q0) r0, .Subscript (.Name x p1) (.Constant (.int (1 : Int)) d1 q1) r1, .Subscript (.Name x p2) (.Constant (.int (2 : Int)) d2 q2) r2] kd pos) scope [] pm (.ref c') ctv) ⟨[.ref t], []⟩ = pure [(x, .ref t)])
    (hk : scope.kind = .function) (co : scope.isCoroutine = false) (gen : scope.isGenerator = false) (hc : ∀ y ∈ scope.names, y.2 ≠ .cell) (hx : scope.names.lookup x = some .local) (hd : (x == ("__debug__" : Str)) = false)
    (ht : IsTup s.heap t items) (h0 : items[0]? = some v0) (h1 : items[1]? = some v1) (h2 : items[2]? = some v2) :
    wpAny (model prog w) A (call (.ref f) [.ref t]) (fun v s' => ∃ h' tk b, s' = { s with heap := h', toks := tk } ∧ (∀ b o, s.heap.get? b = some o → h'.get? b = some o) ∧ v = .ref b ∧ h'.get? b = some { cls := .type "tuple", data := .seq #[v0, v1, v2] }) (fun _ _ => False) s := by
  refine wpAny_call (codeAny_mono (R := fun r s' => ∃ v, r = .ok (.ret v) ∧ ∃ h' tk b, s' = { s with heap := h', toks := tk } ∧ (∀ b o, s.heap.get? b = some o → h'.get? b = some o) ∧ v = .ref b ∧ h'.get? b = some { cls := .type "tuple", data := .seq #[v0, v1, v2] }) ?_ fun r s' h => ?_)
  · refine PySem.W.kla_callFunE room of rfl co gen rfl rc ?_
    rw [hbind]
    refine wpAny_pure (wpAny_newFunctionEnv hc (fun y hy => ?_) (fun h₁ hns hsb => ⟨nl.fresh _ hsb, ?_⟩) hk)
    · rw [List.mem_singleton.mp hy]; exact hx
    · have kp : ∀ b o, s.heap.get? b = some o → h₁.get? b = some o := fun b o e => hsb.extBut b o (Nat.ne_of_lt (Heap.lt_size e)) (Heap.get?_push_of_some _ e)
      have ht1 : IsTup h₁ t items := let ⟨o, e, r⟩ := ht; ⟨o, kp _ _ e, r⟩
      refine PySem.W.kla_codeExpr (raw_key3 (items := items) hk ?_ hns ?_ ht1 h0 h1 h2 hd ?_)
      · first | exact hx | (show scope.names.lookup x = some .local; exact hx) | simpa [Env.kindOf] using hx
      · first | (simp; done) | (show List.lookup x [(x, Value.ref t)] = _; simp [List.lookup])
      · exact ⟨_, rfl, _, _, _, rfl, fun b o e => Heap.get?_push_of_some _ (kp b o e), rfl, Heap.get?_push_size _ rfl⟩
  · obtain ⟨v, rfl, h⟩ := h
    exact h
end
end GT
/-! ## sorted(d, key=f): the keys of a dict -/
namespace GT
open PySem PySem.Spec PySem.Calls PyProof.Rows L2 PySem.W
section
variable {prog : Program} {w : World} {A : Around} {E : Value → Shared → Prop} {s : Shared} {β : Type} {bs : List β} {R : Value → β → Prop}
theorem each_of_items {P : Nat → Value → Prop} {acc : Array Value} (it : ItemsOf P acc bs.length) (h : ∀ (i : Nat) (v : Value) (b : β), P i v → bs[i]? = some b → R v b) : EachIs R acc.toList bs := by
  obtain ⟨hn, hp⟩ := it
  refine EachIs.of_zip (by rw [Array.length_toList]; exact hn) fun p hm => ?_
  obtain ⟨i, hi⟩ := List.getElem?_of_mem hm
  rw [List.getElem?_zip_eq_some] at hi
  refine h i p.1 p.2 (hp i p.1 ?_) hi.2
  rw [← Array.getElem?_toList]; exact hi.1
theorem raw_sorted_dict {d q : Addr} {es : Array DictEntry} {ep : Nat} {Q : Value → Shared → Prop} (k : β → PyData) (lo : (d == sysModules) = false) (hm : s.heap.DictRaw d es ep) (hh : A.handled = none) (hn : es.size ≤ sizeLine) (hes : es.size = bs.length)
    (hit : ∀ (i : Nat) (b : β) (hi : i < es.size), bs[i]? = some b → R es[i].key b) (hal : AllAlike (bs.map k)) (hk : Sortable (bs.map k)) (hu : ∀ x, x ∈ bs → A.units + 2 + (k x).depth < cLine)
    (turn : ∀ (v : Value) (x : β), R v x → x ∈ bs → ∀ (h : Heap) (tk : Nat), (∀ b o, s.heap.get? b = some o → h.get? b = some o) →
      wpAny (model prog w) A.in1.in1 (call (.ref q) [v]) (KeyPure (k x) { s with heap := h, toks := tk }) (fun _ _ => False) { s with heap := h, toks := tk })
    (h : ∀ (out : List Value) (c : Nat) (h1 h' : Heap) (tk : Nat) (a : Addr), (∀ b o, s.heap.get? b = some o → h1.get? b = some o) → (∀ b o, h1.get? b = some o → h'.get? b = some o) → h1.objs.size ≤ a → h'.get? a = some (seqObj "list" (List.toArray out) c) → out.length = bs.length → EachIs R out (bs.mergeSort (dataLe false k)) →
      Q (.ref a) { s with heap := h', toks := tk }) :
    wpAny (model prog w) A (call (.builtin "sorted") [.ref d] [(Str.ofString "key", .ref q)]) Q E s := by
  refine call_function_entry_kw kind_sorted plain_sorted entry_sorted (ksk_s1 _ _) ?_
  unfold Builtin.«sorted»
  refine wpAny_bind (m := checkCount "sorted" 1 1 _) (wpAny_pure ?_)
  refine wpAny_bind (kdu_collect (A := A.in1) (KdlSrc.rawDict lo) hh hm hn fun h1 tk1 acc hk1 hacc => ?_)
  have he : EachIs R acc.toList bs := each_of_items (P := fun i v => ∃ hi : i < es.size, v = es[i].key) ⟨hacc.1.trans hes, hacc.2⟩ fun i v b ⟨hi, e⟩ hb => by rw [e]; exact hit i b hi hb
  have hl : acc.toList.length = bs.length := he.length
  have hz : acc.toList.length ≤ sizeLine := by rw [hl, ← hes]; exact hn
  refine wpAny_bind (wpAny_newList ?_ hz)
  have ho : (h1.push { cls := .type "list", data := .seq acc.toList.toArray }).get? h1.objs.size = some (seqObj "list" acc.toList.toArray 0) := Heap.get?_push_size _ rfl
  refine wpAny_bind (wpAny_holding (wpAny_call_entry_kw slot_list_sort ⟨_, ho, rfl⟩ entry_list_sort ?body (ksk_l1 _ _)))
  case body =>
    rw [ksk_t1]
    refine wpAny_mono (keyH_tree (A := A.in1.in1) (E := fun _ _ => False) (P := fun f s' => ∃ out c h' tk, f = .done (.ret .none) ∧ s' = { s with heap := h', toks := tk } ∧ (∀ b o, h1.get? b = some o → h'.get? b = some o) ∧ h'.get? h1.objs.size = some (seqObj "list" (List.toArray out) c) ∧ out.length = bs.length ∧ EachIs R out (bs.mergeSort (dataLe false k)))
      (kz := bs.map k) (s := { s with heap := h1.push { cls := .type "list", data := .seq acc.toList.toArray }, toks := tk1 }) ho (by rw [List.length_map]; exact hl.symm) hz hal hk (bound_map (A := A.in1.in1) hu)
      (keyH_turns (s := { s with heap := h1.push { cls := .type "list", data := .seq acc.toList.toArray }, toks := tk1 }) he fun v x hR hx h tk kp => turn v x hR hx h tk fun b o e => kp b o (Nat.ne_of_lt (Heap.lt_size (hk1 b o e))) (Heap.get?_push_of_some _ (hk1 b o e)))
      fun h' tk out c kp hD ko => ⟨out, c, h', tk, rfl, rfl, fun b o e => kp b o (Nat.ne_of_lt (Heap.lt_size e)) (Heap.get?_push_of_some _ e), hD, (ko.length (by rw [List.length_map]; exact hl.symm)).trans hl, keyedOut_each k ko he⟩) (fun f s' hf => ?_) fun _ _ e => e.elim
    obtain ⟨out, c, h', tk, rfl, rfl, hkp, hD, ho2, hR2⟩ := hf
    exact ⟨_, rfl, wpAny_pure ⟨_, rfl, h out c h1 h' tk _ hk1 hkp (Nat.le_refl _) hD ho2 hR2⟩⟩
end
end GT

/-! ## rules with K told (for the blocks of comprehensions) -/
namespace GT
open PySem PySem.Spec PyProof.Rows L2
section
variable {X : Cx} {K : PySem.W.Frag}
theorem ix_tupK (e : X.K = K) : IxR X (rIxT K) := by subst e; exact ix_tup
theorem ix_listK (e : X.K = K) : IxR X (rIxL K) := by subst e; exact ix_list
theorem op_eqTK (e : X.K = K) (hu : X.A.units + 64 < cLine) : OpR X (compareOp .Eq) (rEqT K) := by subst e; exact op_eqT hu
theorem op_neTK (e : X.K = K) (hu : X.A.units + 64 < cLine) : OpR X (compareOp .NotEq) (rNeT K) := by subst e; exact op_neT hu
theorem op_inTK (e : X.K = K) (hu : X.A.units + 64 < cLine) : OpR X (compareOp .In) (rInT K) := by subst e; exact op_inT hu
theorem op_notInTK (e : X.K = K) (hu : X.A.units + 64 < cLine) : OpR X (compareOp .NotIn) (rNotInT K) := by subst e; exact op_notInT hu
theorem op_ltOK (e : X.K = K) (hu : X.A.units + 64 < cLine) : OpR X (compareOp .Lt) (rLtO K) := by subst e; exact op_ltO hu
theorem op_gtOK (e : X.K = K) (hu : X.A.units + 64 < cLine) : OpR X (compareOp .Gt) (rGtO K) := by subst e; exact op_gtO hu
theorem pe_fldK {e : Expr} {ta : TE} {f : Str} {pos : Pos} (eK : X.K = K) (he : PE X e ta) (hb : attributeBase e f X.env (eval e X.env) = eval e X.env) : PE X (.Attribute e f pos) (tFld K ta f) := by subst eK; exact pe_fld he hb
end
end GT

/-! ## a lambda made: what its making changes, told exactly -/
namespace GT
open PySem PySem.Spec PyProof.Rows L2 LamX
section
variable {X : Cx} {pins : List (Addr × Obj)} {σ : L2.St} {H : Hp} {s : Shared}
theorem codeO_tbl {c : Addr} {q : Str} : ∀ ps, CodeO c q ≠ .tbl ps := fun ps => codeO_ne ps
/-- the table at P: its code objects, of the name q, are among L -/
structure Tab (H : Hp) (P : Addr) (q : Str) (L : List Addr) : Prop where
  ex : ∃ ps : Array Value, H P = some (.tbl ps) ∧ TriplesOk ps.toList ∧ ∀ (pos : Pos) (cv : Value), codeAmong pos ps.toList = some cv → ∃ c ∈ L, cv = .ref c
  codes : ∀ c ∈ L, H c = some (CodeO c q)
theorem Tab.nil {H : Hp} {P : Addr} {q : Str} (h : H P = some (.tbl #[])) : Tab H P q [] := ⟨⟨#[], h, True.intro, fun pos cv hc => by
  have z : codeAmong pos [] = some cv := hc
  simp [codeAmong] at z⟩, fun c hc => nomatch hc⟩
theorem Tab.stp {H H1 : Hp} {P : Addr} {q : Str} {L M : List Addr} (t : Tab H P q L) (s : Stp M H H1) (nP : P ∉ M) (nL : ∀ c ∈ L, c ∉ M) : Tab H1 P q L :=
  ⟨let ⟨ps, h, r⟩ := t.ex; ⟨ps, s.keep _ _ h nP, r⟩, fun c hc => s.keep _ _ (t.codes c hc) (nL c hc)⟩
theorem Tab.grow {H H1 : Hp} {P : Addr} {q : Str} {L : List Addr} (t : Tab H P q L) (s : Stp [] H H1) : Tab H1 P q L := t.stp s (by simp) (fun _ _ => by simp)
theorem Tab.there {H : Hp} {P : Addr} {q : Str} {L : List Addr} (t : Tab H P q L) : ∃ ps, H P = some (.tbl ps) := let ⟨ps, h, _⟩ := t.ex; ⟨ps, h⟩
/-- the table with one code object more -/
theorem tab_more {P c : Addr} {q : Str} {ps : Array Value} {pos : Pos} {L : List Addr} (hP : H P = some (.tbl ps)) (ht : TriplesOk ps.toList) (ha : ∀ p' cv, codeAmong p' ps.toList = some cv → ∃ c ∈ L, cv = .ref c) (hL : ∀ c ∈ L, H c = some (CodeO c q)) (nC : H c = none) :
    Tab (upd (upd H P (.tbl (ps ++ #[rawInt pos.line, rawInt pos.col, .ref c]))) c (CodeO c q)) P q (c :: L) ∧ Stp [P] H (upd (upd H P (.tbl (ps ++ #[rawInt pos.line, rawInt pos.col, .ref c]))) c (CodeO c q)) := by
  have nPc : P ≠ c := ne_of_none hP nC
  have at_ : ∀ b, b ≠ P → b ≠ c → upd (upd H P (.tbl (ps ++ #[rawInt pos.line, rawInt pos.col, .ref c]))) c (CodeO c q) b = H b := fun b h1 h2 => by rw [upd_ne h2, upd_ne h1]
  refine ⟨⟨⟨_, by rw [upd_ne nPc, upd_same], ?_, fun p' cv hcv => ?_⟩, fun c0 h0 => ?_⟩, ⟨fun b o e n => ?_, fun b xs e => ?_, fun b qs e => ?_⟩⟩
  · rw [Array.toList_append]; exact PySem.TriplesOk_snoc _ _ _ _ ht
  · rw [Array.toList_append] at hcv
    rcases among_app _ ht hcv with z | z
    · obtain ⟨c0, e1, e2⟩ := ha p' cv z
      exact ⟨c0, List.mem_cons_of_mem _ e1, e2⟩
    · exact ⟨c, List.mem_cons_self, z⟩
  · rcases List.mem_cons.mp h0 with z | z
    · rw [z]; exact upd_same
    · have e2 := hL c0 z
      have h1 : c0 ≠ P := fun z => by rw [z, hP] at e2; exact codeO_tbl _ (Option.some.inj e2).symm
      rw [at_ c0 h1 (ne_of_none e2 nC)]; exact e2
  · rw [at_ b (fun z => n (by rw [z]; simp)) (ne_of_none e nC)]; exact e
  · have h1 : b ≠ P := fun z => by rw [z, hP] at e; cases e
    rw [at_ b h1 (ne_of_none e nC)]; exact e
  · by_cases h1 : b = P
    · exact ⟨ps, by rw [h1]; exact hP⟩
    · by_cases h2 : b = c
      · rw [h2, upd_same] at e; exact absurd (Option.some.inj e) (codeO_tbl _)
      · rw [at_ b h1 h2] at e; exact ⟨qs, e⟩
/-- the function object at f stands as it was made -/
def LamO (f : Addr) (ob : Obj) : HO := .ext fun h => h.get? f = some ob
theorem lamO_ok {P : Program} {w : World} {H : Hp} {h : Heap} {f : Addr} {ob : Obj} (e : h.get? f = some ob) : ObjOk P w H h f (LamO f ob) := ⟨e, ⟨ob, e⟩, fun _ _ y k => k _ y⟩
theorem lamO_tbl {f : Addr} {ob : Obj} : ∀ ps, LamO f ob ≠ .tbl ps := fun _ z => nomatch z
/-- the evaluation of a lambda that captures nothing -/
def tLam (P : Addr) (q : Str) (params : Arguments) (body : Expr) (scope : Scope) (clo : List (Str × Addr)) : TE := fun _ H Q => ∃ L, Tab H P q L ∧ ∀ (f c' : Addr) (pm ctv : Value) (H1 : Hp) (L1 : List Addr), Tab H1 P q L1 → (∀ c ∈ L1, c ∈ L ∨ H c = none) → Stp [P] H H1 → H1 c' = some (CodeO c' q) → H f = none →
  H1 f = some (LamO f (PySem.W.kla_obj "<lambda>" q params body scope clo pm c' ctv)) → Q (.ref f) H1
theorem pe_lam {c P : Addr} {params : Arguments} {body : Expr} {scope : Scope} {pos : Pos} (TB : TabB X.base X.mg c P) (hcode : X.env.code = .ref c) (hdef : defaultsOf params X.env = ([], [])) (hfree : ∀ y ∈ scope.names, y.2 ≠ .free) :
    PE X (.Lambda params body scope pos) (tLam P (X.env.qual ++ "<lambda>") params body scope (cloFrom X.env.cells scope.names [])) := by
  refine ⟨fun pins s σ H Q I hh => ?_⟩
  obtain ⟨L, hT, h⟩ := hh
  have hT0 := hT
  obtain ⟨⟨ps, hP, ht, ha⟩, hL⟩ := hT
  have hP' : s.heap.get? P = some { cls := .none, data := .fields ps } := I.hok P _ hP
  have clo := closure_ok (env := X.env) (scope := scope) fun y hy e => absurd e (hfree y hy)
  have bP : s.heap.BuiltinsAt X.mg P := TB.bm.keeps I.bk
  refine PySem.W.kla_eval hdef ?_
  cases hc : codeAmong pos ps.toList with
  | some cv =>
    obtain ⟨c', hcL, rfl⟩ := ha pos cv hc
    have hco := hL c' hcL
    refine PySem.W.kla_makeFunctionHit (mg := X.mg) (c := c) (P := P) (ps := ps) clo I.ok.glob (I.mod.glob.keeps I.bk) hcode (TB.code.keeps I.bk) hP' ht hc bP fun ctv h' tk hx hsz => ?_
    have nf : H h'.objs.size = none := I.hok.fresh hsz
    have st : Stp [] H (upd H h'.objs.size (LamO h'.objs.size (PySem.W.kla_obj "<lambda>" (X.env.qual ++ "<lambda>") params body scope (cloFrom X.env.cells scope.names []) ((X.mg "__name__").getD .none) c' ctv))) := .new nf lamO_tbl
    exact ⟨.ref _, _, I.laid (t' := tk) (fun b o e => Heap.get?_push_of_some _ (hx b o e)) hsz (lamO_ok (Heap.get?_push_size _ rfl)), rfl, h _ c' _ ctv _ L (hT0.grow st) (fun c hc => .inl hc) (st.mono (by simp)) (st.keep _ _ hco (by simp)) nf upd_same⟩
  | none =>
    refine PySem.W.kla_makeFunction (mg := X.mg) (c := c) (P := P) (ps := ps) clo I.ok.glob (I.mod.glob.keeps I.bk) hcode (TB.code.keeps I.bk) hP' ht hc TB.gP bP fun c' ctv h' tk hx hge hlt hrec htb => ?_
    obtain ⟨c2, oc, vs, t, e2, hoc, hd, hv⟩ := hrec
    cases e2
    have nC : H c' = none := I.hok.fresh hge
    obtain ⟨t1, st1⟩ := tab_more (pos := pos) hP ht ha hL nC
    have I1 := inv_table (t' := tk) (more := #[rawInt pos.line, rawInt pos.col, .ref c']) (q := X.env.qual ++ "<lambda>") (h' := h') I hP hx htb hge ⟨oc, vs, t, hoc, hd, hv⟩
    have nf : H h'.objs.size = none := I.hok.fresh (Nat.le_trans hge (Nat.le_of_lt hlt))
    have nf1 := I1.hok.fresh (Nat.le_refl _)
    have st2 : Stp [] _ (upd _ h'.objs.size (LamO h'.objs.size (PySem.W.kla_obj "<lambda>" (X.env.qual ++ "<lambda>") params body scope (cloFrom X.env.cells scope.names []) ((X.mg "__name__").getD .none) c' ctv))) := Stp.new nf1 lamO_tbl
    have co1 := t1.codes c' List.mem_cons_self
    exact ⟨.ref _, _, I1.laid (t' := tk) (a := h'.objs.size) (o := LamO h'.objs.size (PySem.W.kla_obj "<lambda>" (X.env.qual ++ "<lambda>") params body scope (cloFrom X.env.cells scope.names []) ((X.mg "__name__").getD .none) c' ctv)) (fun b o e => Heap.get?_push_of_some _ e) (Nat.le_refl _) (lamO_ok (Heap.get?_push_size _ rfl)), rfl,
      h _ c' _ ctv _ (c' :: L) (t1.grow st2) (fun c hc => (List.mem_cons.mp hc).elim (fun z => .inr (by rw [z]; exact nC)) .inl) (st1.trans (st2.mono (by simp))) (st2.keep _ _ co1 (by simp)) nf upd_same⟩
end
end GT

/-! ## dict comprehensions whose keys are tuples -/
namespace GT
open PySem PySem.Spec PyProof.Rows L2
section
variable {X : Cx} {pins : List (Addr × Obj)} {σ : L2.St} {H : Hp} {s : Shared}
/-- one entry stored by a comprehension -/
theorem nd_store {E : Value → Shared → Prop} {Q : Unit → Shared → Prop} {D a : Addr} {k : NestedKey} {kvs : List NKV} {v : V} {u ku : Value} (hu : X.A.units + 9 < cLine) (I : Inv X pins σ H s) (g : ND X.prog X.w X.K H D kvs) (hk : KyAt X.K H (.ref a) k) (hl : kvs.length < sizeLine)
    (rk : RelV (.ref a) ku) (rv : RelV v u) (h : ∀ s' H', Inv X pins σ H' s' → ND X.prog X.w X.K H' D (putK kvs k v) → Stp [D] H H' → Q () s') : wpAny (model X.prog X.w) X.A (dictSet D ku u) Q E s := by
  obtain ⟨xs, e, ks, rfl⟩ := g
  obtain rfl : ku = Value.ref a := rk
  obtain ⟨z, hd, ys, rel, dd⟩ := nd_raw I (.inl e) ks
  rw [plainX_len] at hl
  have l1 : ys.length ≤ sizeLine := by rw [← Paired.length rel]; exact z
  have l2 : (putX xs k a v).length ≤ sizeLine := by have := putX_len xs k a v; omega
  have st : Stp [D] H (upd H D (ndO X.prog X.w D (putX xs k a v))) := .wr (by simp) e fun _ z => nomatch z
  refine wpAny_dictSet_heap (hsz := l1) (show X.A.units + 8 < cLine by omega) (hk.is I) dd fun h' dd' hs => h _ (upd H D (ndO X.prog X.w D (putX xs k a v))) ?_ ⟨_, upd_same, (ks.put hk).stp st, plainX_put xs k a v⟩ st
  obtain ⟨q, es, ep, hq, h2, h3, h4, _, h5⟩ := dd'
  exact d_write I (by rw [e]; exact True.intro) hs ⟨q, hq⟩ (ndO_ok ⟨l2, hd, _, rel.put k rv, q, es, ep, hq, h2, h3, h4, h5⟩)
/-- {k: v for target in iter if ..}: D the new dict -/
def tDn (P : Program) (w : World) (K : PySem.W.Frag) (wi : TI) (g : TG) (tt : TT) (tk tv : TE) (vs : List Nat) : TE := fun σ H Q => wi σ H fun J H1 => ∀ D H2, H1 D = none → ND P w K H2 D [] → Stp [] H1 H2 → ∃ W : Nat → Nat → Hp → Prop, (∃ m, W 0 m H2) ∧ ∀ i m H, W i m H →
  (J.stop i H ∧ Q (.ref D) H) ∨ (J.go i H ∧ ∃ Nx : Hp → Prop, (∀ H', Nx H' → ∃ m', m' < m ∧ W (i + 1) m' H') ∧ ∀ x H', J.yld i H x H' → g x (wipe σ vs) H' fun σ2 H2 => wipe σ2 vs = wipe σ vs ∧ tt σ2 H2 fun b H3 =>
    if b = true then tk σ2 H3 fun y H4 => tv σ2 H4 fun z H5 => ∃ a kvs k, y = .ref a ∧ ND P w K H5 D kvs ∧ KyAt K H5 (.ref a) k ∧ kvs.length < sizeLine ∧ ∀ H6, ND P w K H6 D (putK kvs k z) → Stp [D] H5 H6 → Nx H6 else Nx H3)
/-- what the block is made of, whatever frame it runs in -/
structure DcB (X : Cx) (scope : Scope) (tg : Expr) (ifs : List Expr) (kx vx : Expr) (g : TG) (tt : TT) (tk tv : TE) : Prop where
  tgt : ∀ (s : Shared) (H : Hp) (C : Addr) (cl : List (Str × Addr)) (fp : List Addr), PG (X.blk s H scope (compEnvC scope cl C X.env) fp) tg g
  tst : ∀ (s : Shared) (H : Hp) (C : Addr) (cl : List (Str × Addr)) (fp : List Addr), PTs (X.blk s H scope (compEnvC scope cl C X.env) fp) ifs tt
  key : ∀ (s : Shared) (H : Hp) (C : Addr) (cl : List (Str × Addr)) (fp : List Addr), PE (X.blk s H scope (compEnvC scope cl C X.env) fp) kx tk
  val : ∀ (s : Shared) (H : Hp) (C : Addr) (cl : List (Str × Addr)) (fp : List Addr), PE (X.blk s H scope (compEnvC scope cl C X.env) fp) vx tv
theorem dn_core {kx vx tg iter : Expr} {ifs : List Expr} {scope : Scope} {own : List (Str × Nat)} {pos pos' : Pos} {wi : TI} {g : TG} {tt : TT} {tk tv : TE} {Q : VK} {use : Option (Value → Sem Unit)} {Qf : Value → Shared → Prop} (hu : X.A.units + 9 < cLine) (hc : X.calm = true) (hN : X.N.Nodup) (I : Inv X pins σ H s) (hi : PI X tg iter wi)
    (ok : BlkOk X.N X.env.scope scope own) (B : DcB X scope tg ifs kx vx g tt tk tv) (fold : ∀ x, foldedSetIterable iter X.env x = pure x) (hq : tDn X.prog X.w X.K wi g tt tk tv (own.map (·.2)) σ H Q)
    (back : ∀ (D C : Addr) (s' : Shared) (m : Str → Option Value) (H' : Hp), Inv X pins σ H' s' → Q (.ref D) H' → s'.heap.Ns C m → FpOk X pins H' C → compPost (model X.prog X.w) X.A X.xe use Qf (.ref D) C (.ok .next) s') :
    wpAny (model X.prog X.w) X.A (comprehension (.DictComp kx vx [⟨tg, iter, ifs, 0⟩] scope pos) scope X.env pos' newDict false (eval iter X.env) use) Qf X.xe s := by
  have captured : ∀ y ∈ scope.names, y.2 = .free → ∃ c, X.env.cells.lookup y.1 = some c := fun y hy e =>
    (ok.free y hy e).elim (fun z => I.ok.has _ (.inl z)) fun z => I.ok.has _ (.inr z)
  refine wpAny_comprehension_free (use := use) rfl fold (closure_ok captured) ok.kind (fun y hy e => by rw [ok.uniq y hy, e]) (thn (hi.run pins s σ H _ I hq) fun _ s1 w1 => thn w1 fun _ s2 w2 => ?_)
  obtain ⟨it, fp, tn, J, H2, rfl, I2, T, t2, f2, body⟩ := w2
  refine wpAny_newObj_type (newEnv_comp ?_)
  -- the new dict at D
  generalize hD : s2.heap.objs.size = D
  have freeD : H2 D = none := I2.hok.fresh (Nat.le_of_eq hD)
  have got : (s2.heap.push { cls := .type "dict", data := .dict #[] }).get? D = some { cls := .type "dict", data := .dict #[] } := by
    rw [← hD]
    exact Heap.get?_push_size _ rfl
  generalize hs3 : ({ s2 with heap := s2.heap.push { cls := .type "dict", data := .dict #[] } } : Shared) = s3
  have hp3 : s3.heap = s2.heap.push { cls := .type "dict", data := .dict #[] } := by rw [← hs3]
  obtain ⟨H3, hH3⟩ : ∃ H3 : Hp, upd H2 D (ndO X.prog X.w D []) = H3 := ⟨_, rfl⟩
  have at3 : H3 D = some (ndO X.prog X.w D []) := by rw [← hH3]; exact upd_same
  have stp3 : Stp [] H2 H3 := by rw [← hH3]; exact .new freeD
  have I3 : Inv X pins σ H3 s3 := by
    rw [← hs3, ← hH3]
    refine I2.laid (a := D) (o := ndO X.prog X.w D []) (t' := s2.toks) (fun b o e => Heap.get?_push_of_some _ e) (Nat.le_of_eq hD) (ndO_ok ⟨Nat.zero_le _, beq_eq_false_iff_ne.mpr (Ne.symm (Nat.ne_of_lt (by rw [← hD]; exact I2.big))), [], .nil, _, #[], 0, got, ⟨rfl, rfl, rfl⟩, rfl, rfl, List.nodup_nil⟩)
  obtain ⟨W, ⟨m0, w0⟩, turn⟩ := body D H3 freeD ⟨[], at3, fun _ z => (nomatch z), rfl⟩ stp3
  have below : ∀ b ∈ fp, b < s2.heap.objs.size := fun b hb => by
    obtain ⟨o, e, _⟩ := T.obj _ _ t2 b hb
    exact Heap.lt_size e
  have f3 : ∀ b ∈ fp, FpOk X pins H3 b ∧ b < s3.heap.objs.size := fun b hb => by
    have lt := below b hb
    refine ⟨⟨?_, (f2 b hb).2⟩, by rw [hp3, Heap.size_push]; exact Nat.lt_succ_of_lt lt⟩
    rw [← hH3, upd_ne (by rw [← hD]; exact Nat.ne_of_lt lt)]
    exact (f2 b hb).1
  have t3 : tn 0 s3.heap := T.keep _ _ _ t2 fun b _ o e => by rw [hp3]; exact Heap.get?_push_of_some _ e
  have J4 := block_start I3 ok hN f3
  have kt := B.tgt s3 H3 s3.heap.objs.size (cellsFrom (s3.heap.objs.size + 1) scope.names (cloFrom X.env.cells scope.names [])) fp
  have kf := B.tst s3 H3 s3.heap.objs.size (cellsFrom (s3.heap.objs.size + 1) scope.names (cloFrom X.env.cells scope.names [])) fp
  have kk := B.key s3 H3 s3.heap.objs.size (cellsFrom (s3.heap.objs.size + 1) scope.names (cloFrom X.env.cells scope.names [])) fp
  have kv := B.val s3 H3 s3.heap.objs.size (cellsFrom (s3.heap.objs.size + 1) scope.names (cloFrom X.env.cells scope.names [])) fp
  have away : ∀ b ∈ fp, H3 b = none := fun b hb => (f3 b hb).1.1
  show codeAny _ _ (.compStart (.DictComp kx vx [⟨tg, iter, ifs, 0⟩] scope pos) 0 (.ref it) (.ref D) (compEnvC scope (cellsFrom (s3.heap.objs.size + 1) scope.names (cloFrom X.env.cells scope.names [])) s3.heap.objs.size X.env)) (compPost (model X.prog X.w) X.A X.xe use Qf (.ref D) s3.heap.objs.size) { s3 with heap := pushCells (s3.heap.push { cls := .type "dict", data := .dict #[] }) scope.names }
  generalize hce : compEnvC scope (cellsFrom (s3.heap.objs.size + 1) scope.names (cloFrom X.env.cells scope.names [])) s3.heap.objs.size X.env = ce at J4 kt kf kk kv ⊢
  have locals_ : ce.locals = s3.heap.objs.size := by rw [← hce]; rfl
  generalize hs4 : ({ s3 with heap := pushCells (s3.heap.push { cls := .type "dict", data := .dict #[] }) scope.names } : Shared) = s4 at J4 ⊢
  have t4 : tn 0 s4.heap := T.keep _ _ _ t3 fun b _ o e => by rw [← hs4]; exact pushCells_keeps _ _ _ _ (Heap.get?_push_of_some _ e)
  -- the iterator's objects are nobody's
  have calmF : ∀ {σ' : L2.St} {H' : Hp} {s' : Shared}, Inv (X.blk s3 H3 scope ce fp) [] σ' H' s' → (∀ b ∈ fp, H' b = none) → ∀ b ∈ fp, FpOk (X.blk s3 H3 scope ce fp) [] H' b := fun {σ' H' s'} I' hn b hb =>
    ⟨hn b hb, (I'.ok.exf b hb).1, I'.ok.exfs b hb, .inl hb, fun x c e => (I'.ok.exf b hb).2 x c e, fun p hp => absurd (show p ∈ ([] : List (Addr × Obj)) ++ [] from hp) (by simp)⟩
  suffices loop : codeAny (model X.prog X.w) X.A (.compLoop (.DictComp kx vx [⟨tg, iter, ifs, 0⟩] scope pos) 0 (.ref it) (.ref D) ce) (compPost (model X.prog X.w) X.A X.xe use Qf (.ref D) s3.heap.objs.size) s4 from
    codeAny_compStart_dict loop (T.self X.A 0 _ _ _ t4 loop)
  refine compLoop_anyD (fun n s' => ∃ i H', Inv (X.blk s3 H3 scope ce fp) [] (wipe σ (own.map (·.2))) H' s' ∧ tn i s'.heap ∧ (∀ b ∈ fp, H' b = none) ∧ W i n H') ?_ m0 ⟨0, H3, J4, t4, away, w0⟩
  rintro n s5 ⟨i, H5, J5, t5, n5, w5⟩
  rcases turn i n H5 w5 with ⟨stop, told⟩ | ⟨go, Nx, less, step⟩
  · refine thnF (T.done (X.blk s3 H3 scope ce fp) rfl rfl rfl hc i [] s5 _ H5 (fun _ _ => False) J5 (calmF J5 n5) t5 stop) fun r s6 ⟨hr6, J6⟩ => ?_
    subst hr6
    have I7 : Inv X pins σ H5 s6 := I3.call' (ch := fp) J6.os J6.base J6.hok J6.bare fun b hb => let f := (f3 b hb).1; ⟨f.2.2.2.1, f.2.1, f.2.2.2.2.1, f.2.2.2.2.2⟩
    have noC : H5 s3.heap.objs.size = none := by
      have z : H5 ce.locals = none := J6.free
      rwa [locals_] at z
    obtain ⟨m, hn, _⟩ := J6.loc
    have hn : s6.heap.Ns ce.locals m := hn
    rw [locals_] at hn
    exact back D _ s6 m H5 I7 told hn (I3.fpOk (Nat.le_refl _) noC)
  · refine thnF (T.item (X.blk s3 H3 scope ce fp) rfl rfl rfl hc i [] s5 _ H5 (fun _ _ => False) J5 (calmF J5 n5) t5 go) fun r s6 ⟨u, hr6, h6⟩ => ?_
    subst hr6
    refine thnF h6 fun _ s7 ⟨x, H7, J7, r7, y7, t7, n7⟩ => ?_
    have P7 := J7.pinned (calmF J7 n7) (T.obj _ _ t7)
    refine thnF (kt.run _ s7 _ H7 x u _ P7 r7 (step x H7 y7)) fun _ s8 ⟨σ8, H8, J8, hw, q8⟩ => thnF (kf.run _ s8 σ8 H8 _ J8 q8) fun b s9 ⟨H9, J9, q9⟩ => ?_
    -- behind a turn
    have next : ∀ {s' : Shared} {H' : Hp}, Inv (X.blk s3 H3 scope ce fp) ([] ++ pinsAt fp s7.heap) σ8 H' s' → Nx H' → ∃ m, m < n ∧ ∃ i H', Inv (X.blk s3 H3 scope ce fp) [] (wipe σ (own.map (·.2))) H' s' ∧ tn i s'.heap ∧ (∀ b ∈ fp, H' b = none) ∧ W i m H' := fun {s' H'} J' nx => by
      obtain ⟨m', lt, w'⟩ := less H' nx
      have stay : ∀ b ∈ fp, ∀ o, s7.heap.get? b = some o → s'.heap.get? b = some o ∧ H' b = none := fun b hb o e =>
        let z := J'.pin (b, o) (List.mem_append_right _ (List.mem_append_right _ (mem_pinsAt hb e)))
        ⟨z.1, z.2.1⟩
      refine ⟨m', lt, i + 1, H', (J'.unpinned (pins := [])).weak (by rw [← hw, wipe_length]) (fun j v e => ?_), T.keep _ _ _ t7 fun b hb o e => (stay b hb o e).1, fun b hb => ?_, w'⟩
      · rw [← hw] at e
        exact (wipe_some e).1
      · obtain ⟨o, e, _⟩ := T.obj _ _ t7 b hb
        exact (stay b hb o e).2
    cases b with
    | false => exact next J9 q9
    | true =>
      refine thnF (kk.run _ s9 σ8 H9 _ J9 q9) fun ku s10 ⟨y, H10, J10, r10, q10⟩ => thnF (kv.run _ s10 σ8 H10 _ J10 q10) fun vu s11 ⟨z, H11, J11, r11, a, kvs, k, ey, g11, k11, l11, nx⟩ => ?_
      subst ey
      exact nd_store (X := X.blk s3 H3 scope ce fp) hu J11 g11 k11 l11 r10 r11 fun s12 H12 J12 g12 st12 => next J12 (nx H12 g12 st12)
section
variable {kx vx tg iter : Expr} {ifs : List Expr} {scope : Scope} {own : List (Str × Nat)} {pos spos : Pos} {wi : TI} {g : TG} {tt : TT} {tk tv : TE} {P : Program} {w : World} {K : PySem.W.Frag} {kr : Nat}
theorem pe_dn (eP : X.prog = P) (ew : X.w = w) (eK : X.K = K) (hr : Room kr X.A) (hc : X.calm = true) (hN : X.N.Nodup) (hi : PI X tg iter wi)
    (ok : BlkOk X.N X.env.scope scope own) (hg : ∀ (s : Shared) (H : Hp) (C : Addr) (cl : List (Str × Addr)) (fp : List Addr), PG (X.blk s H scope (compEnvC scope cl C X.env) fp) tg g) (ht : ∀ (s : Shared) (H : Hp) (C : Addr) (cl : List (Str × Addr)) (fp : List Addr), PTs (X.blk s H scope (compEnvC scope cl C X.env) fp) ifs tt)
    (hk : ∀ (s : Shared) (H : Hp) (C : Addr) (cl : List (Str × Addr)) (fp : List Addr), PE (X.blk s H scope (compEnvC scope cl C X.env) fp) kx tk)
    (hv : ∀ (s : Shared) (H : Hp) (C : Addr) (cl : List (Str × Addr)) (fp : List Addr), PE (X.blk s H scope (compEnvC scope cl C X.env) fp) vx tv) (fold : ∀ x, foldedSetIterable iter X.env x = pure x := by intro _; rfl) :
    PE X (.DictComp kx vx [⟨tg, iter, ifs, 0⟩] scope pos) (tDn P w K wi g tt tk tv (own.map (·.2))) := by
  subst eP ew eK
  refine ⟨fun pins s σ H Q I hq => ?_⟩
  rw [arm_eval_DictComp]
  exact dn_core (hu9 hr) hc hN I hi ok ⟨hg, ht, hk, hv⟩ fold hq fun D C s' m H' I' q hn f => ⟨m, hn, fun h'' sb => ⟨.ref D, H', I'.turned (t' := s'.toks) (fun b o hb e => (sb.2 b hb).trans e) f.1 f.2.1 f.2.2.2.1 f.2.2.2.2.1 f.2.2.2.2.2, rfl, q⟩⟩
/-- kept under a name -/
theorem ps_setDn {i : Nat} {y : Str} {py : Pos} (eP : X.prog = P) (ew : X.w = w) (eK : X.K = K) (hr : Room kr X.A) (hc : X.calm = true) (hN : X.N.Nodup) (hy : X.N[i]? = some y) (hyl : X.env.scope.names.lookup y = some .local)
    (hsw : swapsWith (.DictComp kx vx [⟨tg, iter, ifs, 0⟩] scope pos) (some (.Name y py)) spos.line X.env = pure true) (hi : PI X tg iter wi)
    (ok : BlkOk X.N X.env.scope scope own) (hg : ∀ (s : Shared) (H : Hp) (C : Addr) (cl : List (Str × Addr)) (fp : List Addr), PG (X.blk s H scope (compEnvC scope cl C X.env) fp) tg g) (ht : ∀ (s : Shared) (H : Hp) (C : Addr) (cl : List (Str × Addr)) (fp : List Addr), PTs (X.blk s H scope (compEnvC scope cl C X.env) fp) ifs tt)
    (hk : ∀ (s : Shared) (H : Hp) (C : Addr) (cl : List (Str × Addr)) (fp : List Addr), PE (X.blk s H scope (compEnvC scope cl C X.env) fp) kx tk)
    (hv : ∀ (s : Shared) (H : Hp) (C : Addr) (cl : List (Str × Addr)) (fp : List Addr), PE (X.blk s H scope (compEnvC scope cl C X.env) fp) vx tv) (fold : ∀ x, foldedSetIterable iter X.env x = pure x := by intro _; rfl) :
    PS X (.Assign [.Name y py] (.DictComp kx vx [⟨tg, iter, ifs, 0⟩] scope pos) spos) (tAsg (tDn P w K wi g tt tk tv (own.map (·.2))) (gName i)) := by
  subst eP ew eK
  refine ⟨fun pins s σ H D I hq => ?_⟩
  rw [exec_Assign_Name_used _ _ _ _ hsw]
  have hq : tDn X.prog X.w X.K wi g tt tk tv (own.map (·.2)) σ H (fun x H1 => gName i x σ H1 D.nx) := hq
  refine wpAny_bind (wpAny_standAt (wpAny_bind (wpAny_bind (thn (dn_core (use := some (assign (.Name y py) X.env)) (Qf := fun _ s' => SP X pins D .next s') (hu9 hr) hc hN I hi ok ⟨hg, ht, hk, hv⟩ fold hq fun N C s' m H' I' q hn f => ?_) fun _ s' z => wpAny_pure (wpAny_pure z)))))
  refine wpAny_assign_Name (store_ok2 (v := V.ref N) I' hN hy (.inl hyl) rfl (fun s2 I2 ⟨a, sb, ha⟩ => ?_) (.inr hyl))
  have away : C ≠ a := ha.elim (fun z => by rw [z]; exact f.2.1) fun z e => f.2.2.2.2.1 y a z e.symm
  exact ⟨m, hn.sameBut sb away, fun h3 sb3 => ⟨_, H', I2.turned (t' := s2.toks) (fun b o hb e => (sb3.2 b hb).trans e) f.1 f.2.1 f.2.2.2.1 f.2.2.2.2.1 f.2.2.2.2.2, q⟩⟩
theorem sw_dict {gs : List Comprehension} {py : Pos} {y : Str} {l : Nat} {env : Env} (hk : env.scope.kind = .function) (hy : env.scope.names.lookup y = some .local) (hl : (py.line == pos.line) = true)
    (ha : (scope.names.any fun (n, k) => n == y && (k == .local || k == .cell)) = false) : swapsWith (.DictComp kx vx gs scope pos) (some (.Name y py)) l env = pure true := by
  have ky : env.kindOf y = some .local := hy
  have hb : env.blockKind = .function := by unfold Env.blockKind; rw [hk]; rfl
  simp only [swapsWith, hb, ky, ha, Expr.pos, hl]
  rfl
end
end
section
variable {P : Program} {w : World} {K : PySem.W.Frag} {σ : L2.St} {H : Hp} {Q : VK} {wi : TI} {g : TG} {tt : TT} {tk tv : TE} {vs : List Nat}
theorem i_Dn (q : wi σ H fun J H1 => ∀ D H2, H1 D = none → ND P w K H2 D [] → Stp [] H1 H2 → ∃ W : Nat → Nat → Hp → Prop, (∃ m, W 0 m H2) ∧ ∀ i m H, W i m H →
  (J.stop i H ∧ Q (.ref D) H) ∨ (J.go i H ∧ ∃ Nx : Hp → Prop, (∀ H', Nx H' → ∃ m', m' < m ∧ W (i + 1) m' H') ∧ ∀ x H', J.yld i H x H' → g x (wipe σ vs) H' fun σ2 H2 => wipe σ2 vs = wipe σ vs ∧ tt σ2 H2 fun b H3 =>
    if b = true then tk σ2 H3 fun y H4 => tv σ2 H4 fun z H5 => ∃ a kvs k, y = .ref a ∧ ND P w K H5 D kvs ∧ KyAt K H5 (.ref a) k ∧ kvs.length < sizeLine ∧ ∀ H6, ND P w K H6 D (putK kvs k z) → Stp [D] H5 H6 → Nx H6 else Nx H3)) : tDn P w K wi g tt tk tv vs σ H Q := q
/-- over a list that stays -/
theorem dn_list {a : Addr} {xs : List V} {H2 : Hp} {D : Addr} {Qd : Hp → Prop} (Pv : Nat → Hp → Prop) (h0 : Pv 0 H2) (hl : ∀ i H, i ≤ xs.length → Pv i H → SqL K H a xs)
    (hs : ∀ i x H, xs[i]? = some x → Pv i H → g x (wipe σ vs) H fun σ2 H2 => wipe σ2 vs = wipe σ vs ∧ tt σ2 H2 fun b H3 =>
      if b = true then tk σ2 H3 fun y H4 => tv σ2 H4 fun z H5 => ∃ a kvs k, y = .ref a ∧ ND P w K H5 D kvs ∧ KyAt K H5 (.ref a) k ∧ kvs.length < sizeLine ∧ ∀ H6, ND P w K H6 D (putK kvs k z) → Stp [D] H5 H6 → Pv (i + 1) H6 else Pv (i + 1) H3) (hd : ∀ H, Pv xs.length H → Qd H) :
    ∃ W : Nat → Nat → Hp → Prop, (∃ m, W 0 m H2) ∧ ∀ i m H, W i m H →
      ((Itl K a).stop i H ∧ Qd H) ∨ ((Itl K a).go i H ∧ ∃ Nx : Hp → Prop, (∀ H', Nx H' → ∃ m', m' < m ∧ W (i + 1) m' H') ∧ ∀ x H', (Itl K a).yld i H x H' → g x (wipe σ vs) H' fun σ2 H2 => wipe σ2 vs = wipe σ vs ∧ tt σ2 H2 fun b H3 =>
        if b = true then tk σ2 H3 fun y H4 => tv σ2 H4 fun z H5 => ∃ a kvs k, y = .ref a ∧ ND P w K H5 D kvs ∧ KyAt K H5 (.ref a) k ∧ kvs.length < sizeLine ∧ ∀ H6, ND P w K H6 D (putK kvs k z) → Stp [D] H5 H6 → Nx H6 else Nx H3) := by
  refine ⟨fun i m H => m + i = xs.length ∧ Pv i H, ⟨xs.length, rfl, h0⟩, fun i m H ⟨em, p⟩ => ?_⟩
  have sq := hl i H (by omega) p
  match m, em with
  | 0, em =>
    have e : i = xs.length := by omega
    subst e
    exact .inl ⟨⟨xs, sq, Nat.le_refl _⟩, hd H p⟩
  | m + 1, em =>
    have lt : i < xs.length := by omega
    refine .inr ⟨⟨xs, xs[i], sq, List.getElem?_eq_getElem lt⟩, Pv (i + 1), fun H' p' => ⟨m, Nat.lt_succ_self m, by omega, p'⟩, fun x H' ⟨e, y⟩ => ?_⟩
    subst e
    exact hs i x _ (y xs sq) p
end
end GT

/-! ## sorted(d, key=lambda x: (x[0], x[1], x[2])) -/
namespace GT
open PySem PySem.Spec PyProof.Rows L2 LamX PySem.W
def key3 : Dt → PyData
  | .tup (a :: b :: c :: _) => .tuple [a.py, b.py, c.py]
  | _ => .none
def Has3 (d : Dt) : Prop := ∃ a b c r, d = .tup (a :: b :: c :: r)
theorem key3_depth {d : Dt} (h : Has3 d) (n : d.depth ≤ 8) : (key3 d).depth ≤ 9 := by
  obtain ⟨a, b, c, r, rfl⟩ := h
  have n1 := Dt.py_depth a
  have n2 := Dt.py_depth b
  have n3 := Dt.py_depth c
  simp only [Dt.depth, Dt.depthAll] at n
  simp only [key3, PyData.depth, PyData.depthAll]
  omega
theorem nd_key_at {K : PySem.W.Frag} {H : Hp} {xs : List (NestedKey × Addr × V)} {ds : List Dt} (ks : KeysAt K H xs) (e : xs.map (·.1) = ds.map Dt.key) (f : Dt.flatAll ds = true) {i : Nat} {x : NestedKey × Addr × V} {d : Dt} (hx : xs[i]? = some x) (hd : ds[i]? = some d) : DtAt K H (.ref x.2.1) d := by
  obtain ⟨d', f', k', _, h'⟩ := ks x (List.mem_of_getElem? hx)
  have h1 : (xs.map (·.1))[i]? = some x.1 := by rw [List.getElem?_map, hx]; rfl
  rw [e, List.getElem?_map, hd] at h1
  have h2 : d.key = x.1 := Option.some.inj h1
  rw [← Dt.key_inj d' d f' (Dt.flat_mem f (List.mem_of_getElem? hd)) (k'.trans h2.symm)]
  exact h'
abbrev bod3 (x : Str) (p0 p1 p2 q0 q1 q2 r0 r1 r2 pos : Pos) (d0 d1 d2 kd : Nat) : Expr := .Tuple [.Subscript (.Name x p0) (.Constant (.int (0 : Int)) d0 q0) r0, .Subscript (.Name x p1) (.Constant (.int (1 : Int)) d1 q1) r1, .Subscript (.Name x p2) (.Constant (.int (2 : Int)) d2 q2) r2] kd pos
section
variable {prog : Program} {w : World} {A : Around} {s : Shared} {x q : Str} {params : Arguments} {scope : Scope} {p0 p1 p2 q0 q1 q2 r0 r1 r2 pos : Pos} {d0 d1 d2 kd : Nat} {f c' : Addr} {pm ctv : Value}
/-- one call of the lambda: it tells the key of a datum -/
theorem key3_turn {v : Value} {b : Dt} (hf : s.heap.get? f = some (kla_obj "<lambda>" q params (bod3 x p0 p1 p2 q0 q1 q2 r0 r1 r2 pos d0 d1 d2 kd) scope [] pm c' ctv)) (rc : s.heap.CodeRec (.ref c') q) (nl : s.heap.NoLimit) (room : A.depth < recursionLimit)
    (hbind : ∀ (pm cv ctv v : Value), bindArgs (kla_fn "<lambda>" q params (bod3 x p0 p1 p2 q0 q1 q2 r0 r1 r2 pos d0 d1 d2 kd) scope [] pm cv ctv) ⟨[v], []⟩ = pure [(x, v)])
    (hk : scope.kind = .function) (co : scope.isCoroutine = false) (gen : scope.isGenerator = false) (hcl : ∀ y ∈ scope.names, y.2 ≠ .cell) (hx : scope.names.lookup x = some .local) (hd : (x == ("__debug__" : Str)) = false)
    (h3 : Has3 b) (hbf : b.flat = true) (hdi : DtIs s.heap b v) : wpAny (model prog w) A (call (.ref f) [v]) (KeyPure (key3 b) s) (fun _ _ => False) s := by
  obtain ⟨a1, b1, c1, r1, rfl⟩ := h3
  cases hdi with
  | @tup t its _ ht hall =>
    simp only [Dt.flat, Dt.flatAll, Bool.and_eq_true] at hbf
    obtain ⟨l⟩ := its
    cases hall with
    | @cons _ v0 _ _ g0 hall =>
      cases hall with
      | @cons _ v1 _ _ g1 hall =>
        cases hall with
        | @cons _ v2 _ lr g2 hall =>
          obtain ⟨ot, e1, e2, n2, e4⟩ := ht
          have htup : IsTup s.heap t (Array.mk (v0 :: v1 :: v2 :: lr)) := ⟨ot, e1, e2, n2, e4⟩
          refine wpAny_mono (lam_key3 (x := x) (items := Array.mk (v0 :: v1 :: v2 :: lr)) (v0 := v0) (v1 := v1) (v2 := v2) hf rc nl room (hbind _ _ _ _) hk co gen hcl hx hd htup rfl rfl rfl) (fun u s2 hu => ?_) fun _ _ z => z.elim
          obtain ⟨h2, tk2, b2, rfl, kp2, rfl, hb2⟩ := hu
          exact ⟨h2, tk2, rfl, kp2, .tuple (as := []) hb2 rfl rfl (.cons (as := []) (bs := []) (PyProof.Rows.Reads.keeps kp2 (DtIs.reads a1 v0 hbf.1 g0)) (.cons (as := []) (bs := []) (PyProof.Rows.Reads.keeps kp2 (DtIs.reads b1 v1 hbf.2.1 g1)) (.cons (as := []) (bs := []) (PyProof.Rows.Reads.keeps kp2 (DtIs.reads c1 v2 hbf.2.2.1 g2)) .nil)))⟩
end
section
variable {X : Cx} {x q : Str} {params : Arguments} {scope : Scope} {p0 p1 p2 q0 q1 q2 r0 r1 r2 pos : Pos} {d0 d1 d2 kd : Nat}
def rSortL (P : Program) (w : World) (K : PySem.W.Frag) (q : Str) (params : Arguments) (body : Expr) (scope : Scope) : List V → List V → Hp → VK → Prop := fun vs zs H Q => ∃ (d f c' : Addr) (pm ctv : Value) (kvs : List NKV) (ds : List Dt), vs = [.ref d] ∧ zs = [.ref f] ∧ H f = some (LamO f (kla_obj "<lambda>" q params body scope [] pm c' ctv)) ∧ H c' = some (CodeO c' q) ∧
  ND P w K H d kvs ∧ kvs.map (·.1) = ds.map Dt.key ∧ Dt.flatAll ds = true ∧ Dt.depthAll ds ≤ 8 ∧ (∀ x ∈ ds, Has3 x) ∧ AllAlike (ds.map key3) ∧ Sortable (ds.map key3) ∧
  ∀ (p : Addr) (ys : List V), H p = none → DtsAt K H ys (ds.mergeSort (dataLe false key3)) → Q (.ref p) (upd H p (.lst ys))
theorem cr_sortL {k : Nat} (hc : X.calm = true) (hr : Room (k + 2) X.A)
    (hbind : ∀ (pm cv ctv v : Value), bindArgs (kla_fn "<lambda>" q params (bod3 x p0 p1 p2 q0 q1 q2 r0 r1 r2 pos d0 d1 d2 kd) scope [] pm cv ctv) ⟨[v], []⟩ = pure [(x, v)])
    (hk : scope.kind = .function) (co : scope.isCoroutine = false) (gen : scope.isGenerator = false) (hcl : ∀ y ∈ scope.names, y.2 ≠ .cell) (hx : scope.names.lookup x = some .local) (hd : (x == ("__debug__" : Str)) = false) :
    CallRK X (.builtin "sorted") [Str.ofString "key"] (rSortL X.prog X.w X.K q params (bod3 x p0 p1 p2 q0 q1 q2 r0 r1 r2 pos d0 d1 d2 kd) scope) := by
  intro pins s σ H vs zs us ws Q I r rz h
  obtain ⟨d, f, c', pm, ctv, kvs, ds, rfl, rfl, hf, hco, ⟨xs, e, ks, rfl⟩, hkeys, hfl, hdp, h3, hal, hsk, qq⟩ := h
  obtain rfl := Vals.ref1 r
  obtain rfl := Vals.ref1 rz
  have hun := hr.units
  have hkeys' : xs.map (·.1) = ds.map Dt.key := by rw [← hkeys]; unfold plainX; rw [List.map_map]; rfl
  obtain ⟨hz, lo, ys, rel, o, es, ep, ho, hex, hdat, hen, his, hnd⟩ := nd_raw I (.inl e) ks
  have l1 : es.size = ys.length := size_of_entries hen
  have l2 : xs.length = ys.length := Paired.length rel
  have l3 : xs.length = ds.length := by have := congrArg List.length hkeys'; simpa using this
  have hfob : s.heap.get? f = some (kla_obj "<lambda>" q params (bod3 x p0 p1 p2 q0 q1 q2 r0 r1 r2 pos d0 d1 d2 kd) scope [] pm c' ctv) := (I.hok f _ hf).1
  obtain ⟨oc, vc, tc, hoc, hdc, hvc⟩ : ∃ (oc : Obj) (vs : Array Value) (t : Tok), s.heap.get? c' = some oc ∧ oc.data = .fields vs ∧ vs[1]? = some (.str q t) := (I.hok c' _ hco).1
  have g1 : ∀ (i : Nat) (b : Dt) (hi : i < es.size), ds[i]? = some b → ∃ y, RelV y es[i].key ∧ DtAt X.K H y b := fun i b hi hb => by
    have hi2 : i < xs.length := by omega
    obtain ⟨y, hy, e1, e2, e3⟩ := paired_get rel (List.getElem?_eq_getElem hi2)
    have q1 := entry_at hen i
    rw [hy, Array.getElem?_eq_getElem hi] at q1
    have q2 : es[i] = entryOfKey (nestedKind X.prog X.w) y := Option.some.inj q1
    refine ⟨.ref xs[i].2.1, ?_, nd_key_at ks hkeys' hfl (List.getElem?_eq_getElem hi2) hb⟩
    rw [q2]
    show Value.ref y.2.1 = Value.ref xs[i].2.1
    rw [e2]
  have g2 : ∀ b, b ∈ ds → X.A.units + 2 + (key3 b).depth < cLine := fun b hb => by
    have h1 := key3_depth (h3 b hb) (Nat.le_trans (Dt.depth_mem hb) hdp)
    omega
  have g3 : ∀ (v : Value) (b : Dt), (∃ y, RelV y v ∧ DtAt X.K H y b) → b ∈ ds → ∀ (h : Heap) (tk : Nat), (∀ b o, s.heap.get? b = some o → h.get? b = some o) →
      wpAny (model X.prog X.w) X.A.in1.in1 (call (.ref f) [v]) (KeyPure (key3 b) { s with heap := h, toks := tk }) (fun _ _ => False) { s with heap := h, toks := tk } := fun v b ⟨y, ry, hy⟩ hb h tk kp => by
    have hdi := DtAt.is (s := { s with heap := h, toks := tk }) (I.kept kp) b y v hy ry
    exact key3_turn (s := { s with heap := h, toks := tk }) (kp _ _ hfob) ⟨c', oc, vc, tc, rfl, kp _ _ hoc, hdc, hvc⟩ (I.nolimit.keeps kp) hr.in1.in1.depth hbind hk co gen hcl hx hd (h3 b hb) (Dt.flat_mem hfl hb) hdi
  refine raw_sorted_dict (R := fun (u : Value) (b : Dt) => ∃ y, RelV y u ∧ DtAt X.K H y b) key3 lo ⟨o, ho, hex, hdat⟩ (I.ok.hd hc) (by omega) (by omega) g1 hal hsk g2 g3 fun out c h1 h' tk a hk1 hk2 hle hD hlen hR => ?_
  obtain ⟨yv, vy, dy⟩ := each_dts hR
  have hl9 : yv.length ≤ sizeLine := by
    have h7 := vy.length
    omega
  have I1 : Inv X pins σ H { s with heap := h1, toks := tk } := I.kept hk1
  exact ⟨.ref a, upd H a (.lst yv), I1.laid (t' := tk) hk2 hle ⟨hl9, out, c, vy, hD⟩, rfl, qq a yv (I1.hok.fresh hle) dy⟩
end
end GT

/-! ## the call sorted(d, key=lambda x: (x[0], x[1], x[2])) -/
namespace GT
open PySem PySem.Spec PyProof.Rows L2 LamX PySem.W
/-- a def whose code object is told -/
theorem FunD.okC {P : Program} {w : World} {K : PySem.W.Frag} {mg : Str → Option Value} {base : Heap} {x qual : Str} {params : Arguments} {body : List Stmt} {scope : Scope} {dvs : List V} {kws : List (Str × V)} {f : Addr} {fd : FuncData} {CX : CXT} {N ps : List Str} {k : Nat} {sp : Sp} {c : Addr}
    (F : FunD K x qual params body scope dvs kws f fd) (ec : fd.code = .ref c) (S : FnScope N ps scope) (len : ∀ vs H Q E, sp vs H Q E → vs.length = ps.length)
    (hbody : ∀ (A : Around) (outer : List Env) (s : Shared) (H : Hp) (vs : List V) (Q : VK) (E : XK), Room k (A.deeper (envOfC qual scope s.heap.objs.size f (.ref c))) → sp vs H Q E →
      ∃ t, PSs (cxOf CX P w K mg base N qual scope f (.ref c) A outer s H E) body t ∧ t { nx := fun _ H' => Q .non H', rt := Q } (start N vs) H) : FnOk P w K mg base CX (k + 1) f fd ps sp := by
  obtain ⟨_, _, _, _, _, _, _, cdv, _, _, rfl, lk, hcd, _, _⟩ := F.ex
  obtain rfl : cdv = .ref c := ec
  exact fn_of lk hcd S len fun A outer s H vs Q E hr hsp => hbody A outer s H vs Q E hr hsp
/-- .. found by the head -/
theorem code_told {K : PySem.W.Frag} {d : He.DefD} {fd : FuncData} {dvs : List V} {kws : List (Str × V)} (F : FunD K d.name d.qual d.params d.body d.scope dvs kws (He.fAd K d.at_) fd) : fd.code = .ref (He.codeOf K d.at_) := by
  obtain ⟨_, _, _, _, _, _, _, cdv, _, _, rfl, lk, hcd, _, _⟩ := F.ex
  obtain ⟨c, rfl⟩ := He.codeIn_ref hcd
  rw [He.codeOf_eq lk rfl] <;> rfl
theorem flat_all : ∀ {ds : List Dt}, (∀ z ∈ ds, z.flat = true) → Dt.flatAll ds = true
  | [], _ => rfl
  | d :: ds, h => by rw [Dt.flatAll, h d List.mem_cons_self, flat_all fun z hz => h z (List.mem_cons_of_mem _ hz)]; rfl
def tSortL (P : Program) (w : World) (K : PySem.W.Frag) (T : Addr) (q : Str) (td : TE) : TE := fun σ H Q => td σ H fun x H1 => ∃ L, Tab H1 T q L ∧ ∃ (d : Addr) (kvs : List NKV) (ds : List Dt), x = .ref d ∧ ND P w K H1 d kvs ∧ kvs.map (·.1) = ds.map Dt.key ∧ Dt.flatAll ds = true ∧ Dt.depthAll ds ≤ 8 ∧ (∀ x ∈ ds, Has3 x) ∧ AllAlike (ds.map key3) ∧ Sortable (ds.map key3) ∧
  ∀ (p : Addr) (ys : List V) (H2 : Hp) (L2 : List Addr), Tab H2 T q L2 → (∀ c ∈ L2, c ∈ L ∨ H1 c = none) → Stp [T] H1 H2 → H1 p = none → H2 p = some (.lst ys) → DtsAt K H2 ys (ds.mergeSort (dataLe false key3)) → Q (.ref p) H2
theorem pe_sortL {X : Cx} {P : Program} {w : World} {K : PySem.W.Frag} {c T : Addr} {k : Nat} {x y : Str} {params : Arguments} {scope : Scope} {p0 p1 p2 q0 q1 q2 r0 r1 r2 bpos py pf kpos lpos pos : Pos} {d0 d1 d2 kd i : Nat} (eP : X.prog = P) (ew : X.w = w) (eK : X.K = K) (hr : Room (k + 2) X.A) (hc : X.calm = true) (TB : TabB X.base X.mg c T) (hcode : X.env.code = .ref c)
    (hg : Gl X "sorted") (hm : X.mg "sorted" = none) (he : PE X (.Name y py) (tVar i))
    (hdef : defaultsOf params X.env = ([], []) := by rfl) (hfree : ∀ y ∈ scope.names, y.2 ≠ .free := by decide +kernel) (hclo : cloFrom X.env.cells scope.names [] = [] := by rfl)
    (hbind : ∀ (q : Str) (pm cv ctv v : Value), bindArgs (kla_fn "<lambda>" q params (bod3 x p0 p1 p2 q0 q1 q2 r0 r1 r2 bpos d0 d1 d2 kd) scope [] pm cv ctv) ⟨[v], []⟩ = pure [(x, v)] := by intro _ _ _ _ _; rfl)
    (hk : scope.kind = .function := by rfl) (co : scope.isCoroutine = false := by rfl) (gen : scope.isGenerator = false := by rfl) (hcl : ∀ y ∈ scope.names, y.2 ≠ .cell := by decide +kernel) (hx : scope.names.lookup x = some .local := by decide +kernel) (hd : (x == ("__debug__" : Str)) = false := by decide +kernel) :
    PE X (.Call (.Name "sorted" pf) [.Name y py] [⟨some "key", .Lambda params (bod3 x p0 p1 p2 q0 q1 q2 r0 r1 r2 bpos d0 d1 d2 kd) scope lpos, kpos⟩] pos) (tSortL P w K T (X.env.qual ++ "<lambda>") (tVar i)) := by
  subst eP ew eK
  have all := pe_callBK (p := pf) (pos := pos) (kws := [⟨some "key", .Lambda params (bod3 x p0 p1 p2 q0 q1 q2 r0 r1 r2 bpos d0 d1 d2 kd) scope lpos, kpos⟩]) (cr_sortL (X := X) (q := X.env.qual ++ "<lambda>") (params := params) hc hr (hbind _) hk co gen hcl hx hd) hg hm (by decide +kernel) (pa_cons he pa_nil) (pk_cons (pe_lam TB hcode hdef hfree) pk_nil)
  rw [hclo] at all
  refine ⟨fun pins s σ H Q I h => all.run pins s σ H Q I ?_⟩
  obtain ⟨v, hv, L, hT, d, kvs, ds, rfl, nd, h1, h2, h3, h4, h5, h6, h7⟩ := h
  refine ⟨.ref d, hv, L, hT, fun f c' pm ctv H1 L1 t1 fresh st co1 nf hf => ?_⟩
  obtain ⟨ps, hP⟩ := hT.there
  have dT : d ∉ [T] := by
    obtain ⟨xs, e, _⟩ := nd
    simp only [List.mem_singleton]
    rintro rfl
    rw [hP] at e
    cases e
  refine ⟨d, f, c', pm, ctv, kvs, ds, rfl, rfl, hf, co1, nd.stp st dT, h1, h2, h3, h4, h5, h6, fun p ys np dy => ?_⟩
  have s2 : Stp [] H1 (upd H1 p (.lst ys)) := .new np
  have fl : Dt.flatAll (ds.mergeSort (dataLe false key3)) = true := flat_all fun z hz => Dt.flat_mem h2 ((List.mergeSort_perm _ _).mem_iff.mp hz)
  refine h7 p ys _ L1 (t1.grow s2) fresh (st.trans (s2.mono (by simp))) (st.free np fun z => ?_) upd_same (dy.stp s2 _ _ fl)
  obtain ⟨qs, e⟩ := t1.there
  rw [List.mem_singleton.mp z, e] at np
  cases np
end GT

/-! ## sorted(d): the keys of a dict in order -/
namespace GT
open PySem PySem.Spec PySem.Calls PyProof.Rows L2 PySem.W
section
variable {prog : Program} {w : World} {A : Around} {E : Value → Shared → Prop} {s : Shared} {β : Type} {bs : List β} {R : Value → β → Prop}
theorem raw_sorted_keys {d : Addr} {es : Array DictEntry} {ep : Nat} {Q : Value → Shared → Prop} (enc : β → PyData) (lo : (d == sysModules) = false) (hm : s.heap.DictRaw d es ep) (hh : A.handled = none) (hn : es.size ≤ sizeLine) (hes : es.size = bs.length)
    (hit : ∀ (i : Nat) (b : β) (hi : i < es.size), bs[i]? = some b → R es[i].key b) (er : ∀ (v : Value) (b : β), R v b → b ∈ bs → Reads s.heap v (enc b) []) (hal : AllAlike (bs.map enc)) (hk : Sortable (bs.map enc)) (hu : ∀ x, x ∈ bs → A.units + 2 + (enc x).depth < cLine)
    (h : ∀ (out : List Value) (c : Nat) (h1 h' : Heap) (tk : Nat) (a : Addr), (∀ b o, s.heap.get? b = some o → h1.get? b = some o) → (∀ b o, h1.get? b = some o → h'.get? b = some o) → h1.objs.size ≤ a → h'.get? a = some (seqObj "list" (List.toArray out) c) → out.length = bs.length → EachIs R out (bs.mergeSort (dataLe false enc)) →
      Q (.ref a) { s with heap := h', toks := tk }) :
    wpAny (model prog w) A (call (.builtin "sorted") [.ref d]) Q E s := by
  refine call_function_entry kind_sorted plain_sorted entry_sorted (args_sorted1 _) ?_
  unfold Builtin.«sorted»
  refine wpAny_bind (m := checkCount "sorted" 1 1 _) (wpAny_pure ?_)
  refine wpAny_bind (kdu_collect (A := A.in1) (KdlSrc.rawDict lo) hh hm hn fun h1 tk1 acc hk1 hacc => ?_)
  have he : EachIs R acc.toList bs := each_of_items (P := fun i v => ∃ hi : i < es.size, v = es[i].key) ⟨hacc.1.trans hes, hacc.2⟩ fun i v b ⟨hi, e⟩ hb => by rw [e]; exact hit i b hi hb
  have hl : acc.toList.length = bs.length := he.length
  have hz : acc.toList.length ≤ sizeLine := by rw [hl, ← hes]; exact hn
  refine wpAny_bind (wpAny_newList ?_ hz)
  have ho : (h1.push { cls := .type "list", data := .seq acc.toList.toArray }).get? h1.objs.size = some (seqObj "list" acc.toList.toArray 0) := Heap.get?_push_size _ rfl
  generalize hH2 : h1.push { cls := .type "list", data := .seq acc.toList.toArray } = h2 at ho
  have k2 : ∀ b o, h1.get? b = some o → b ≠ h1.objs.size ∧ b < h2.objs.size ∧ h2.get? b = some o := fun b o q => by
    have l := Heap.lt_size q
    have g : h2.get? b = some o := by rw [← hH2]; exact Heap.get?_push_of_some _ q
    exact ⟨Nat.ne_of_lt l, Heap.lt_size g, g⟩
  have rd : EachIs (fun v b => ∃ as, Reads (sortingHeap h2 h1.objs.size acc.toList) v (enc b) as) acc.toList bs := (each_mem he).mono fun v b ⟨hR, hb⟩ => ⟨[], PyProof.Rows.Reads.keeps (fun b o e => let z := k2 b o (hk1 b o e); sortingHeap_old z.1 z.2.2) (er v b hR hb)⟩
  refine wpAny_bind (wpAny_holding (wpAny_call_entry slot_list_sort ⟨_, ho, rfl⟩ entry_list_sort ?body (args_list_sort _)))
  case body =>
    refine list_sort_vals (κ := dataKind (sortingHeap h2 h1.objs.size acc.toList) (bs.map enc)) (s := { s with heap := h2, toks := tk1 }) ho (SortsAt.data (s := { s with heap := sortingHeap h2 h1.objs.size acc.toList, toks := tk1 }) (each_map (R := fun v d => ∃ as, Reads (sortingHeap h2 h1.objs.size acc.toList) v d as) enc rd) hal hk (bound_map (A := A.in1.in1) hu)) hz ⟨_, rfl, ?_⟩
    obtain ⟨c, hc⟩ := sortedHeap_at (vs := acc.toList) (out := (sortVals (dataKind (sortingHeap h2 h1.objs.size acc.toList) (bs.map enc)) false acc.toList acc.toList).toArray) ho
    exact wpAny_pure ⟨_, rfl, h _ c h1 _ tk1 _ hk1 (fun b o e => (sortedHeap_old (k2 b o e).1 (k2 b o e).2.1).trans (k2 b o e).2.2) (Nat.le_refl _) hc (by rw [sortVals_length false rfl]; exact hl) (sortVals_data false he rd hal)⟩
end
end GT
namespace GT
open PySem PySem.Spec PyProof.Rows L2 PySem.W
section
variable {X : Cx} {P : Program} {w : World} {K : PySem.W.Frag}
/-- sorted(d): d a dict with nested keys, their data ds in the dict's order -/
def rSortK (P : Program) (w : World) (K : PySem.W.Frag) : List V → Hp → VK → Prop := fun vs H Q => ∃ (d : Addr) (kvs : List NKV) (ds : List Dt), vs = [.ref d] ∧ NDR P w K H d kvs ∧ kvs.map (·.1) = ds.map Dt.key ∧ Dt.flatAll ds = true ∧ Dt.depthAll ds ≤ 8 ∧ AllAlike (ds.map Dt.py) ∧ Sortable (ds.map Dt.py) ∧
  ∀ (p : Addr) (ys : List V), H p = none → DtsAt K H ys (ds.mergeSort leD) → Q (.ref p) (upd H p (.lst ys))
theorem cr_sortK (eP : X.prog = P) (ew : X.w = w) (eK : X.K = K) (hc : X.calm = true) (hu : X.A.units + 64 < cLine) : CallR X (.builtin "sorted") (rSortK P w K) := by
  subst eP ew eK
  intro pins s σ H vs us Q I r h
  obtain ⟨d, kvs, ds, rfl, ⟨xs, e, ks, rfl⟩, hkeys, hfl, hdp, hal, hsk, qq⟩ := h
  obtain rfl := Vals.ref1 r
  have hkeys' : xs.map (·.1) = ds.map Dt.key := by rw [← hkeys]; unfold plainX; rw [List.map_map]; rfl
  obtain ⟨hz, lo, ys, rel, o, es, ep, ho, hex, hdat, hen, his, hnd⟩ := nd_raw I e ks
  have l1 : es.size = ys.length := size_of_entries hen
  have l2 : xs.length = ys.length := Paired.length rel
  have l3 : xs.length = ds.length := by have := congrArg List.length hkeys'; simpa using this
  have g1 : ∀ (i : Nat) (b : Dt) (hi : i < es.size), ds[i]? = some b → ∃ y, RelV y es[i].key ∧ DtAt X.K H y b := fun i b hi hb => by
    have hi2 : i < xs.length := by omega
    obtain ⟨y, hy, e1, e2, e3⟩ := paired_get rel (List.getElem?_eq_getElem hi2)
    have q1 := entry_at hen i
    rw [hy, Array.getElem?_eq_getElem hi] at q1
    have q2 : es[i] = entryOfKey (nestedKind X.prog X.w) y := Option.some.inj q1
    refine ⟨.ref xs[i].2.1, ?_, nd_key_at ks hkeys' hfl (List.getElem?_eq_getElem hi2) hb⟩
    rw [q2]
    show Value.ref y.2.1 = Value.ref xs[i].2.1
    rw [e2]
  refine raw_sorted_keys (R := fun (u : Value) (b : Dt) => ∃ y, RelV y u ∧ DtAt X.K H y b) Dt.py lo ⟨o, ho, hex, hdat⟩ (I.ok.hd hc) (by omega) (by omega) g1 (fun v b ⟨y, ry, hy⟩ hb => DtIs.reads b v (Dt.flat_mem hfl hb) (DtAt.is I b y v hy ry)) hal hsk (fun b hb => ?_) fun out c h1 h' tk a hk1 hk2 hle hD hlen hR => ?_
  · have h1 := Dt.depth_mem hb
    have h2 := Dt.py_depth b
    omega
  · obtain ⟨yv, vy, dy⟩ := each_dts hR
    have hl9 : yv.length ≤ sizeLine := by
      have h7 := vy.length
      omega
    have I1 : Inv X pins σ H { s with heap := h1, toks := tk } := I.kept hk1
    exact ⟨.ref a, upd H a (.lst yv), I1.laid (t' := tk) hk2 hle ⟨hl9, out, c, vy, hD⟩, rfl, qq a yv (I1.hok.fresh hle) dy⟩
end
end GT

/-! ## dicts with text keys and data as values; data in order -/
namespace GT
open PySem PySem.Spec PyProof.Rows L2 PySem.W
theorem hu1 {A : Around} {k : Nat} (hr : Room k A) : A.units + 1 < cLine := by have := hr.un; omega
section
variable {σ : L2.St} {H : Hp} {Q : VK} {D : Ends} {R : It → Hp → Prop} {td ty tv : TE}
theorem i_DGet (q : td σ H fun x H1 => ty σ H1 fun y H2 => ∃ a v, x = .ref a ∧ DGet H2 a y (some v) ∧ Q v H2) : tDGet td ty σ H Q := q
theorem i_DIn (q : ty σ H fun y H1 => td σ H1 fun x H2 => ∃ a o, x = .ref a ∧ DGet H2 a y o ∧ Q (.bl o.isSome) H2) : tDIn ty td σ H Q := q
theorem i_DPut (q : tv σ H fun v H1 => td σ H1 fun x H2 => ty σ H2 fun y H3 => ∃ a H4, x = .ref a ∧ DPut H3 a y v H4 ∧ D.nx σ H4) : sDPut td ty tv D σ H := q
theorem i_DNewK (q : ∀ p, H p = none → Q (.ref p) (upd H p (.dK []))) : tDNewK σ H Q := q
theorem i_Keys (q : td σ H fun x H1 => ∃ d o, x = .ref d ∧ ((∃ kvs, H1 d = some (.frz o (.dK kvs)) ∧ R (Itk d o kvs) H1) ∨ ∃ kvs, H1 d = some (.frz o (.dT kvs)) ∧ R (Itkt d o kvs) H1)) : iKeys td σ H R := q
end
/-! ### the dict: texts and what they tell -/
abbrev SD := List (Str × Dt)
abbrev keyS (x : Str) : Key := Sum.inr x
def EntS (K : PySem.W.Frag) (H : Hp) (p : Key × V) (e : Str × Dt) : Prop := p.1 = keyS e.1 ∧ DtAt K H p.2 e.2 ∧ e.2.flat = true
def SdAt (K : PySem.W.Frag) (H : Hp) (d : Addr) (es : SD) : Prop := ∃ kvs, H d = some (.dK kvs) ∧ Paired (EntS K H) kvs es
section
variable {K : PySem.W.Frag} {H H1 : Hp} {M : List Addr} {d : Addr} {es : SD} {kvs : List (Key × V)}
theorem ent_stp (h : Paired (EntS K H) kvs es) (s : Stp M H H1) : Paired (EntS K H1) kvs es := by
  induction h with
  | nil => exact .nil
  | cons x _ ih => exact .cons ⟨x.1, DtAt.stp s _ _ x.2.2 x.2.1, x.2.2⟩ ih
theorem SdAt.stp (h : SdAt K H d es) (s : Stp M H H1) (n : d ∉ M) : SdAt K H1 d es := let ⟨kvs, e, p⟩ := h; ⟨kvs, s.keep _ _ e n, ent_stp p s⟩
theorem ent_keys (h : Paired (EntS K H) kvs es) : kvs.map (·.1) = es.map fun e => keyS e.1 := by
  induction h with
  | nil => rfl
  | cons x _ ih => rw [List.map_cons, List.map_cons, ih, x.1]
theorem ent_len (h : Paired (EntS K H) kvs es) : kvs.length = es.length := by
  have := congrArg List.length (ent_keys h)
  simpa using this
theorem ent_at (h : Paired (EntS K H) kvs es) {i : Nat} {p : Key × V} (e : kvs[i]? = some p) : ∃ r, es[i]? = some r ∧ EntS K H p r := by
  induction h generalizing i with
  | nil => simp at e
  | cons x _ ih =>
    cases i with
    | zero => simp at e; subst e; exact ⟨_, rfl, x⟩
    | succ i => simpa using ih (i := i) (by simpa using e)
theorem ent_none (h : Paired (EntS K H) kvs es) {k : Str} (n : k ∉ es.map (·.1)) : valV kvs (keyS k) = none := by
  induction h with
  | nil => rfl
  | @cons p e ps qs x _ ih =>
    rw [List.map_cons, List.mem_cons, not_or] at n
    rw [valV_neg (fun z => n.1 (by rw [x.1] at z; exact (Sum.inr.inj z).symm))]
    exact ih n.2
theorem ent_val (h : Paired (EntS K H) kvs es) (nd : (es.map (·.1)).Nodup) {i : Nat} {p : Key × V} (e : kvs[i]? = some p) : valV kvs p.1 = some p.2 := by
  refine valV_of ?_ (List.mem_of_getElem? e)
  rw [ent_keys h]
  rw [show (es.map fun e => keyS e.1) = (es.map (·.1)).map keyS by rw [List.map_map]; rfl]
  clear h e
  generalize es.map (·.1) = l at nd
  induction l with
  | nil => exact .nil
  | cons a l ih =>
    rw [List.nodup_cons] at nd
    rw [List.map_cons, List.nodup_cons]
    exact ⟨fun z => nd.1 (by obtain ⟨b, hb, e⟩ := List.mem_map.mp z; cases Sum.inr.inj e; exact hb), ih nd.2⟩
/-- isinstance(d, dict) -/
theorem SdAt.isi {Q : VK} (h : SdAt K H d es) (q : Q (.bl true) H) (e : kitB "dict" "dict" = some true := by decide +kernel) : rIsi K [.ref d, .ty "dict"] H Q := by
  obtain ⟨kvs, hd, _⟩ := h
  exact ⟨.ref d, .ty "dict", _, _, true, rfl, .ty "dict", .base (.dK hd), kit_ty e, q⟩
/-- d[text] = value: a new text -/
theorem sd_put {k : Str} {v : V} {x : Dt} {P : Hp → Prop} (h : SdAt K H d es) (n : k ∉ es.map (·.1)) (l : es.length ≤ 1000) (hv : DtAt K H v x) (f : x.flat = true)
    (q : ∀ H4, SdAt K H4 d (es ++ [(k, x)]) → Stp [d] H H4 → P H4) : ∃ H4, DPut H d (.str k) v H4 ∧ P H4 := by
  obtain ⟨kvs, hd, p⟩ := h
  have pn := ent_none p n
  have pl := ent_len p
  have s : Stp [d] H (upd H d (.dK (putK kvs (keyS k) v))) := .wr (by simp) hd fun _ z => nomatch z
  have s2 := s
  rw [L2.putK_new v pn] at s2
  refine ⟨_, DPut.k (k := keyS k) hd (Nat.lt_of_le_of_lt (show kvs.length ≤ 1000 by omega) (by decide)), q _ ⟨_, upd_same, ?_⟩ s⟩
  rw [L2.putK_new v pn]
  exact Paired.snoc (ent_stp p s2) ⟨rfl, DtAt.stp s2 _ _ f hv, f⟩
end
/-! ### data in order, whatever they are -/
theorem leD_total : PySem.W.TotalLe leD := by
  have h : PySem.W.TotalLe (PySem.W.dataLe false Dt.py) := by
    unfold PySem.W.dataLe
    exact PySem.W.sortLe_total _ _ _
  exact h
theorem dt_perm_map {α : Type} {f : α → Dt} : ∀ {ds : List Dt} {as : List α}, ds.Perm (as.map f) → ∃ bs : List α, bs.Perm as ∧ ds = bs.map f
  | [], as, p => by
    have : as = [] := by
      have := p.length_eq
      cases as with
      | nil => rfl
      | cons _ _ => simp at this
    subst this; exact ⟨[], .refl _, rfl⟩
  | d :: ds, as, p => by
    have hm := p.mem_iff.mp List.mem_cons_self
    obtain ⟨a, ha, ea⟩ := List.mem_map.mp hm
    obtain ⟨l, r, rfl⟩ := List.append_of_mem ha
    have p2 : ds.Perm ((l ++ r).map f) := by
      have q := p.trans (List.perm_middle (a := a) (l₁ := l) (l₂ := r) |>.map f)
      rw [List.map_cons, ea] at q
      exact (List.perm_cons d).mp q
    obtain ⟨bs, pb, eb⟩ := dt_perm_map p2
    exact ⟨a :: bs, (pb.cons a).trans List.perm_middle.symm, by rw [List.map_cons, ea, eb]⟩
/-- sorted: some order of the same, ascending -/
theorem dt_order {α : Type} (f : α → Dt) (as : List α) : ∃ bs : List α, bs.Perm as ∧ (bs.Pairwise fun a b => leD (f a) (f b) = true) ∧ (as.map f).mergeSort leD = bs.map f := by
  have asc := PySem.W.sort_pairwise leD_total (as.map f)
  obtain ⟨bs, pb, eb⟩ := dt_perm_map (List.mergeSort_perm (as.map f) leD)
  rw [eb, List.pairwise_map] at asc
  exact ⟨bs, pb, asc, eb⟩
/-- texts -/
def leT (a b : Str) : Bool := leD (.txt a) (.txt b)
theorem leT_eq (a b : Str) : leT a b = !decide (b.cps.toList < a.cps.toList) := by
  unfold leT leD
  rw [PySem.W.dataLe_eq]
  show (!PySem.W.dataLt (Dt.txt b).py (Dt.txt a).py) = _
  rw [show (Dt.txt b).py = .str b from rfl, show (Dt.txt a).py = .str a from rfl, PySem.W.dataLt_str]
theorem leT_anti {a b : Str} (h1 : leT a b = true) (h2 : leT b a = true) : a = b := by
  rw [leT_eq, Bool.not_eq_true', decide_eq_false_iff_not] at h1 h2
  refine PySem.W.str_of_cps (List.le_antisymm ?_ ?_)
  · exact List.not_lt.mp h1
  · exact List.not_lt.mp h2
/-- the same first part: the second one counts -/
theorem leD_second (d : Dt) (a b : Str) (al : PySem.W.alike d.py d.py = true) (ev : PyData.eqv d.py d.py = true) : leD (.tup [d, .txt a]) (.tup [d, .txt b]) = leT a b := by
  rw [leT_eq]
  unfold leD
  rw [PySem.W.dataLe_eq]
  show (!PySem.W.dataLt (Dt.tup [d, .txt b]).py (Dt.tup [d, .txt a]).py) = _
  rw [show (Dt.tup [d, .txt b]).py = .tuple [d.py, .str b] from rfl, show (Dt.tup [d, .txt a]).py = .tuple [d.py, .str a] from rfl, PySem.W.dataLt_pair al (by simp [PySem.W.alike]), if_pos ev, PySem.W.dataLt_str]
  by_cases e : PyData.eqv (.str b) (.str a) = true
  · rw [if_pos e]
    have e2 : b = a := by simpa [PyData.eqv] using e
    rw [e2]
    simp
  · rw [if_neg e]
/-- a list comprehension over the keys of a dict -/
theorem lc_k {d : Addr} {o : Obj} {kvs : List (Key × V)} {g : TG} {tt : TT} {te : TE} {vs : List Nat} {σ : L2.St} {H1 : Hp} {D : Addr} {Qd : Hp → Prop} (Pv : Nat → Hp → Prop) (h0 : Pv 0 (upd H1 D (.lst []))) (hl : ∀ i H, i ≤ kvs.length → Pv i H → H d = some (.frz o (.dK kvs)))
    (hs : ∀ i p H, kvs[i]? = some p → Pv i H → g (kV p.1) (wipe σ vs) H fun σ2 H2 => wipe σ2 vs = wipe σ vs ∧ tt σ2 H2 fun b H3 =>
      if b = true then te σ2 H3 fun y H4 => ∃ acc, H4 D = some (.lst acc) ∧ acc.length < sizeLine ∧ Pv (i + 1) (upd H4 D (.lst (acc ++ [y]))) else Pv (i + 1) H3) (hd : ∀ H, Pv kvs.length H → Qd H) :
    ∃ W : Nat → Nat → Hp → Prop, (∃ m, W 0 m (upd H1 D (.lst []))) ∧ ∀ i m H, W i m H →
      ((Itk d o kvs).stop i H ∧ Qd H) ∨ ((Itk d o kvs).go i H ∧ ∃ Nx : Hp → Prop, (∀ H', Nx H' → ∃ m', m' < m ∧ W (i + 1) m' H') ∧ ∀ x H', (Itk d o kvs).yld i H x H' → g x (wipe σ vs) H' fun σ2 H2 => wipe σ2 vs = wipe σ vs ∧ tt σ2 H2 fun b H3 =>
        if b = true then te σ2 H3 fun y H4 => ∃ acc, H4 D = some (.lst acc) ∧ acc.length < sizeLine ∧ Nx (upd H4 D (.lst (acc ++ [y]))) else Nx H3) := by
  refine ⟨fun i m H => m = kvs.length - i ∧ i ≤ kvs.length ∧ Pv i H, ⟨kvs.length, by simp, Nat.zero_le _, h0⟩, ?_⟩
  rintro i m H ⟨rfl, hi, p⟩
  have q := hl i H hi p
  by_cases hlt : i < kvs.length
  · refine .inr ⟨⟨q, hlt⟩, Pv (i + 1), fun H' p' => ⟨kvs.length - (i + 1), by omega, rfl, hlt, p'⟩, fun x H' y => ?_⟩
    obtain ⟨e, k, v, hz, rfl⟩ := y
    subst e
    exact hs i (k, v) _ hz p
  · have e : i = kvs.length := by omega
    subst e
    exact .inl ⟨⟨q, Nat.le_refl _⟩, hd H p⟩
/-- len(d) -/
def rLenN (P : Program) (w : World) (K : PySem.W.Frag) : List V → Hp → VK → Prop := fun vs H Q => ∃ (d : Addr) (kvs : List NKV), vs = [.ref d] ∧ NDR P w K H d kvs ∧ Q (.int kvs.length) H
theorem call_lenN {X : Cx} : CallR X (.builtin "len") (rLenN X.prog X.w X.K) := by
  intro pins s σ H vs us Q I r h
  obtain ⟨d, kvs, rfl, ⟨xs, e, ks, rfl⟩, q⟩ := h
  obtain rfl := Vals.ref1 r
  obtain ⟨z, hd, ys, rel, dd⟩ := nd_raw I e ks
  have hl : (plainX xs).length = ys.length := by rw [plainX_len]; exact Paired.length rel
  have hn := line63
  have hz : xs.length = ys.length := Paired.length rel
  refine PySem.call_len_dictH hd dd (by omega) ?_
  exact ⟨.int (plainX xs).length, H, I.tok _, ⟨_, by rw [hl]⟩, q⟩
end GT

/-! ## get with a default, setdefault, index of data, enumerate in a dict comprehension -/
namespace GT
open PySem PySem.Spec PyProof.Rows L2
section
variable {X : Cx} {pins : List (Addr × Obj)} {σ : L2.St} {H : Hp} {s : Shared} {d a : Addr} {k : NestedKey} {kvs : List NKV} {v z : V} {u r : Value} {A : Around} {E : Value → Shared → Prop} {xs : List (NestedKey × Addr × V)}
theorem nd_get2 {Q : Value → Shared → Prop} (hu : A.units + 9 < cLine) (I : Inv X pins σ H s) (g : NDR X.prog X.w X.K H d kvs) (hk : KyAt X.K H (.ref a) k) (rd : RelV z r) (h : ∀ w' s', Inv X pins σ H s' → RelV ((valV kvs k).getD z) w' → Q w' s') :
    wpAny (model X.prog X.w) A (call (.builtin "dict.get") [.ref d, .ref a, r]) Q E s := by
  obtain ⟨xs, e, ks, rfl⟩ := g
  obtain ⟨zz, hd, ys, rel, dd⟩ := nd_raw I e ks
  refine call_meetsIn PySem.F.slot_dict_get dd.typeIs PySem.F.entry_dict_get (PySem.F.args_dict_get_3 _ _ _) (meetsH_dict_get_default (nestedKind X.prog X.w) d a hd r) ⟨nd_room hu, k, ys, hk.is I, dd, h _ _ (I.tok _) ?_⟩
  exact (rel.val k).getD rd
theorem nd_setd {Q : Value → Shared → Prop} (hu : A.units + 9 < cLine) (I : Inv X pins σ H s) (e : H d = some (ndO X.prog X.w d xs)) (ks : KeysAt X.K H xs) (hk : KyAt X.K H (.ref a) k) (hl : xs.length < sizeLine) (rd : RelV z r)
    (h1 : ∀ v w' s', valV (plainX xs) k = some v → Inv X pins σ H s' → RelV v w' → Q w' s') (h2 : ∀ s', valV (plainX xs) k = none → Inv X pins σ (upd H d (ndO X.prog X.w d (putX xs k a z))) s' → Q r s') :
    wpAny (model X.prog X.w) A (call (.builtin "dict.setdefault") [.ref d, .ref a, r]) Q E s := by
  obtain ⟨zz, hd, ys, rel, dd⟩ := nd_raw I (.inl e) ks
  have hz : ys.length ≤ sizeLine := by rw [← Paired.length rel]; exact zz
  have hl2 : (putX xs k a z).length ≤ sizeLine := by have := putX_len xs k a z; omega
  have hv := rel.val k
  refine call_setdefault_heap (hsz := hz) (nd_room hu) (hk.is I) hd dd (fun p hp => ?_) fun hn h' dd' hs => h2 _ ?_ ?_
  · rw [hp] at hv
    cases q : valV (plainX xs) k with
    | none => rw [q] at hv; exact (show False from hv).elim
    | some v => rw [q] at hv; exact h1 v _ _ q (I.tok _) hv
  · rw [hn] at hv
    cases q : valV (plainX xs) k with
    | none => rfl
    | some v => rw [q] at hv; exact (show False from hv).elim
  · obtain ⟨q, es, ep, hq, h2, h3, h4, _, h5⟩ := dd'
    exact d_write I (by rw [e]; exact True.intro) hs ⟨q, hq⟩ (ndO_ok ⟨hl2, hd, _, rel.put k rd, q, es, ep, hq, h2, h3, h4, h5⟩)
theorem nd_base (I : Inv X pins σ H s) (g : NDR X.prog X.w X.K H d kvs) : s.TypeIs (.ref d) "dict" ∧ ∀ b, Value.ref d = .ref b → ∃ ob, s.heap.get? b = some ob ∧ ob.dict = none := by
  obtain ⟨xs, e, ks, rfl⟩ := g
  obtain ⟨z, hd, ys, rel, dd⟩ := nd_raw I e ks
  refine ⟨dd.typeIs, fun b q => ?_⟩
  cases q
  obtain ⟨ob, _, _, h1, h2, _⟩ := dd
  exact ⟨ob, h1, h2.2.1⟩
end
/-- d.get(y, z) -/
def tNGet2 (P : Program) (w : World) (K : PySem.W.Frag) (td ty tx : TE) : TE := fun σ H Q => td σ H fun x H1 => ∃ d kvs, x = .ref d ∧ NDR P w K H1 d kvs ∧ ty σ H1 fun y H2 => tx σ H2 fun z H3 => ∃ a kvs k, y = .ref a ∧ NDR P w K H3 d kvs ∧ KyAt K H3 (.ref a) k ∧ Q ((valV kvs k).getD z) H3
/-- d.setdefault(y, z) -/
def tNSetd (P : Program) (w : World) (K : PySem.W.Frag) (td ty tx : TE) : TE := fun σ H Q => td σ H fun x H1 => ∃ d kvs, x = .ref d ∧ NDR P w K H1 d kvs ∧ ty σ H1 fun y H2 => tx σ H2 fun z H3 => ∃ a kvs k, y = .ref a ∧ ND P w K H3 d kvs ∧ KyAt K H3 (.ref a) k ∧ kvs.length < sizeLine ∧
  (∀ v, valV kvs k = some v → Q v H3) ∧ (valV kvs k = none → ∀ H4, ND P w K H4 d (putK kvs k z) → Stp [d] H3 H4 → Q z H4)
section
variable {X : Cx} {o e f : Expr} {td ty tx : TE} {apos cpos : Pos} {P : Program} {w : World} {K : PySem.W.Frag}
theorem pe_nget2K {k : Nat} (eP : X.prog = P) (ew : X.w = w) (eK : X.K = K) (hr : Room k X.A) (ho : PE X o td) (he : PE X e ty) (hf : PE X f tx) (m : M2 X o "get" apos e f cpos) : PE X (.Call (.Attribute o "get" apos) [e, f] [] cpos) (tNGet2 P w K td ty tx) := by
  subst eP ew eK
  refine ⟨fun pins s σ H Q I h => ?_⟩
  refine wpAny_Call_method m.base m.few m.line PySem.F.plainAttrs_dict PySem.F.slot_dict_get PySem.F.type_dict_get (thn (ho.run pins s σ H _ I h) fun u s1 ⟨x, H1, I1, rx, d, kvs, ex, g, q1⟩ => ?_)
  subst ex
  obtain rfl : u = Value.ref d := rx
  obtain ⟨t1, t2⟩ := nd_base I1 g
  refine ⟨t1, t2, ?_⟩
  rw [m.trees]
  refine Calls.callWith_builtin rfl (Calls.evalArgs_plain (Calls.spliced_cons (thn (he.run pins s1 σ H1 _ I1 q1) fun iv s2 ⟨y, H2, I2, ry, q2⟩ =>
    Calls.spliced_cons (thn (hf.run pins s2 σ H2 _ I2 q2) fun fv s3 ⟨z, H3, I3, rz, a, kv, k, ey, g3, hk, q3⟩ => Calls.spliced_nil ?_))))
  subst ey
  obtain rfl : iv = Value.ref a := ry
  exact nd_get2 (hu9 hr) I3 g3 hk rz fun w' s4 I4 rw' => ⟨_, H3, I4, rw', q3⟩
theorem pe_nsetdK {k : Nat} (eP : X.prog = P) (ew : X.w = w) (eK : X.K = K) (hr : Room k X.A) (ho : PE X o td) (he : PE X e ty) (hf : PE X f tx) (m : M2 X o "setdefault" apos e f cpos) : PE X (.Call (.Attribute o "setdefault" apos) [e, f] [] cpos) (tNSetd P w K td ty tx) := by
  subst eP ew eK
  refine ⟨fun pins s σ H Q I h => ?_⟩
  refine wpAny_Call_method m.base m.few m.line PySem.F.plainAttrs_dict PySem.F.slot_dict_setdefault PySem.F.type_dict_setdefault (thn (ho.run pins s σ H _ I h) fun u s1 ⟨x, H1, I1, rx, d, kvs, ex, g, q1⟩ => ?_)
  subst ex
  obtain rfl : u = Value.ref d := rx
  obtain ⟨t1, t2⟩ := nd_base I1 g
  refine ⟨t1, t2, ?_⟩
  rw [m.trees]
  refine Calls.callWith_builtin rfl (Calls.evalArgs_plain (Calls.spliced_cons (thn (he.run pins s1 σ H1 _ I1 q1) fun iv s2 ⟨y, H2, I2, ry, q2⟩ =>
    Calls.spliced_cons (thn (hf.run pins s2 σ H2 _ I2 q2) fun fv s3 ⟨z, H3, I3, rz, a, kv, k, ey, ⟨xs, e3, ks, exs⟩, hk, hl, q3, q4⟩ => Calls.spliced_nil ?_))))
  subst ey exs
  obtain rfl : iv = Value.ref a := ry
  rw [plainX_len] at hl
  refine nd_setd (hu9 hr) I3 e3 ks hk hl rz (fun v w' s4 hv I4 rw' => ⟨v, H3, I4, rw', q3 v hv⟩) fun s4 hn I4 => ?_
  have st : Stp [d] H3 (upd H3 d (ndO X.prog X.w d (putX xs k a z))) := .wr (by simp) e3 fun _ z => nomatch z
  exact ⟨z, _, I4, rz, q4 hn _ ⟨_, upd_same, (ks.put hk).stp st, plainX_put xs k a z⟩ st⟩
end
section
variable {σ : L2.St} {H : Hp} {Q : VK} {td ty tx : TE} {ta : TA} {R : It → Hp → Prop} {P : Program} {w : World} {K : PySem.W.Frag}
theorem i_NGet2 (q : td σ H fun x H1 => ∃ d kvs, x = .ref d ∧ NDR P w K H1 d kvs ∧ ty σ H1 fun y H2 => tx σ H2 fun z H3 => ∃ a kvs k, y = .ref a ∧ NDR P w K H3 d kvs ∧ KyAt K H3 (.ref a) k ∧ Q ((valV kvs k).getD z) H3) : tNGet2 P w K td ty tx σ H Q := q
theorem i_NSetd (q : td σ H fun x H1 => ∃ d kvs, x = .ref d ∧ NDR P w K H1 d kvs ∧ ty σ H1 fun y H2 => tx σ H2 fun z H3 => ∃ a kvs k, y = .ref a ∧ ND P w K H3 d kvs ∧ KyAt K H3 (.ref a) k ∧ kvs.length < sizeLine ∧
  (∀ v, valV kvs k = some v → Q v H3) ∧ (valV kvs k = none → ∀ H4, ND P w K H4 d (putK kvs k z) → Stp [d] H3 H4 → Q z H4)) : tNSetd P w K td ty tx σ H Q := q
theorem i_Enum (q : ta σ H fun vs H1 => ∃ a xs, vs = [.ref a] ∧ SqL K H1 a xs ∧ R (Ite K a) H1) : iEnum K ta σ H R := q
end
/-! ### list.index of data -/
section
variable {X : Cx}
def rIndexT (K : PySem.W.Frag) : V → List V → Hp → VK → Prop := fun x xs H Q => ∃ (a : Addr) (y : V) (d : Dt) (ds : List Dt) (j : Nat) (z : Dt), x = V.ref a ∧ xs = [y] ∧ DtAt K H (V.ref a) (.lst ds) ∧ DtAt K H y d ∧ d.depth ≤ 60 ∧ Dt.depthAll ds ≤ 60 ∧
  ds[j]? = some z ∧ Dt.beq z d = true ∧ (∀ (m : Nat) (z' : Dt), m < j → ds[m]? = some z' → Dt.beq z' d = false) ∧ Q (.int (j : Nat)) H
theorem DtAll.get {h : Heap} : ∀ {ds : List Dt} {vs : List Value} {m : Nat} {v : Value}, DtAll h ds vs → vs[m]? = some v → ∃ d, ds[m]? = some d ∧ DtIs h d v
  | _, _, _, _, .nil, e => by simp at e
  | _, _, 0, _, .cons r _, e => by simp at e; subst e; exact ⟨_, rfl, r⟩
  | _, _, m + 1, _, .cons _ t, e => by
    obtain ⟨d, h1, h2⟩ := DtAll.get (m := m) t (by simpa using e)
    exact ⟨d, by simpa using h1, h2⟩
theorem DtAll.len {h : Heap} : ∀ {ds : List Dt} {vs : List Value}, DtAll h ds vs → ds.length = vs.length
  | _, _, .nil => rfl
  | _, _, .cons _ t => by rw [List.length_cons, List.length_cons, DtAll.len t]
theorem mt_indexT (hu : X.A.units + 65 < cLine) : MtR X "list.index" (rIndexT X.K) := by
  intro pins s σ H x xs v us Q I rx rxs h
  obtain ⟨a, y, d, ds, j, z, rfl, rfl, hl, hy, hd1, hd2, hz, hzj, hno, q⟩ := h
  cases rx
  cases rxs with
  | cons ry rt =>
    rename_i uy ut
    cases rt
    have r1 := DtAt.is I d y uy hy ry
    cases hl with
    | lst hs ha =>
      obtain ⟨its, rv, ⟨⟨cls, dd, data, sls⟩, n, ho, hc, hdn, hdt⟩, hlen⟩ := I.list hs
      simp only at hc hdt
      subst hc hdt
      have h4 := DtsAt.is I ds _ its ha rv
      have hn := h4.len
      have hvl := rv.length
      have hsl := sizeLine_eq
      obtain ⟨hjd, _⟩ := List.getElem?_eq_some_iff.mp hz
      have hjl : j < its.length := by omega
      have hj : j < its.toArray.size := by simpa using hjl
      have at_ : ∀ (m : Nat) (hm : m < its.toArray.size) (z' : Dt), ds[m]? = some z' → datOf s.heap its.toArray[m] = z' := by
        intro m hm z' hz'
        have hml : m < its.length := by simpa using hm
        obtain ⟨d', h5, h6⟩ := h4.get (List.getElem?_eq_getElem hml)
        rw [hz'] at h5
        obtain rfl := Option.some.inj h5
        exact datOf_eq (by simpa using h6)
      refine call_meets PySem.F.slot_list_index ⟨_, ho, rfl⟩ PySem.F.entry_list_index (PySem.F.args_list_index_2 _ _)
        (SeqAt.list_indexAt a its.toArray n dd sls uy (fun u => Dt.beq (datOf s.heap u) d) j hj (by omega) ?_ ?_) ⟨ho, ?_, ?_⟩
      · show Dt.beq (datOf s.heap its.toArray[j]) d = true
        rw [at_ j hj z hz]
        exact hzj
      · intro m hm hmj
        have hmd : m < ds.length := by omega
        have hz' : ds[m]? = some ds[m] := List.getElem?_eq_getElem hmd
        show Dt.beq (datOf s.heap its.toArray[m]) d = false
        rw [at_ m hm _ hz']
        exact hno m _ hmj hz'
      · intro w hw
        obtain ⟨c, hc, rc⟩ := DtAll.mem h4 (by simpa using hw)
        show SeqAt.EqAt _ _ _ _ (Dt.beq (datOf s.heap w) d)
        rw [datOf_eq rc]
        have hc2 := Dt.depth_mem hc
        exact eqAt_dt c d _ s _ _ rc r1 (by first | (rw [Around.in1_units, Around.in1_units]; omega) | (rw [Around.in1_units]; omega) | omega)
      · exact ⟨.int (j : Nat), H, I.tok _, ⟨_, rfl⟩, q⟩
end
/-! ### a dict comprehension over enumerate(list) -/
theorem dn_enum {K : PySem.W.Frag} {P : Program} {w : World} {g : TG} {tt : TT} {tk tv : TE} {vs : List Nat} {σ : L2.St} {a : Addr} {xs : List V} {H2 : Hp} {D : Addr} {Qd : Hp → Prop} (Pv : Nat → Hp → Prop) (h0 : Pv 0 H2) (hl : ∀ i H, i ≤ xs.length → Pv i H → SqL K H a xs)
    (hs : ∀ i x H T, xs[i]? = some x → Pv i H → H T = none → g (.ref T) (wipe σ vs) (upd H T (.tup [.int (i : Nat), x])) fun σ2 H2 => wipe σ2 vs = wipe σ vs ∧ tt σ2 H2 fun b H3 =>
      if b = true then tk σ2 H3 fun y H4 => tv σ2 H4 fun z H5 => ∃ a kvs k, y = .ref a ∧ ND P w K H5 D kvs ∧ KyAt K H5 (.ref a) k ∧ kvs.length < sizeLine ∧ ∀ H6, ND P w K H6 D (putK kvs k z) → Stp [D] H5 H6 → Pv (i + 1) H6 else Pv (i + 1) H3) (hd : ∀ H, Pv xs.length H → Qd H) :
    ∃ W : Nat → Nat → Hp → Prop, (∃ m, W 0 m H2) ∧ ∀ i m H, W i m H →
      ((Ite K a).stop i H ∧ Qd H) ∨ ((Ite K a).go i H ∧ ∃ Nx : Hp → Prop, (∀ H', Nx H' → ∃ m', m' < m ∧ W (i + 1) m' H') ∧ ∀ x H', (Ite K a).yld i H x H' → g x (wipe σ vs) H' fun σ2 H2 => wipe σ2 vs = wipe σ vs ∧ tt σ2 H2 fun b H3 =>
        if b = true then tk σ2 H3 fun y H4 => tv σ2 H4 fun z H5 => ∃ a kvs k, y = .ref a ∧ ND P w K H5 D kvs ∧ KyAt K H5 (.ref a) k ∧ kvs.length < sizeLine ∧ ∀ H6, ND P w K H6 D (putK kvs k z) → Stp [D] H5 H6 → Nx H6 else Nx H3) := by
  refine ⟨fun i m H => m + i = xs.length ∧ Pv i H, ⟨xs.length, rfl, h0⟩, fun i m H ⟨em, p⟩ => ?_⟩
  have at_ := hl i H (by omega) p
  match m, em with
  | 0, em =>
    have e : i = xs.length := by omega
    subst e
    exact .inl ⟨⟨xs, at_, Nat.le_refl _⟩, hd H p⟩
  | m + 1, em =>
    have lt : i < xs.length := by omega
    refine .inr ⟨⟨xs, xs[i], at_, List.getElem?_eq_getElem lt⟩, Pv (i + 1), fun H' p' => ⟨m, Nat.lt_succ_self m, by omega, p'⟩, fun x H' ⟨T, z, e, n, eh, hz⟩ => ?_⟩
    subst e eh
    exact hs i z _ T (hz xs at_) p n
theorem hu65 {A : Around} {k : Nat} (hr : Room k A) : A.units + 65 < cLine := by have := hr.un; omega
section
variable {X : Cx} {K : PySem.W.Frag}
theorem mt_indexTK (eK : X.K = K) (hu : X.A.units + 65 < cLine) : MtR X "list.index" (rIndexT K) := by subst eK; exact mt_indexT hu
variable {o e : Expr} {es : List Expr} {to : TE} {t : TA} {name : Str} {apos cpos : Pos} {T id : String} {r : V → List V → Hp → VK → Prop}
theorem pe_bmK (eK : X.K = K) (pa : PlainAttrs T) (slot : Slot T name id) (hty : typeOf (.builtin id) = pure (.type "method_descriptor")) (hm : MtR X id r) (ho : PE X o to) (ha : PA X (e :: es) t)
    (hbase : attributeBase o name X.env (eval o X.env) = eval o X.env := by rfl)
    (hfew : ((backTo cpos (starEach (e :: es) X.env)).all (fun x => !x.1) && (backToKw cpos (keywordEach [] X.env)).all (fun x => x.1.isSome)
      && decide ((e :: es).length + ([] : List Keyword).length + (if ([] : List Keyword).isEmpty then 0 else 1) < 30)) = true := by rfl)
    (hline : (apos.endLine == cpos.line) = true := by rfl) (hs : starEach (e :: es) X.env = (false, eval e X.env) :: starEach es X.env := by rfl) (hplain : (backTo cpos (starEach es X.env)).any (·.1) = false := by rfl) :
    PE X (.Call (.Attribute o name apos) (e :: es) [] cpos) (tBM K T r to t) := by
  subst eK; exact pe_bm pa slot hty hm ho ha hbase hfew hline hs hplain
end
section
variable {P : Program} {w : World} {K : PySem.W.Frag} {H H1 : Hp} {M : List Addr} {d : Addr} {kvs : List NKV}
theorem NDR.stp' (h : NDR P w K H d kvs) (s : Stp M H H1) (n : d ∉ M) : NDR P w K H1 d kvs :=
  let ⟨xs, e, k, q⟩ := h
  ⟨xs, e.elim (fun e => .inl (s.keep _ _ e n)) (fun ⟨o, e⟩ => .inr ⟨o, s.keep _ _ e n⟩), k.stp s, q⟩
end
end GT

/-! ## statements that are never reached; a sign so many times -/
namespace GT
open PySem PySem.Spec PyProof.Rows L2
section
variable {X : Cx}
/-- of a statement that is never reached nothing is asked -/
def tNever : TS := fun _ _ _ => False
theorem ps_never {st : Stmt} : PS X st tNever := ⟨fun pins s σ H D I h => h.elim⟩
def rMulS : R2 := fun x y H Q => ∃ (z : Str) (n : Int), x = .str z ∧ y = .int n ∧ z.length = 1 ∧ 0 ≤ n ∧ n ≤ 1000 ∧ Q (.str (Txt.mul z n)) H
theorem op_mul_str : OpR X (binaryOp .Mult) rMulS := by
  rintro pins s σ H x y u v Q I rx ry ⟨z, n, rfl, rfl, hz, h0, h1, q⟩
  obtain ⟨t, rfl⟩ := (show ∃ t, u = Value.str z t from rx)
  obtain ⟨t2, rfl⟩ := (show ∃ t, v = Value.int n t from ry)
  refine PySem.SB.mul ⟨?_, fun a b => ?_, fun a b => ?_⟩ fun t' k => ⟨.str _, H, I.tok _, ⟨t', rfl⟩, q⟩
  · simp; omega
  · rw [hz]
    have h2 : (1 : Int) ≤ (2 ^ 63 - 1) / n := by
      rw [Int.le_ediv_iff_mul_le (by omega)]; omega
    show ¬ ((1 : Nat) : Int) > (2 ^ 63 - 1) / n
    omega
  · rw [hz]
    have h3 : n.toNat ≤ 1000 := by omega
    have h4 := sizeLine_eq
    unfold PySem.Builtin.Str.tooLong
    rw [decide_eq_false_iff_not, h4]
    omega
end
section
variable {σ : L2.St} {H : Hp} {Q : VK} {te : TE} {R : It → Hp → Prop}
theorem i_Str (q : te σ H fun v H1 => ∃ x, v = .str x ∧ R (Its x) H1) : iStr te σ H R := q
end
end GT

/-! ## set(list of ints) -/
namespace GT
open PySem PySem.Spec PyProof.Rows L2
section
variable {P : Program} {w : World} {A : Around} {E : Value → Shared → Prop} {s : Shared}
/-- the set is filled: what stood before stands -/
def Filled (w : World) (s : Shared) (ns : List Int) (t : Shared) : Prop :=
  ∃ (h2 : Heap) (t2 m : Nat), t = { s with heap := h2, toks := t2 } ∧ SetR w h2 s.heap.objs.size (fun j => decide (j ∈ ns)) m ∧ m ≤ ns.length ∧ ∀ b o, s.heap.get? b = some o → h2.get? b = some o
theorem call_set_ints {l : Addr} {xs : Array Value} {ns : List Int} {Q : Value → Shared → Prop} (nh : A.handled = none) (hl : s.heap.IsList l xs) (hx : IntsAre xs.toList ns) (lim : ns.length + 1 < scanBound)
    (fin : ∀ t, Filled w s ns t → Q (.ref s.heap.objs.size) t) : wpAny (model P w) A (call (.type "set") [.ref l]) Q E s := by
  have size_eq : xs.size = ns.length := by rw [← Array.length_toList]; exact IntsAre.length hx
  obtain ⟨_, _, order⟩ := F.called_set.mro
  have is_made := F.called_set.made
  have is_sub := F.called_set.sub
  have not_type := F.called_set.notType
  have creates := F.called_set.canCreate
  have checked := F.typeCall_set_1 (.ref l)
  refine wpAny_call (codeAny_of_tree (wpAny_pure ⟨Code.quiet_builtin _ (by decide +kernel), codeAny_builtin F.entry_type_call ?_⟩))
  rw [Around.under_plain (weight_type_call_type "set" [.ref l] []) rfl]
  repeat (any_goals (first | assumption | wp_step))
  generalize hN : ({ cls := .type "set", dict := none, data := .set #[] 0 (.fresh 0 0 (!w.params.followText "set-order")) } : Obj) = N
  have ncls : N.cls = .type "set" := by rw [← hN]
  refine codeAny_mono (code_set_led1 (.ref l) (E := E) (Q₁ := fun o t => o = .ref s.heap.objs.size ∧ t = { s with heap := s.heap.push N }) (by rw [hN]; exact ⟨rfl, rfl⟩)) fun r t hr => ?_
  rcases r with _ | f
  · exact hr
  rcases f with o | _ | _ | _
  rotate_left
  all_goals try exact hr.elim
  obtain ⟨rfl, rfl⟩ := hr
  have at_new : (s.heap.push N).get? s.heap.objs.size = some N := Heap.get?_push_size _ (by rw [← hN]; rfl)
  have kind : Shared.TypeIs { s with heap := s.heap.push N } (.ref s.heap.objs.size) "set" := ⟨N, at_new, ncls⟩
  have init_at := F.called_set.init.lookup
  have init_bound := F.called_set.init.bind (.ref s.heap.objs.size)
  repeat (any_goals (first | assumption | wp_step))
  refine codeAny_mono (codeAny_call_builtin (R := wants (fun r t => r = .none ∧ Filled w s ns t) E) F.called_set.init.plain F.entry_set_init (check_set_init_1 kind ?_)) fun r t hr => ?_
  · obtain ⟨⟨c, d, dt, sl⟩, ol, hc, n, hd⟩ := hl
    obtain rfl : c = .type "list" := hc
    obtain rfl : dt = .seq xs n := hd
    have l_old := Heap.lt_size ol
    have ol2 : (s.heap.push N).get? l = some { cls := .type "list", dict := d, data := .seq xs n, slots := sl } := Heap.get?_push_of_some _ ol
    have fact1 := F.sub_list_set
    have fact2 := F.sub_list_frozenset
    have fact3 : (Value.type "list" == Value.type "dict") = false := by decide
    have is_l : (s.heap.push N).IsList l xs := ⟨_, ol2, rfl, n, rfl⟩
    have grown : (s.heap.push N).objs.size = s.heap.objs.size + 1 := Heap.size_push ..
    have apart : l ≠ (s.heap.push N).objs.size := by rw [grown]; exact Nat.ne_of_lt (Nat.lt_succ_of_lt l_old)
    have apart2 : s.heap.objs.size ∉ [(s.heap.push N).objs.size, l] := by
      rw [grown]
      intro z
      rcases List.mem_cons.mp z with z | z
      · exact Nat.ne_of_lt (Nat.lt_succ_self _) z
      · exact Nat.ne_of_gt l_old (List.mem_singleton.mp z)
    subst hN
    unfold Builtin.«set.__init__» noKeywords Builtin.Frozenset.updateFrom
    generalize hPI : pyIter = PI
    wp_walk
    subst hPI
    refine wpAny_pyIter_list is_l ?_
    refine wpAny_bind (wpAny_runValue ?_)
    have out : A.in1.in1.in1.handled = none := by simp [nh]
    refine set_update_ints ((Walks.list out _ l apart xs).toS) s.heap.objs.size apart2 ns size_eq lim (fun i v hv => ?_) xs.size 0 _ (Nat.sub_zero _) (Nat.zero_le _) ⟨⟨_, Heap.get?_push_size _ rfl, rfl, rfl⟩, is_l.push _⟩ ⟨0, Nat.le_refl 0, ?_⟩ fun t m mv hm R => ?_
    · have hi : i < ns.length := by rw [← size_eq]; exact (Array.getElem?_eq_some_iff.mp hv).1
      obtain ⟨k, e⟩ := IntsAre.int_at hx i v (by rw [Array.getElem?_toList]; exact hv)
      refine ⟨ns[i], k, List.getElem?_eq_getElem hi, ?_⟩
      rw [e]
      simp [hi]
    · exact setR_new_at (Heap.get?_push_of_some _ at_new)
    · obtain ⟨h2, g2, d2, t2, os2⟩ := t
      obtain rfl : g2 = s.gens := mv.gens
      obtain rfl : d2 = s.drawn := mv.drawn
      obtain rfl : os2 = s.os := mv.os
      refine wpAny_pure (show wpAny _ _ (ret Value.none) _ _ _ from wpAny_pure ⟨rfl, h2, t2, m, rfl, R, by omega, fun b o e => ?_⟩)
      have old := Heap.lt_size e
      exact mv.heap b o (fun z => (List.mem_cons.mp z).elim (fun z => Nat.ne_of_lt old z) fun z => Nat.ne_of_lt (Nat.lt_succ_of_lt old) ((List.mem_singleton.mp z).trans grown)) (Heap.get?_push_of_some _ (Heap.get?_push_of_some _ e))
  · rcases r with _ | f
    · exact hr
    rcases f with o | _ | _ | _
    rotate_left
    all_goals try exact hr.elim
    obtain ⟨rfl, hf⟩ := hr
    repeat (any_goals (first | assumption | wp_step))
    exact fin _ hf
end
end GT

namespace GT
open PySem PySem.Spec PyProof.Rows L2
/-! ### ascending lists of ints -/
theorem asc_eq : ∀ {l m : List Int}, l.Pairwise (· < ·) → m.Pairwise (· < ·) → (∀ k, k ∈ l ↔ k ∈ m) → l = m
  | [], [], _, _, _ => rfl
  | [], b :: m, _, _, h => absurd ((h b).mpr List.mem_cons_self) (by simp)
  | a :: l, [], _, _, h => absurd ((h a).mp List.mem_cons_self) (by simp)
  | a :: l, b :: m, hl, hm, h => by
    obtain ⟨l1, l2⟩ := List.pairwise_cons.mp hl
    obtain ⟨m1, m2⟩ := List.pairwise_cons.mp hm
    have e : a = b := by
      rcases List.mem_cons.mp ((h a).mp List.mem_cons_self) with z | z
      · exact z
      · rcases List.mem_cons.mp ((h b).mpr List.mem_cons_self) with y | y
        · exact y.symm
        · have := m1 a z
          have := l1 b y
          omega
    subst e
    rw [asc_eq l2 m2 fun k => ?_]
    constructor
    · intro hk
      rcases List.mem_cons.mp ((h k).mp (List.mem_cons_of_mem _ hk)) with z | z
      · have := l1 k hk; omega
      · exact z
    · intro hk
      rcases List.mem_cons.mp ((h k).mpr (List.mem_cons_of_mem _ hk)) with z | z
      · have := m1 k hk; omega
      · exact z
def putA (k : Int) : List Int → List Int
  | [] => [k]
  | a :: l => if k < a then k :: a :: l else if k = a then a :: l else a :: putA k l
theorem putA_mem (k : Int) : ∀ (l : List Int) (x : Int), x ∈ putA k l ↔ x = k ∨ x ∈ l
  | [], x => by simp [putA]
  | a :: l, x => by
    unfold putA
    by_cases h1 : k < a
    · rw [if_pos h1]; simp
    · rw [if_neg h1]
      by_cases h2 : k = a
      · rw [if_pos h2]; simp [h2]
      · rw [if_neg h2, List.mem_cons, putA_mem k l x, List.mem_cons]
        constructor
        · rintro (z | z | z)
          · exact .inr (.inl z)
          · exact .inl z
          · exact .inr (.inr z)
        · rintro (z | z | z)
          · exact .inr (.inl z)
          · exact .inl z
          · exact .inr (.inr z)
theorem putA_asc (k : Int) : ∀ (l : List Int), l.Pairwise (· < ·) → (putA k l).Pairwise (· < ·)
  | [], _ => by simp [putA]
  | a :: l, h => by
    obtain ⟨h1, h2⟩ := List.pairwise_cons.mp h
    unfold putA
    by_cases c1 : k < a
    · rw [if_pos c1]
      refine List.pairwise_cons.mpr ⟨fun x hx => ?_, h⟩
      rcases List.mem_cons.mp hx with z | z
      · omega
      · have := h1 x z; omega
    · rw [if_neg c1]
      by_cases c2 : k = a
      · rw [if_pos c2]; exact h
      · rw [if_neg c2]
        refine List.pairwise_cons.mpr ⟨fun x hx => ?_, putA_asc k l h2⟩
        rcases (putA_mem k l x).mp hx with z | z
        · omega
        · exact h1 x z
/-- the members of a list, ascending, each once -/
def sset : List Int → List Int
  | [] => []
  | k :: l => putA k (sset l)
theorem sset_mem : ∀ (l : List Int) (x : Int), x ∈ sset l ↔ x ∈ l
  | [], x => by simp [sset]
  | k :: l, x => by rw [sset, putA_mem, sset_mem l x, List.mem_cons]
theorem sset_asc : ∀ l : List Int, (sset l).Pairwise (· < ·)
  | [] => by simp [sset]
  | k :: l => putA_asc k _ (sset_asc l)
theorem sset_of {l m : List Int} (h : m.Pairwise (· < ·)) (e : ∀ k, k ∈ m ↔ k ∈ l) : m = sset l := asc_eq h (sset_asc l) fun k => (e k).trans (sset_mem l k).symm
theorem sset_cong {l m : List Int} (e : ∀ k, k ∈ l ↔ k ∈ m) : sset l = sset m := sset_of (sset_asc l) fun k => (sset_mem l k).trans (e k)
theorem asc_nodup {l : List Int} (h : l.Pairwise (· < ·)) : l.Nodup := h.imp fun z => Int.ne_of_lt z
theorem sset_nodup (l : List Int) : (sset l).Nodup := asc_nodup (sset_asc l)
theorem sset_le : ∀ l : List Int, (sset l).length ≤ l.length
  | [] => by simp [sset]
  | k :: l => by
    have h := sset_le l
    have : ∀ m : List Int, (putA k m).length ≤ m.length + 1 := by
      intro m
      induction m with
      | nil => simp [putA]
      | cons a m ih =>
        unfold putA
        by_cases c1 : k < a
        · rw [if_pos c1]; simp
        · rw [if_neg c1]
          by_cases c2 : k = a
          · rw [if_pos c2]; simp
          · rw [if_neg c2, List.length_cons, List.length_cons]; omega
    have := this (sset l)
    rw [sset, List.length_cons]; omega
section
variable {X : Cx} {K : PySem.W.Frag}
theorem ints_vals : ∀ {ns : List Int} {us : List Value}, Vals (ns.map V.int) us → IntsAre us ns
  | [], _, .nil => .nil
  | n :: ns, _, .cons r t => by
    obtain ⟨k, rfl⟩ := r
    exact .cons n k (ints_vals t)
/-- set(xs): xs a list of ints -/
def rSetI (K : PySem.W.Frag) (w : World) : List V → Hp → VK → Prop := fun vs H Q => ∃ (l : Addr) (ns : List Int), vs = [.ref l] ∧ SqL K H l (ns.map V.int) ∧ ns.length ≤ 4000 ∧
  ∀ (p : Addr) (m : Nat), H p = none → m ≤ ns.length → Q (.ref p) (upd H p (SetO w p (fun j => decide (j ∈ ns)) m))
theorem cr_setI (hc : X.calm = true) : CallR X (.type "set") (rSetI X.K X.w) := by
  intro pins s σ H vs us Q I r h
  obtain ⟨l, ns, rfl, hs, hl, q⟩ := h
  obtain rfl := Vals.ref1 r
  obtain ⟨its, rv, pl, hz⟩ := I.list hs
  refine call_set_ints (ns := ns) (I.ok.hd hc) pl.isList (by simpa using ints_vals rv) (by unfold scanBound; omega) fun t ⟨h2, t2, m, e, R, hm, hk⟩ => ?_
  subst e
  exact ⟨.ref _, upd H s.heap.objs.size (SetO X.w s.heap.objs.size (fun j => decide (j ∈ ns)) m), I.laid (t' := t2) hk (Nat.le_refl _) (setO_new R), rfl, q _ m (I.hok.fresh (Nat.le_refl _)) hm⟩
/-- len within a comprehension -/
theorem call_len_seqK (e : X.K = K) : CallR X (.builtin "len") (fun xs H Q => ∃ p ys, xs = [V.ref p] ∧ (SqL K H p ys ∨ SqT K H p ys) ∧ Q (V.int (ys.length : Nat)) H) := by subst e; exact call_len_seq
/-- isinstance within a comprehension -/
theorem call_isiK (e : X.K = K) : CallR X (.builtin "isinstance") (rIsi K) := by subst e; exact call_isi
/-- sorted(set(xs)) -/
theorem sset_i {K : PySem.W.Frag} {w : World} {H : Hp} {Q : VK} {l : Addr} {ns : List Int} (h : SqL K H l (ns.map V.int)) (b : ns.length < 64) (q : ∀ (p : Addr) (H1 : Hp), H p = none → H1 p = some (.lst ((sset ns).map V.int)) → Stp [] H H1 → Q (.ref p) H1) :
    rSetI K w [.ref l] H fun v H' => rSortedSet w [v] H' Q := by
  refine ⟨l, ns, rfl, h, by omega, fun p m hp hm => ⟨p, _, m, rfl, upd_same, by omega, fun os p2 h1 h2 h3 h4 => ?_⟩⟩
  have e : os = sset ns := sset_of h1 fun k => by rw [h2]; simp
  have s1 : Stp [] H (upd H p (SetO w p (fun j => decide (j ∈ ns)) m)) := .new hp
  subst e
  exact q p2 _ (s1.free h4 (by simp)) upd_same (s1.trans (.new h4))
theorem sset_t {K : PySem.W.Frag} {w : World} {σ : L2.St} {H : Hp} {Q : VK} {l : Addr} {ns : List Int} (h : SqL K H l (ns.map V.int)) (b : ns.length < 64) (q : ∀ (p : Addr) (H1 : Hp), H p = none → H1 p = some (.lst ((sset ns).map V.int)) → Stp [] H H1 → Q (.ref p) H1) :
    rSetI K w [.ref l] H fun x H1 => tNil σ H1 fun xs H2 => rSortedSet w (x :: xs) H2 Q := sset_i h b q
/-- sorted(d): the keys of d are ints -/
def rSortDI : List V → Hp → VK → Prop := fun vs H Q => ∃ (d : Addr) (kvs : List (Key × V)) (ns : List Int), vs = [.ref d] ∧ H d = some (.dK kvs) ∧ kvs.map (·.1) = ns.map Sum.inl ∧ ns.length < 64 ∧ ns.Nodup ∧
  ∀ p : Addr, H p = none → Q (.ref p) (upd H p (.lst ((sset ns).map V.int)))
theorem sorted_sset {l ns : List Int} (p : l.Perm ns) (o : l.Pairwise (· ≤ ·)) (nd : ns.Nodup) : l = sset ns := by
  refine sset_of ?_ fun k => p.mem_iff
  have nd' := p.nodup_iff.mpr nd
  exact (o.and nd').imp fun ⟨a, b⟩ => by omega
theorem cr_sortDI (hc : X.calm = true) : CallR X (.builtin "sorted") rSortDI := by
  intro pins s σ H vs us Q I r h
  obtain ⟨d, kvs, ns, rfl, hd, hk, h64, nd, q⟩ := h
  obtain rfl := Vals.ref1 r
  obtain ⟨z, lo, es, rel, at0⟩ := dk_of I.hok hd
  obtain ⟨ep, at1⟩ := at0.dictAt
  have l1 : kvs.length = es.length := Paired.length rel
  have l2 : kvs.length = ns.length := by have := congrArg List.length hk; simpa using this
  refine Calls.call_function_entry kind_sorted plain_sorted entry_sorted (args_sorted1 _) ?_
  unfold Builtin.«sorted»
  refine wpAny_bind (m := checkCount "sorted" 1 1 _) (wpAny_pure ?_)
  refine wpAny_bind (PySem.W.kdu_collect (A := X.A.in1) (PySem.W.kdl_dict (knd := mixKind X.prog X.w) (kvs := es) (ep := ep) lo) (I.ok.hd hc) at1 (by omega) fun h1 tk acc keeps items => ?_)
  have l3 : acc.toList.length = ns.length := by rw [Array.length_toList, items.1]; omega
  have vs_ : Vals (ns.map V.int) acc.toList := by
    refine vals_of_at (by rw [List.length_map, l3]) fun j x u e1 e2 => ?_
    obtain ⟨k, y, e3, e4⟩ := items.2 j u (by rw [← Array.getElem?_toList]; exact e2)
    have e5 : (kvs.map (·.1))[j]? = some k := by rw [KV.keys rel, List.getElem?_map, e3]; rfl
    rw [hk, List.getElem?_map] at e5
    obtain ⟨n, e6, rfl⟩ := Option.map_eq_some_iff.mp e5
    rw [List.getElem?_map, e6] at e1
    cases e1
    exact @keyIs_rel (Sum.inl n) u e4
  have iv := ints_vals vs_
  refine wpAny_bind (wpAny_newList ?_ (by rw [l3, sizeLine_eq]; omega))
  have ho : (h1.push (seqObj "list" acc.toList.toArray 0)).get? h1.objs.size = some (seqObj "list" acc.toList.toArray 0) := Heap.get?_push_size _ rfl
  refine wpAny_bind (wpAny_holding (wpAny_call_entry slot_list_sort ⟨_, ho, rfl⟩ entry_list_sort (list_sort_tree ho iv (by rw [l3]; exact h64) fun out os o1 o2 o3 => ⟨_, rfl, ?_⟩) (args_list_sort _)))
  obtain ⟨c, hc'⟩ := sortedHeap_at (vs := acc.toList) (out := out) ho
  obtain rfl := sorted_sset o2 o3 nd
  have lo2 : ((sset ns).map V.int).length ≤ sizeLine := by rw [List.length_map, o2.length_eq]; exact small64 h64
  have I1 : Inv X pins σ H { s with heap := h1, toks := tk } := I.kept keeps
  refine wpAny_pure ⟨_, rfl, .ref h1.objs.size, upd H h1.objs.size (.lst ((sset ns).map V.int)), I1.laid (t' := tk) (fun b u e2 => ?_) (Nat.le_refl _) (show ObjOk X.prog X.w _ _ _ (.lst ((sset ns).map V.int)) from ⟨lo2, out.toList, c, vals_of_ints o1, hc'⟩), rfl, q _ (I1.hok.fresh (Nat.le_refl _))⟩
  have b2 := Heap.lt_size e2
  show (sortedHeap (h1.push (seqObj "list" acc.toList.toArray 0)) h1.objs.size acc.toList out).get? b = some u
  rw [sortedHeap_old (Nat.ne_of_lt b2) (by rw [size_push']; exact Nat.lt_succ_of_lt b2)]
  exact Heap.get?_push_of_some _ e2
end
end GT

/-! ## texts: f'..', split, join -/
namespace GT
open PySem PySem.Spec PyProof.Rows L2
section
variable {σ : L2.St} {H : Hp} {Q : VK} {to te : TE} {r : V → List V → Hp → VK → Prop} {t : TE} {ts : List TE} {acc : Str} {R : Str → Hp → Prop}
theorem i_M1 (q : to σ H fun x H1 => (∃ a, x = .str a) ∧ te σ H1 fun y H2 => r x [y] H2 Q) : tM1 r to te σ H Q := q
theorem i_Fmt (q : te σ H fun x H1 => (∃ y : Str, x = .str y ∧ y.length ≤ sizeLine ∧ Q (.str y) H1) ∨ ∃ i : Int, x = .int i ∧ i.natAbs.log2 < 1920 ∧ Q (.str (toString i)) H1) : tFmt te σ H Q := q
theorem i_Js (q : t σ H fun x H1 => ∃ y : Str, x = .str y ∧ (acc ++ y).length ≤ sizeLine ∧ tJs ts (acc ++ y) σ H1 R) : tJs (t :: ts) acc σ H R := q
theorem i_Js0 (q : R acc H) : tJs [] acc σ H R := q
end
theorem i_SetAt {σ : L2.St} {H : Hp} {v : V} {to ti : TE} {t : TSet} {Q : L2.St → Hp → Prop} (q : to σ H fun o H1 => ti σ H1 fun i H2 => t o i v H2 fun H3 => Q σ H3) : gSub to ti t v σ H Q := q
/-- f'..' of several parts -/
def tJoin (ts : List TE) : TE := fun σ H Q => tJs ts Str.empty σ H fun out H1 => Q (.str out) H1
theorem pe_joinedT {X : Cx} {v1 v2 : Expr} {rest : List Expr} {ts : List TE} {pos : Pos} (h : PJ X (v1 :: v2 :: rest) ts) : PE X (.JoinedStr (v1 :: v2 :: rest) pos) (tJoin ts) := pe_joined h
theorem i_Join {σ : L2.St} {H : Hp} {Q : VK} {ts : List TE} (q : tJs ts Str.empty σ H fun out H1 => Q (.str out) H1) : tJoin ts σ H Q := q
/-- for i, x in enumerate(xs) -/
theorem for_enum {K : PySem.W.Frag} {a : Addr} {xs : List V} {g : TG} {tb : TS} {D : Ends} {σ : L2.St} {H : Hp} (Pv : Nat → L2.St → Hp → Prop) (h0 : Pv 0 σ H) (hl : ∀ i σ H, i ≤ xs.length → Pv i σ H → SqL K H a xs)
    (hs : ∀ i x T σ H, xs[i]? = some x → H T = none → Pv i σ H → g (.ref T) σ (upd H T (.tup [.int (i : Nat), x])) fun σ2 H2 => tb { D with nx := Pv (i + 1), ct := Pv (i + 1), bk := D.nx } σ2 H2) (hd : ∀ σ H, Pv xs.length σ H → D.nx σ H) :
    ∃ W : Nat → Nat → L2.St → Hp → Prop, (∃ m, W 0 m σ H) ∧ ∀ i m σ H, W i m σ H →
      ((Ite K a).stop i H ∧ D.nx σ H) ∨ ((Ite K a).go i H ∧ ∃ N : L2.St → Hp → Prop, (∀ σ' H', N σ' H' → ∃ m', m' < m ∧ W (i + 1) m' σ' H') ∧ ∀ x H', (Ite K a).yld i H x H' → g x σ H' fun σ2 H2 => tb { D with nx := N, ct := N, bk := D.nx } σ2 H2) := by
  refine ⟨fun i m σ H => m = xs.length - i ∧ i ≤ xs.length ∧ Pv i σ H, ⟨xs.length, by simp, Nat.zero_le _, h0⟩, ?_⟩
  rintro i m σ H ⟨em, hi, p⟩
  by_cases c : i < xs.length
  · refine .inr ⟨⟨xs, xs[i], hl i σ H hi p, List.getElem?_eq_getElem c⟩, Pv (i + 1), fun σ' H' h => ⟨m - 1, by omega, by omega, c, h⟩, ?_⟩
    rintro x H' ⟨T, y, rfl, e2, rfl, e4⟩
    exact hs i y T σ H (e4 xs (hl i σ H hi p)) e2 p
  · have e : i = xs.length := by omega
    subst e
    exact .inl ⟨⟨xs, hl _ σ H hi p, Nat.le_refl _⟩, hd σ H p⟩
end GT

/-! ## errors of the program's own: classes over ValueError with an __init__ that calls the base's -/
namespace GT
open PySem PySem.Spec PyProof.Rows L2
/-- what the written part must say of such a class -/
def oexB (K : PySem.W.Frag) (C : Addr) : Bool := match K.lookup C with
  | some ⟨.type "type", _, .cls cd, sl⟩ => (match cd.mro, sl.toList with
    | .ref C' :: bm, [_, _, _, _, some (.builtin n), _] => C' == C && (n == "ValueError.__new__" && (!cd.hasDel && (cd.hasDict && HandSPX.refsVE bm)))
    | _, _ => false)
  | _ => false
theorem oexB_ok {K : PySem.W.Frag} {C : Addr} (q : oexB K C = true) : ∃ nm q N bs bm sn sub ab col dd k0 k1 k2 k3 k5, K.lookup C = some (excClassObj nm q C N bs bm true sn sub ab col dd k0 k1 k2 k3 k5 "ValueError.__new__") ∧ HandSPX.refsVE bm = true := by
  unfold oexB at q
  split at q
  · rename_i dd cd sl ho
    split at q
    · rename_i C' bm k0 k1 k2 k3 n k5 hm hs
      simp only [Bool.and_eq_true, beq_iff_eq, Bool.not_eq_true'] at q
      obtain ⟨rfl, rfl, h1, h2, h3⟩ := q
      obtain ⟨nm, bs, mro, ns, qn, hd, sn, sub, ab, col, del⟩ := cd
      dsimp only at hm h1 h2
      subst hm h1 h2
      have hsl : sl = #[k0, k1, k2, k3, some (.builtin "ValueError.__new__"), k5] := by
        obtain ⟨l⟩ := sl
        simp only at hs
        rw [hs]
      subst hsl
      exact ⟨nm, qn, ns, bs, bm, sn, sub, ab, col, dd, k0, k1, k2, k3, k5, ho, h3⟩
    · cases q
  · cases q
/-- all that is asked of an error's class C: made, its fields written and read, isinstance -/
structure ErrC (K : PySem.W.Frag) (C : Addr) : Prop where
  ox : OexC K C
  xf : XfC K C
  is_ : ExcC K C
def errB (K : PySem.W.Frag) (C : Addr) : Bool :=
  oexB K C && (decide (PySem.W.findIn K (.ref C) "__setattr__" = some (some (.builtin "object.__setattr__"))) && (decide (PySem.W.subIn K (.ref C) (.type "BaseException") = some true) && (decide (PySem.W.typeIn K (.ref C) = some (.type "type")) &&
    (PySem.W.keepIn K (.ref C) && (xfB K C && (decide (PySem.W.findIn K (.ref C) "__class__" = some (some (.builtin "object.__class__"))) && (decide (PySem.W.specialIn K (.builtin "object.__class__") "__get__" = some (some (.builtin "getset_descriptor.__get__"))) &&
      (decide (PySem.W.takesIn K (.builtin "object.__class__") = some true) && decide (PySem.W.mroIn K C (.type "object") = some true)))))))))
theorem errB_ok {K : PySem.W.Frag} {C : Addr} (q : errB K C = true) : ErrC K C := by
  unfold errB at q
  simp only [Bool.and_eq_true, decide_eq_true_eq] at q
  obtain ⟨h1, h2, h3, h4, h5, h6, h7, h8, h9, h10⟩ := q
  have x := xfB_ok h6
  exact ⟨⟨oexB_ok h1, h2, h3, h4, h5⟩, x, ⟨x.ga, x.gg, h3, x.hdC, h7, h8, h9, h10⟩⟩
/-- the class B whose __init__ is ValueError's -/
structure BasC (K : PySem.W.Frag) (B : Addr) : Prop where
  ga : PySem.W.specialIn K (.ref B) "__getattribute__" = some (some (.builtin "type.__getattribute__"))
  ty : PySem.W.typeIn K (.ref B) = some (.type "type")
  rd : PySem.W.readsIn K B (.type "type") = true
  vi : PySem.W.findCls K (.ref B) (.type "type") "__init__" = some (.val (.builtin "ValueError.__init__"))
def isVal (v : Value) : Option PySem.W.CFound → Bool
  | some (.val x) => x == v
  | _ => false
theorem isVal_ok {v : Value} {o : Option PySem.W.CFound} (h : isVal v o = true) : o = some (.val v) := by
  cases o with
  | none => cases h
  | some f =>
    cases f with
    | val x => rw [show x = v from beq_iff_eq.mp h]
    | get g a o t => cases h
def basB (K : PySem.W.Frag) (B : Addr) : Bool :=
  decide (PySem.W.specialIn K (.ref B) "__getattribute__" = some (some (.builtin "type.__getattribute__"))) && (decide (PySem.W.typeIn K (.ref B) = some (.type "type")) && (PySem.W.readsIn K B (.type "type") &&
    isVal (.builtin "ValueError.__init__") (PySem.W.findCls K (.ref B) (.type "type") "__init__")))
theorem basB_ok {K : PySem.W.Frag} {B : Addr} (q : basB K B = true) : BasC K B := by
  unfold basB at q
  simp only [Bool.and_eq_true, decide_eq_true_eq] at q
  exact ⟨q.1, q.2.1, q.2.2.1, isVal_ok q.2.2.2⟩
section
variable {X : Cx} {e : Expr} {es : List Expr} {ta : TA} {x : Str} {B : Addr} {p p1 p2 pos : Pos}
/-- B.__init__(self, ..), B an own class over ValueError without an __init__ -/
theorem pe_binit {pl : Sem Bool} (T : BasC X.K B) (hg : Gl X x) (hm : X.mg x = some (.ref B)) (ha : PA X (e :: es) ta) (hdb : (x == ("__debug__" : Str)) = false := by decide)
    (hc : eval (.Call (.Attribute (.Name x p1) "__init__" p2) (e :: es) [] pos) X.env = (do
      let ov ← eval (.Name x p1) X.env
      standAt p2.atName
      let (f, first) ← holding [ov] (getMethod ov "__init__" pl)
      callWith pos f first (backTo pos (starEach (e :: es) X.env)) (backToKw pos (keywordEach [] X.env))) := by rfl)
    (he : starEach (e :: es) X.env = (false, eval e X.env) :: starEach es X.env := by rfl) (hpl : (backTo pos (starEach es X.env)).any (·.1) = false := by rfl) :
    PE X (.Call (.Attribute (.Name x p1) "__init__" p2) (e :: es) [] pos) (tVeI X.K ta) := by
  refine ⟨fun pins s σ H Q I h => ?_⟩
  refine PySem.W.methodCall_KW (ld_glob I hg hm ?_ hdb) hc
  obtain ⟨m, fr⟩ := I.fr
  refine PySem.W.method_of_cls fr I.ok.mod.kin T.ga ?_
  refine PySem.W.cls_val fr I.ok.mod.kin T.ty T.rd T.vi (by decide +kernel) ?_
  show wpAny _ _ (callWith pos (Value.builtin "ValueError.__init__") [] (backTo pos (starEach (e :: es) X.env)) []) _ _ _
  refine PyProof.Rows.callWith_method1 (thn (ha.run pos pins _ σ H _ (I.tok _) h) fun us s1 ⟨vs, H1, I1, r1, a, C, ws, ev, hl, O, ea, q⟩ => ?_) he hpl
  subst ev
  cases r1 with
  | @cons _ u0 _ ur ra rw' =>
    obtain rfl : u0 = Value.ref a := ra
    exact oinit_ok O I1 ea (by rw [← Paired.length rw', sizeLine_eq]; omega) fun s' J => ⟨.non, H1, J, rfl, q⟩
end
/-! ### making such an error, raising it -/
theorem exm_same {H : Hp} {a dx : Addr} {o1 o2 o3 o4 : HO} (hn : H a = none) (ne : dx ≠ a) : upd (del (upd (upd (upd H a o1) dx o2) a o3) a) dx o4 = upd H dx o4 := by
  funext b
  by_cases h : b = dx
  · rw [h, upd_same, upd_same]
  · rw [upd_ne h, upd_ne h]
    by_cases h2 : b = a
    · rw [h2, del_same, hn]
    · rw [del_ne h2, upd_ne h2, upd_ne h, upd_ne h2]
/-- __init__(self, v) of the class C: v becomes the field f -/
def spErr (C : Addr) (f : Str) (G : V → Prop) : Sp := fun vs H Q _ => ∃ (a : Addr) (v : V), vs = [.ref a, v] ∧ G v ∧ H a = some (exo a C none) ∧
  ∀ dx, H dx = none → dx ≠ a → Q .non (upd (upd H dx (exd dx [(f, v)])) a (exo a C (some dx)))
/-- the class x, at C: its errors bear the field f, of which G holds -/
def Err (P : Program) (w : World) (K : PySem.W.Frag) (mg : Str → Option Value) (base : Heap) (k : Nat) (C : Addr) (x : Str) (f : Str) (G : V → Prop) (y : Str) : Prop :=
  ErrC K C ∧ PySem.W.findIn K (.ref C) f = some none ∧ mg x = some (.ref C) ∧ ∃ (fI : Addr) (fd : FuncData), FnOk P w K mg base CX0 k fI fd ["self", y] (spErr C f G) ∧
    PySem.W.findIn K (.ref C) "__init__" = some (some (.ref fI)) ∧ PySem.W.typeIn K (.ref fI) = some (.type "function") ∧ Binds K fd ["self", y] []
def tMkE (C : Addr) (f : Str) (G : V → Prop) (ta : TA) : L2.St → Hp → XK → Prop := fun σ H Q => ta σ H fun vs H1 => ∃ v, vs = [v] ∧ G v ∧ ∀ d, H1 d = none → Q (.ref C) (some d) (upd H1 d (.xd [(f, v)]))
section
variable {X : Cx} {e : Expr} {es : List Expr} {ta : TA} {x f y : Str} {C : Addr} {p p1 p2 pos pos2 : Pos} {k : Nat} {G : V → Prop}
def tWeak (ta : TA) : TA := fun σ H Q => ∃ R : List V → Hp → Prop, ta σ H R ∧ ∀ vs H1, R vs H1 → Q vs H1
theorem pa_weak {es : List Expr} (ha : PA X es ta) : PA X es (tWeak ta) := ⟨fun pos pins s σ H Q I ⟨R, h, m⟩ => thn (ha.run pos pins s σ H R I h) fun us s1 ⟨vs, H1, I1, r, q⟩ => ⟨vs, H1, I1, r, m vs H1 q⟩⟩
theorem pmk_err (T : Err X.prog X.w X.K X.mg X.base k C x f G y) (hr : Room (k + 1) X.A) (hg : Gl X x) (ha : PA X (e :: es) ta)
    (hdb : (x == ("__debug__" : Str)) = false := by decide) (he : starEach (e :: es) X.env = (false, eval e X.env) :: starEach es X.env := by rfl) (hpl : (backTo pos (starEach es X.env)).any (·.1) = false := by rfl) :
    PMk X (.Call (.Name x p) (e :: es) [] pos) (tMkE C f G ta) := by
  obtain ⟨E, hf, hm, fI, fd, F, hi, hty, hb⟩ := T
  intro pins s σ H Q I h
  refine pmk_oex E.ox hi hty F hr hb .nil pass0 hg hm (pa_weak ha) hdb he hpl pins s σ H Q I ⟨_, h, ?_⟩
  rintro vs H1 ⟨v, rfl, hG, q⟩
  refine ⟨by simp, fun a hn => ⟨a, v, rfl, hG, upd_same, fun dx hd ne => ?_⟩⟩
  have hd1 : H1 dx = none := by rw [upd_ne ne] at hd; exact hd
  refine ⟨rfl, dx, [(f, v)], upd_same, by rw [upd_ne ne, upd_same], hd1, ?_⟩
  rw [exm_same hn ne]
  exact q dx hd1
end
/-! ### isinstance of a caught error that has fields -/
section
open PySem.W PySem.Calls
theorem found_class {K : Frag} {D : Addr} {od : Option Obj} (T : ExcC K D) : findObj K D od "__class__" = some (.bind (.builtin "getset_descriptor.__get__") (.builtin "object.__class__")) := by
  obtain ⟨cd, hc, _⟩ := any_some T.hd
  have c : (clsIn K D).isSome = true := by rw [hc]; rfl
  cases od with
  | none => exact findObj_dataN c T.ha T.hn T.ht
  | some o => exact findObj_data c T.ha T.hn T.ht
theorem attr_class {prog : Program} {w : World} {A : Around} {E : Value → Shared → Prop} {s : Shared} {K : Frag} {x D : Addr} {ox : Obj} {od : Option Obj} {Q : Option Value → Shared → Prop} (T : ExcC K D) (X : K.In s.heap) (I : InstAt s.heap x ox D od)
    (h : Q (some (.ref D)) { s with toks := s.toks + 1 }) : wpAny (model prog w) A (getAttr? (.ref x) "__class__") Q E s := by
  obtain ⟨hp, g, d, t, os⟩ := s
  have L0 := I.type (M := model prog w)
  have L1 := looks_findIn (M := model prog w) X T.hg
  have L2 := looks_findIn (M := model prog w) X T.hk
  have L3 := looks_find (M := model prog w) X I (found_class T)
  have sub : Looks (model prog w) hp (isInstance (.ref x) (.type "BaseException")) true := L0.andThen (looks_subIn X T.hs)
  have n1 : (false && onTheHeap (Value.builtin "BaseException.__getattribute__")) = false := rfl
  have n2 : (onTheHeap (Value.ref D) && Value.builtin "BaseException.__getattribute__" == Value.builtin "object.__getattribute__") = false := by
    rw [show (Value.builtin "BaseException.__getattribute__" == Value.builtin "object.__getattribute__") = false by decide +kernel]; rfl
  unfold getAttr? getAttrBy? getAttrBy
  refine wpAny_bind (wpAny_mkText (wpAny_bind (wpAny_attempt (wpAny_holding (wpAny_bind (L0.at (wpAny_bind (L1.at ?_))))))))
  show wpAny _ _ (if (onTheHeap (Value.ref D) && Value.builtin "BaseException.__getattribute__" == Value.builtin "object.__getattribute__") = true then _ else _) _ _ _
  rw [n2, if_neg Bool.false_ne_true]
  unfold getAttrByItsOwn hookBefore
  refine wpAny_bind ?_
  rw [if_pos (show onTheHeap (Value.ref D) = true from rfl)]
  refine L2.at (wpAny_bind (wpAny_attempt (wpAny_holding ?_)))
  unfold callGetattribute
  rw [n1, if_neg Bool.false_ne_true]
  unfold boundAndCalled
  rw [PySem.F.excAttr_ValueError.ga.bind (.ref x)]
  refine wpAny_bind (wpAny_pure ?_)
  show wpAny _ _ (call (.builtin "BaseException.__getattribute__") [.ref x, .str "__class__" t]) _ _ _
  refine wpAny_call (codeAny_call_builtin PySem.F.excAttr_ValueError.ga.plain PySem.F.entry_bexc_ga ?_)
  refine @check_slot (model prog w) _ _ ⟨hp, g, d, t + 1, os⟩ "BaseException.__getattribute__" "BaseException" "__getattribute__" (.ref x) [.str "__class__" t] [] _ (by decide +kernel) (by decide +kernel) sub (PySem.F.args_bexc_ga (.ref x) (.str "__class__" t)) ?_
  unfold Builtin.«object.__getattribute__»
  refine wpAny_bind (wpAny_of_eq (a := ((Value.ref x : Value), [Value.str "__class__" t])) (by first | rfl | (simp only [slotArgs]; rfl)) ?_)
  refine wpAny_bind (wpAny_pure (wpAny_bind (L0.at (wpAny_bind (L3.at ?_)))))
  show wpAny _ _ (holding [Value.builtin "object.__class__"] (call (.builtin "getset_descriptor.__get__") [.builtin "object.__class__", .ref x, .ref D]) >>= ret) _ _ _
  refine wpAny_bind (wpAny_holding (wpAny_call (class_get (s := ⟨hp, g, d, t + 1, os⟩) (ox := ox) (od := od) X I T.hm (wpAny_pure ?_))))
  show wpAny _ _ (handedOut (.ref D)) _ _ _
  rw [handedOut_of (v := .ref D) rfl]
  first
    | exact wpAny_pure (wpAny_pure h)
    | exact wpAny_pure h
    | exact wpAny_pure (wpAny_bind (wpAny_pure (wpAny_pure h)))
theorem kit_err {K : Frag} {x D : Addr} {ox : Obj} {od : Option Obj} (T : ExcC K D) : KitX K (.ref x) (.ref D) (fun h => InstAt h x ox D od) := by
  obtain ⟨cd, hc, _⟩ := any_some T.hd
  unfold clsIn at hc
  split at hc
  · rename_i c' d' cd' sl' ho
    refine ⟨fun _ _ _ I => I.type, fun _ _ X _ => ?_, fun h tp dd its n sl X htp => ?_, fun X I k => attr_class T X I k⟩
    · intro A' Q' E' s' k q
      unfold isType loadHead
      exact wpAny_bind (wpAny_loadPart (k _ _ (X _ _ ho)) (wpAny_pure q))
    · refine Bool.eq_false_iff.mpr fun q => ?_
      have e : D = tp := Value.ref.inj (beq_iff_eq.mp q)
      subst e
      cases (X _ _ ho).symm.trans htp
  · cases hc
end
/-- isinstance(e, c), e the error that the suite holds -/
def rIsD (K : PySem.W.Frag) (a : Addr) (cls : Value) (d : Option Addr) : List V → Hp → VK → Prop := fun xs H Q => ∃ (D dd : Addr) (fs : List (Str × V)) (c : V) (cv : Value) (b : Bool), xs = [.ref a, c] ∧ cls = .ref D ∧ ExcC K D ∧ d = some dd ∧ H dd = some (.xd fs) ∧
  ClsV c cv ∧ PySem.W.kitOne K (.ref D) cv = some b ∧ Q (.bl b) H
theorem call_isD {X : Cx} {K : PySem.W.Frag} {a : Addr} {oe : Obj} {cls : Value} {d : Option Addr} {pn : List (Addr × Obj)} (eK : X.K = K) (hz : Zc cls d oe) (hf : ∃ vs, oe.data = .fields vs) : CallR (X.suite a ((a, oe) :: pn)) (.builtin "isinstance") (rIsD K a cls d) := by
  subst eK
  intro pins s σ H xs us Q I r h
  obtain ⟨D, dd, fs, c, cv, b, rfl, rfl, T, rfl, hd, hcv, e, q⟩ := h
  obtain ⟨u1, u2, rfl, r1, r2⟩ := vals2 r
  cases (show u1 = Value.ref a from r1)
  have ec := hcv.eq r2
  subst ec
  obtain ⟨hget, _⟩ := I.pin (a, oe) (List.mem_append.mpr (.inl List.mem_cons_self))
  obtain ⟨vs, hv⟩ := hf
  have hx : ObjOk X.prog X.w H s.heap dd (.xd fs) := I.hok dd _ hd
  obtain ⟨mA, hns, hr⟩ := hx
  obtain ⟨od, ho, hl⟩ := lookIn_ns hns
  have J : PySem.W.InstAt s.heap a oe D (some od) := ⟨hget, hz.1, by unfold PySem.W.notCls; rw [hv] <;> rfl, by rw [hz.2]; exact ho⟩
  exact PySem.W.kia_one (kit_err T) I.kIn J e (fun z => nomatch z) fun tk => ⟨.bl b, H, I.tok tk, rfl, q⟩
/-- a field of it -/
def tXfK (K : PySem.W.Frag) (a : Addr) (cls : Value) (d : Option Addr) (f : Str) (te : TE) : TE := fun σ H Q => te σ H fun x H1 => ∃ C : Addr, x = .ref a ∧ cls = .ref C ∧ XfC K C ∧ PySem.W.findIn K (.ref C) f = some none ∧ ∃ (dd : Addr) (fs : List (Str × V)) (v : V), d = some dd ∧ H1 dd = some (.xd fs) ∧ fs.lookup f = some v ∧ Q v H1
theorem pe_xfK {X : Cx} {K : PySem.W.Frag} {a : Addr} {oe : Obj} {cls : Value} {d : Option Addr} {pn : List (Addr × Obj)} {e : Expr} {te : TE} {pos : Pos} {n : Str} (eK : X.K = K) (hz : Zc cls d oe) (hf : ∃ vs, oe.data = .fields vs) (he : PE (X.suite a ((a, oe) :: pn)) e te)
    (hb : attributeBase e n X.env (eval e X.env) = eval e X.env := by rfl) : PE (X.suite a ((a, oe) :: pn)) (.Attribute e n pos) (tXfK K a cls d n te) := by
  subst eK
  refine ⟨fun pins s σ H Q I h => ?_⟩
  refine attr_of hb (thn (he.run pins s σ H _ I h) fun u s1 hh => ?_)
  obtain ⟨x, H1, I1, rx, C, ex, ec, T, hno, dd, fs, v, ed, ea, l, q⟩ := hh
  subst ex
  obtain rfl : u = Value.ref a := rx
  subst ec
  subst ed
  obtain ⟨ha, _⟩ := I1.pin (a, oe) (List.mem_append_left _ List.mem_cons_self)
  obtain ⟨vs, hd⟩ := hf
  have hx : ObjOk X.prog X.w H1 s1.heap dd (.xd fs) := I1.hok dd _ ea
  obtain ⟨mA, hns, hr⟩ := hx
  obtain ⟨od, ho, hl⟩ := lookIn_ns hns
  obtain ⟨u, hu, ru⟩ := RelO.some_of (v := v) (o := mA n) (by rw [← l]; exact hr n)
  have J : PySem.W.InstAt s1.heap a oe C (some od) := ⟨ha, hz.1, by unfold PySem.W.notCls; rw [hd] <;> rfl, by rw [hz.2]; exact ho⟩
  exact HandSPX.exc_get I1.kIn J T.ga T.gg T.exC (PySem.W.findObj_own T.hdC hno rfl (by rw [hl, hu])) (handed_of ru) ⟨v, H1, I1.tok _, ru, q⟩
/-! ### defs that may raise, their calls -/
def CalX (P : Program) (w : World) (K : PySem.W.Frag) (mg : Str → Option Value) (base : Heap) (k : Nat) (x : Str) (ps : List Str) (sp : Sp) : Prop :=
  ∃ (f : Addr) (fd : FuncData), FnOk P w K mg base (L2.CX P w) k f fd ps sp ∧ mg x = some (.ref f) ∧ PySem.W.keepIn K (.ref f) = true ∧ Binds K fd ps []
def MthX (P : Program) (w : World) (K : PySem.W.Frag) (mg : Str → Option Value) (base : Heap) (k : Nat) (C : Addr) (m : Str) (ps : List Str) (sp : Sp) : Prop :=
  ∃ (f : Addr) (fd : FuncData), FnOk P w K mg base (L2.CX P w) k f fd ps sp ∧ Meth K C m f ∧ PySem.W.keepIn K (.ref f) = true ∧ Binds K fd ps []
def tMethT (C : Addr) (m : Str) (sp : Sp) (E : L2.St → XK) (ta : TE) (t : TA) : TE := fun σ H Q => ta σ H fun x H1 => ∃ a dx fs, x = .ref a ∧ H1 a = some (.ins C dx fs) ∧ fs.lookup m = none ∧ t σ H1 fun vs H2 => sp (x :: vs) H2 Q (E σ)
section
variable {X : Cx} {o e : Expr} {es : List Expr} {t : TA} {ta : TE} {x m : Str} {p pos apos : Pos} {ps : List Str} {sp : Sp} {k : Nat} {C : Addr} {W : WX}
theorem pc_callT (F : CalX X.prog X.w X.K X.mg X.base k x ps sp) (tk : Takes X W) (hr : Room k X.A) (hg : Gl X x) (ha : PA X (e :: es) t)
    (hdb : (x == ("__debug__" : Str)) = false := by decide) (he : starEach (e :: es) X.env = (false, eval e X.env) :: starEach es X.env := by rfl) (hpl : (backTo pos (starEach es X.env)).any (·.1) = false := by rfl) :
    PE X (.Call (.Name x p) (e :: es) [] pos) (tCallS sp (WE W) t) := by
  obtain ⟨f, fd, F, hm, hk, hb⟩ := F
  exact pe_callS F hr hg hm hk hb (fun σ => passAt tk σ) ha hdb he hpl
theorem pc_methT {pl : Sem Bool} (he : PE X o ta) (c : Cls X.K C) (M : MthX X.prog X.w X.K X.mg X.base k C m ps sp) (tk : Takes X W) (hr : Room k X.A) (ha : PA X (e :: es) t)
    (hst : starEach (e :: es) X.env = (false, eval e X.env) :: starEach es X.env := by rfl) (hpl : (backTo pos (starEach es X.env)).any (·.1) = false := by rfl)
    (ht : eval (.Call (.Attribute o m apos) (e :: es) [] pos) X.env = (do
      let ov ← eval o X.env
      standAt apos.atName
      let (f, first) ← holding [ov] (getMethod ov m pl)
      callWith pos f first (backTo pos (starEach (e :: es) X.env)) (backToKw pos (keywordEach [] X.env))) := by rfl) :
    PE X (.Call (.Attribute o m apos) (e :: es) [] pos) (tMethT C m sp (WE W) ta t) := by
  obtain ⟨f, fd, F, hm, hk, hb⟩ := M
  refine ⟨fun pins s σ H Q I h => ?_⟩
  refine PySem.W.methodCall_KW (pl := pl) (thn (he.run pins s σ H _ I h) fun u s1 ⟨x, H1, I1, rx, a, dx, fs, ex, ea, l, q⟩ => ?_) ht
  subst ex
  obtain rfl : u = Value.ref a := rx
  refine getmeth_ok I1 ea c hm l ?_
  refine PySem.W.callWith_K (first := [.ref a]) (h₀ := X.base) I.ok.mod.kin hm.kp (thn (ha.run pos pins s1 σ H1 _ I1 q) fun us s2 ⟨vs, H2, I2, r, q2⟩ => ⟨I2.kIn, ?_⟩) hst hpl
  exact run_fnS (us := .ref a :: us) (vs := .ref a :: vs) F hr hb (passAt tk σ) I2 (.cons rfl r) q2
theorem i_CallT {σ : L2.St} {H : Hp} {Q : VK} {E : L2.St → XK} (q : t σ H fun vs H1 => sp vs H1 Q (E σ)) : tCallS sp E t σ H Q := q
theorem i_MethT {σ : L2.St} {H : Hp} {Q : VK} {E : L2.St → XK} (q : ta σ H fun x H1 => ∃ a dx fs, x = .ref a ∧ H1 a = some (.ins C dx fs) ∧ fs.lookup m = none ∧ t σ H1 fun vs H2 => sp (x :: vs) H2 Q (E σ)) : tMethT C m sp E ta t σ H Q := q
theorem i_MkE {σ : L2.St} {H : Hp} {Q : XK} {f : Str} {G : V → Prop} (q : t σ H fun vs H1 => ∃ v, vs = [v] ∧ G v ∧ ∀ d, H1 d = none → Q (.ref C) (some d) (upd H1 d (.xd [(f, v)]))) : tMkE C f G t σ H Q := q
theorem i_Ost {K : PySem.W.Frag} {to te : TE} {f : Str} {D : Ends} {σ : L2.St} {H : Hp} (q : te σ H fun y H1 => to σ H1 fun x H2 => ∃ a C : Addr, x = .ref a ∧ OexC K C ∧ PySem.W.findIn K (.ref C) f = some none ∧
  ((H2 a = some (exo a C none) ∧ ∀ dx, H2 dx = none → dx ≠ a → D.nx σ (upd (upd H2 dx (exd dx [(f, y)])) a (exo a C (some dx)))) ∨
    ∃ (dx : Addr) (fs : List (Str × V)), H2 a = some (exo a C (some dx)) ∧ H2 dx = some (exd dx fs) ∧ fs.length ≤ 900 ∧ D.nx σ (upd H2 dx (exd dx ((f, y) :: fs))))) : tOst K f to te D σ H := q
theorem i_VeI {K : PySem.W.Frag} {σ : L2.St} {H : Hp} {Q : VK} (q : t σ H fun vs H1 => ∃ (a C : Addr) (ws : List V), vs = .ref a :: ws ∧ ws.length ≤ 1000 ∧ OexC K C ∧ H1 a = some (exo a C none) ∧ Q .non H1) : tVeI K t σ H Q := q
end
end GT

/-! ## methods without arguments that may raise -/
namespace GT
open PySem PySem.Spec PyProof.Rows L2
def tMethT0 (C : Addr) (m : Str) (sp : Sp) (E : L2.St → XK) (ta : TE) : TE := fun σ H Q => ta σ H fun x H1 => ∃ a dx fs, x = .ref a ∧ H1 a = some (.ins C dx fs) ∧ fs.lookup m = none ∧ sp [x] H1 Q (E σ)
section
variable {X : Cx} {o : Expr} {ta : TE} {m : Str} {pos apos : Pos} {ps : List Str} {sp : Sp} {k : Nat} {C : Addr} {W : WX}
theorem pc_methT0 {pl : Sem Bool} (he : PE X o ta) (c : Cls X.K C) (M : MthX X.prog X.w X.K X.mg X.base k C m ps sp) (tk : Takes X W) (hr : Room k X.A)
    (ht : eval (.Call (.Attribute o m apos) [] [] pos) X.env = (do
      let ov ← eval o X.env
      standAt apos.atName
      let (f, first) ← holding [ov] (getMethod ov m pl)
      callWith pos f first (backTo pos (starEach [] X.env)) (backToKw pos (keywordEach [] X.env))) := by rfl) :
    PE X (.Call (.Attribute o m apos) [] [] pos) (tMethT0 C m sp (WE W) ta) := by
  obtain ⟨f, fd, F, hm, hk, hb⟩ := M
  refine ⟨fun pins s σ H Q I h => ?_⟩
  refine PySem.W.methodCall_KW (pl := pl) (thn (he.run pins s σ H _ I h) fun u s1 hh => ?_) ht
  obtain ⟨x, H1, I1, rx, a, dx, fs, ex, ea, l, q⟩ := hh
  subst ex
  obtain rfl : u = Value.ref a := rx
  refine getmeth_ok I1 ea c hm l ?_
  refine PySem.W.callWith_K0 (first := [.ref a]) I1.kIn hm.kp ?_
  exact run_fnS (us := [.ref a]) (vs := [.ref a]) F hr hb (passAt tk σ) I1 (.cons rfl .nil) q
theorem i_MethT0 {σ : L2.St} {H : Hp} {Q : VK} {E : L2.St → XK} (q : ta σ H fun x H1 => ∃ a dx fs, x = .ref a ∧ H1 a = some (.ins C dx fs) ∧ fs.lookup m = none ∧ sp [x] H1 Q (E σ)) : tMethT0 C m sp E ta σ H Q := q
/-- a call without arguments -/
theorem pc_call0 {x : Str} {p : Pos} (C : Cal X.prog X.w X.K X.mg X.base k x ps sp) (hr : Room k X.A) (hg : Gl X x) (hdb : (x == ("__debug__" : Str)) = false := by decide) : PE X (.Call (.Name x p) [] [] pos) (tCall sp [] E0 tNil) := by
  obtain ⟨f, fd, F, hm, hk, hb⟩ := C
  exact pe_call0 F hr hg hm hk hb .nil pass0 hdb
/-- slices where X.K is told by an equation -/
theorem sl_listK {K : PySem.W.Frag} (e : X.K = K) : SlR X (rSlL K) := by subst e; exact sl_list
end
/-! ### what may raise, where it is known not to -/
def calm (sp : Sp) : Sp := fun vs H Q _ => sp vs H Q E0
section
variable {P : Program} {w : World} {K : PySem.W.Frag} {mg : Str → Option Value} {base : Heap} {k : Nat} {f C : Addr} {fd : FuncData} {ps : List Str} {sp : Sp} {x m : Str}
theorem fn_calm (F : FnOk P w K mg base (L2.CX P w) k f fd ps sp) : FnOk P w K mg base CX0 k f fd ps (calm sp) := by
  refine ⟨fun vs H Q E h => F.len vs H Q E0 h, fun A outer s H args us vs Q E hr he hb hv hs => codeAny_mono (F.run A outer s H args us vs Q E0 hr he hb hv hs) fun fin s' h => ?_⟩
  match fin, h with
  | .error e, h =>
    obtain ⟨_, _, _, _, _, _, _, _, _, _, _, _, z⟩ := h
    exact z.elim
  | .ok (.ret _), h => exact h
  | .ok .next, h => exact h
  | .ok .brk, h => exact h
  | .ok .cont, h => exact h
theorem CalX.calm (C : CalX P w K mg base k x ps sp) : Cal P w K mg base k x ps (calm sp) := by
  obtain ⟨f, fd, F, h⟩ := C
  exact ⟨f, fd, fn_calm F, h⟩
theorem MthX.calm (M : MthX P w K mg base k C m ps sp) : Mth P w K mg base k C m ps (GT.calm sp) := by
  obtain ⟨f, fd, F, h⟩ := M
  exact ⟨f, fd, fn_calm F, h⟩
end
end GT

/-! ## defs that are called where no repr is under way (repr of lists and tuples asks for that) -/
namespace GT
open PySem PySem.Spec PyProof.Rows L2
/-- as FnOk, where no guard is on the stack -/
structure FnG (P : Program) (w : World) (K : PySem.W.Frag) (mg : Str → Option Value) (base : Heap) (CX : CXT) (k : Nat) (f : Addr) (fd : FuncData) (ps : List Str) (sp : Sp) : Prop where
  len : ∀ vs H Q E, sp vs H Q E → vs.length = ps.length
  run : ∀ (A : Around) (outer : List Env) (s : Shared) (H : Hp) (args : Args) (us : List Value) (vs : List V) (Q : VK) (E : XK), Room k A → A.guards = some [] → Env0 P w K mg base A outer s H → BindsTo s fd args (ps.zip us) → Vals vs us → sp vs H Q E →
    codeAny (model P w) A (.call (.ref f) args) (CR CX outer P w H s Q E) s
section
variable {P : Program} {w : World} {K : PySem.W.Frag} {mg : Str → Option Value} {base : Heap} {x qual : Str} {params : Arguments} {body : List Stmt} {scope : Scope} {dvs : List V} {kws : List (Str × V)} {f : Addr} {fd : FuncData}
/-- how such a def is proved: the body where no guard stands -/
theorem FunD.okG {CX : CXT} {N ps : List Str} {k : Nat} {sp : Sp} (F : FunD K x qual params body scope dvs kws f fd) (S : FnScope N ps scope) (len : ∀ vs H Q E, sp vs H Q E → vs.length = ps.length)
    (hbody : ∀ (cdv : Value) (A : Around) (outer : List Env) (s : Shared) (H : Hp) (vs : List V) (Q : VK) (E : XK), Room k (A.deeper (envOfC qual scope s.heap.objs.size f cdv)) → (cxOf CX P w K mg base N qual scope f cdv A outer s H E).A.guards = some [] → sp vs H Q E →
      ∃ t, PSs (cxOf CX P w K mg base N qual scope f cdv A outer s H E) body t ∧ t { nx := fun _ H' => Q .non H', rt := Q } (start N vs) H) : FnG P w K mg base CX (k + 1) f fd ps sp := by
  obtain ⟨oc, od, dV, kV, doc, pm, an, cdv, ct, osl, rfl, lk, hcd, _, _⟩ := F.ex
  refine ⟨len, fun A outer s H args us vs Q E hr hA e0 hb r hsp => ?_⟩
  have KX : K.In s.heap := e0.mod.kin.keeps fun b o e => (e0.bs b o e).1
  have bound : ∀ y ∈ ps.zip us, scope.names.lookup y.1 = some .local ∨ (scope.names.lookup y.1 = some .cell ∧ ((cellsFrom (s.heap.objs.size + 1) scope.names []).lookup y.1).isSome = true) := fun y hy =>
    (S.par y.1 (List.of_mem_zip (a := y.1) (b := y.2) hy).1).imp id fun q => ⟨q, PySem.W.cellsFrom_some _ _ _ (.inl q)⟩
  refine codeAny_call_function hr.depth (KX _ _ lk) rfl S.co S.gen rfl (PySem.W.codeRec_of KX hcd) (hb _ _ _ _ (wpAny_newFunctionEnv_cells S.kind bound fun env he s1 hx => ?_))
  subst he
  refine ⟨(e0.mod.nolimit.keeps fun b o e => (e0.bs b o e).1).keeps hx.toInCall.keep, codeAny_func ?_⟩
  obtain ⟨t, ht, hq⟩ := hbody cdv A outer s H vs Q E (hr.deeper _) hA hsp
  refine wpAny_mono (ht.run [] s1 (start N vs) H _ (inv_start S hr.hd e0 (len _ _ _ _ hsp) r hx) hq) (fun fl s' hs => ?_) fun _ _ z => z
  match fl, hs with
  | .ret _, ⟨v, _, H', J, rv, q⟩ => exact ⟨v, H', J.os, J.bare, J.base, J.hok, rv, q⟩
  | .next, ⟨_, H', J, q⟩ => exact ⟨.non, H', J.os, J.bare, J.base, J.hok, rfl, q⟩
  | .brk, ⟨_, _, _, q⟩ => exact q.elim
  | .cont, ⟨_, _, _, q⟩ => exact q.elim
end
/-- the name x is such a def, which raises nothing -/
def CalG (P : Program) (w : World) (K : PySem.W.Frag) (mg : Str → Option Value) (base : Heap) (k : Nat) (x : Str) (ps : List Str) (sp : Sp) : Prop :=
  ∃ (f : Addr) (fd : FuncData), FnG P w K mg base CX0 k f fd ps sp ∧ mg x = some (.ref f) ∧ PySem.W.keepIn K (.ref f) = true ∧ Binds K fd ps []
section
variable {X : Cx} {e : Expr} {es : List Expr} {t : TA} {x : Str} {p pos : Pos} {ps : List Str} {sp : Sp} {k : Nat}
theorem pc_callG (C : CalG X.prog X.w X.K X.mg X.base k x ps sp) (hG : X.A.guards = some []) (hr : Room k X.A) (hg : Gl X x) (ha : PA X (e :: es) t)
    (hdb : (x == ("__debug__" : Str)) = false := by decide) (he : starEach (e :: es) X.env = (false, eval e X.env) :: starEach es X.env := by rfl) (hpl : (backTo pos (starEach es X.env)).any (·.1) = false := by rfl) :
    PE X (.Call (.Name x p) (e :: es) [] pos) (tCall sp [] E0 t) := by
  obtain ⟨f, fd, F, hm, hk, hb⟩ := C
  refine ⟨fun pins s σ H Q I h => ?_⟩
  refine wpAny_Call_Name_kw (ld_glob I hg hm ?_ hdb)
  refine PySem.W.callWith_K (h₀ := X.base) I.ok.mod.kin hk (thn (ha.run pos pins s σ H _ I h) fun us s1 ⟨vs, H1, I1, r, q⟩ => ⟨I1.kIn, ?_⟩) he hpl
  have q1 : sp vs H1 Q E0 := by
    have q2 : sp (vs ++ []) H1 Q E0 := q
    rw [List.append_nil] at q2; exact q2
  have hl : us.length = ps.length := by rw [← r.length]; exact F.len _ _ _ _ q1
  have b := hb s1 us I1.kIn (by rw [List.append_nil]; exact hl)
  rw [List.append_nil] at b
  refine wpAny_call (codeAny_mono (F.run X.A X.stack s1 H1 ⟨us, []⟩ us vs Q E0 hr hG I1.env0 b r q1) fun fin s' hq => ?_)
  match fin, hq with
  | .error _, z => exact z.elim
  | .ok (.ret _), z => exact I1.after z
  | .ok .next, z => exact z.elim
  | .ok .brk, z => exact z.elim
  | .ok .cont, z => exact z.elim
end
/-! ### the end: the law is such a def -/
section
/-- the script's list, and nothing else, told of -/
def scriptHp (a : Addr) (o : Obj) (ns : List Int) : Hp := fun b => if b = a then some (.frz o (.lst (ns.map V.int))) else none
theorem law_callG {P : Program} {w : World} {K : PySem.W.Frag} {mg mb : Str → Option Value} {k : Nat} {fa a : Addr} {fd : FuncData} {x : Str} {sp : Sp} {s₁ : Shared} {vs : List Value} {ns : List Int}
    (KX : K.In s₁.heap) (hns : s₁.heap.Ns mainGlobals mg) (hb : s₁.heap.Ns builtinsNs mb) (hbb : ∀ x : Str, x ≠ "__name__" → mb x = bootBuiltins x) (hlim : s₁.heap.NoLimit) (hg : s₁.gens = #[])
    (ha : s₁.heap.get? a = some { cls := .type "list", data := .seq vs.toArray }) (hi : IntsAre vs ns) (hl : ns.length ≤ sizeLine) (hr : Room k callerA)
    (F : ∀ base : Heap, K.In base → base.Ns mainGlobals mg → FnG P w K mg base CX0 k fa fd [x] sp) (hbind : ∀ (s : Shared) (u : Value), BindsTo s fd ⟨[u], []⟩ [(x, u)])
    (hsp : ∀ H : Hp, Only H → SqL K H a (ns.map V.int) → sp [.ref a] H (fun v _ => v = .bl true) fun _ _ _ => False) :
    codeAny (model P w) callerA (.call (.ref fa) ⟨[.ref a], []⟩) (fun r s' => r = .ok (.ret (.bool true)) ∧ OldK s₁.heap s'.heap ∧ s'.os = s₁.os ∧ AllBare s'.gens) s₁ := by
  have lv := hi.length
  -- H: what is told of the heap; it says of a at most
  suffices go : ∃ H : Hp, Only H ∧ SqL K H a (ns.map V.int) ∧ HOk P w H s₁.heap ∧ (∀ b, H b ≠ none → b = a) ∧ (H a ≠ none → K.lookup a = none) by
    obtain ⟨H, hO, hS, hok, hA, hK⟩ := go
    have free : ∀ {b : Addr}, b ≠ a → H b = none := fun {b} n => Classical.byContradiction fun z => n (hA b z)
    have nsB : ∀ {b : Addr} {m : Str → Option Value}, s₁.heap.Ns b m → (hidT s₁.heap H).Ns b m := fun {b m} ⟨o, es, ep, e, d, r⟩ => by
      refine ⟨o, es, ep, hidT_get e (free fun z => ?_), d, r⟩
      rw [z, ha] at e
      cases e
      cases d
    have KB : K.In (hidT s₁.heap H) := fun b o e => hidT_get (KX b o e) (by
      by_cases c : b = a
      · refine Classical.byContradiction fun z => ?_
        rw [c] at z e
        rw [hK z] at e
        cases e
      · exact free c)
    obtain ⟨mc, l1, l2⟩ := hlim
    have e0 : Env0 P w K mg (hidT s₁.heap H) callerA [] s₁ H := ⟨rfl, ⟨KB, nsB hns, ⟨mb, nsB hb, hbb⟩, ⟨mc, nsB l1, l2⟩⟩, fun b o e => of_hidT e, Nat.le_of_eq (hidT_size _ _), trivial, fun b z => absurd (show b ∈ ([] : List Addr) from z) (by simp), hok, .of_eq hg⟩
    refine codeAny_mono ((F _ KB (nsB hns)).run callerA [] s₁ H ⟨[.ref a], []⟩ [.ref a] [.ref a] _ _ hr rfl e0 (hbind s₁ (.ref a)) (.cons rfl .nil) (hsp H hO hS)) fun r s' h => ?_
    match r, h with
    | .error _, z => exact z.elim
    | .ok .next, z => exact z.elim
    | .ok .brk, z => exact z.elim
    | .ok .cont, z => exact z.elim
    | .ok (.ret u), ⟨v, H', os, bare, un, hok', r', q⟩ =>
      have ev : v = .bl true := q
      subst ev
      obtain rfl : u = Value.bool true := r'
      refine ⟨rfl, OldK.of_keep fun b o e => ?_, os, bare⟩
      rcases hO b with n | ⟨ob, xs, n⟩
      · exact un.keep b o e n (by intro z; exact absurd (show b ∈ ([] : List Addr) from z) (by simp)) (by simp)
      · obtain ⟨e1, _⟩ := hok b _ n
        obtain ⟨e2, _⟩ := hok' b _ (un.frzs b ob _ n)
        rw [e] at e1
        cases e1
        exact e2
  have rv := vals_ints hi
  by_cases hk : K.lookup a = none
  · refine ⟨scriptHp a { cls := .type "list", data := .seq vs.toArray } ns, fun b => ?_, .inl (.inr ⟨_, if_pos rfl⟩), fun b u z => ?_, fun b z => ?_, fun _ => hk⟩
    · by_cases c : b = a
      · exact .inr ⟨_, _, if_pos c⟩
      · exact .inl (if_neg c)
    · by_cases c : b = a
      · subst c
        cases (if_pos rfl).symm.trans z
        exact ⟨ha, by rw [List.length_map]; exact hl, vs, _, rv, ha⟩
      · cases (if_neg c).symm.trans z
    · exact Classical.byContradiction fun c => z (if_neg c)
  · obtain ⟨o, e⟩ := Option.ne_none_iff_exists'.mp hk
    cases ha.symm.trans (KX a o e)
    exact ⟨fun _ => none, fun _ => .inl rfl, .inr ⟨_, vs.toArray, _, e, rfl, rfl, rfl, by rw [List.size_toArray, lv]; exact hl, by simpa using rv⟩, fun b u z => (by cases z), fun b z => absurd rfl z, fun z => absurd rfl z⟩
theorem walk_ofG {l : PySem.W.OpenLaw} {n k : Nat} {q : Program} {loose : List Str} {XP : (Str → Option Value) → Heap → Prop} {YP : World → Heap → Prop} {d : DefRec} {x : Str}
    (hn : l.most = some n) (hn2 : n ≤ sizeLine) (hdf : d.params.defaults = []) (hr : Room k callerA)
    (F : ∀ (w : World) (mg : Str → Option Value) (fa : Addr) (h : Heap), YP w h → h.Ns mainGlobals mg → mg d.name = some (.ref fa) →
      ∃ (K : PySem.W.Frag) (fd : FuncData) (sp : Sp), K.In h ∧ (∀ (s : Shared) (u : Value), BindsTo s fd ⟨[u], []⟩ [(x, u)]) ∧
        (∀ (H : Hp) (a : Addr) (ns : List Int), ns.length ≤ n → Only H → SqL K H a (ns.map V.int) → sp [.ref a] H (fun v _ => v = .bl true) fun _ _ _ => False) ∧
        ∀ base : Heap, K.In base → base.Ns mainGlobals mg → FnG l.prog w K mg base CX0 k fa fd [x] sp) : PySem.W.WalkO q loose XP YP l.row.toRowW d [] (fun f vs => PySem.call f vs) := by
  refine Att.attach_call hn hdf fun w s₀ s₁ mg mb fa o pm cd doc a vs ns G Y ho hd hcd hmg hobj hints hlen hg => ?_
  obtain ⟨K, fd, sp, KX, hb, hsp, hF⟩ := F w mg fa _ Y G.T.g hmg
  exact law_callG KX G.T.g G.T.b G.T.builtins G.T.nolimit hg hobj hints (Nat.le_trans hlen hn2) hr hF hb fun H hO hS => hsp H a ns hlen hO hS
end
end GT

/-! ## repr of data -/
namespace GT
open PySem PySem.Spec PyProof.Rows L2
mutual
theorem DtIs.readsX {h : Heap} : ∀ (d : Dt) (v : Value), DtIs h d v → ∃ as, Reads h v d.py as
  | .non, _, r => by cases r; exact ⟨_, .none⟩
  | .bl _, _, r => by cases r; exact ⟨_, .bool _⟩
  | .num _, _, r => by cases r; exact ⟨_, .int _ _⟩
  | .txt _, _, r => by cases r; exact ⟨_, .str _ _⟩
  | .tup ds, _, r => by
    cases r with
    | tup h1 h2 =>
      obtain ⟨o, e, c, n, dd⟩ := h1
      obtain ⟨as, q⟩ := DtAll.readsX ds _ h2
      exact ⟨_, .tuple e c dd q⟩
  | .lst ds, _, r => by
    cases r with
    | lst h1 h2 =>
      obtain ⟨o, e, c, n, dd⟩ := h1
      obtain ⟨as, q⟩ := DtAll.readsX ds _ h2
      exact ⟨_, .list e c dd q⟩
theorem DtAll.readsX {h : Heap} : ∀ (ds : List Dt) (vs : List Value), DtAll h ds vs → ∃ as, ReadsAll h vs (Dt.pys ds) as
  | [], _, r => by cases r; exact ⟨_, .nil⟩
  | d :: ds, _, r => by
    cases r with
    | cons r1 r2 =>
      obtain ⟨as, q1⟩ := DtIs.readsX d _ r1
      obtain ⟨bs, q2⟩ := DtAll.readsX ds _ r2
      exact ⟨_, .cons q1 q2⟩
end
mutual
theorem Dt.noDict : ∀ d : Dt, d.py.hasDict = false
  | .non => by simp [Dt.py, PyData.hasDict]
  | .bl _ => by simp [Dt.py, PyData.hasDict]
  | .num _ => by simp [Dt.py, PyData.hasDict]
  | .txt _ => by simp [Dt.py, PyData.hasDict]
  | .tup ds => by simp only [Dt.py, PyData.hasDict]; exact Dt.noDicts ds
  | .lst ds => by simp only [Dt.py, PyData.hasDict]; exact Dt.noDicts ds
theorem Dt.noDicts : ∀ ds : List Dt, PyData.hasDictAll (Dt.pys ds) = false
  | [] => by simp [Dt.pys, PyData.hasDictAll]
  | d :: ds => by simp only [Dt.pys, PyData.hasDictAll, Dt.noDict d, Dt.noDicts ds, Bool.or_self]
end
/-- what repr tells of data -/
def Dt.shown (d : Dt) : Str := d.py.shown
/-- numbers not too long, and the text not either -/
def Dt.Shows (d : Dt) : Prop := d.py.showable = true ∧ d.shown.length ≤ sizeLine ∧ d.depth ≤ 60
section
variable {X : Cx} {K : PySem.W.Frag}
def rRepr (K : PySem.W.Frag) : List V → Hp → VK → Prop := fun xs H Q => ∃ (x : V) (d : Dt), xs = [x] ∧ DtAt K H x d ∧ d.Shows ∧ Q (.str d.shown) H
theorem call_repr (eK : X.K = K) (hG : X.A.guards = some []) (hu : X.A.units + 64 < cLine) : CallR X (.builtin "repr") (rRepr K) := by
  subst eK
  intro pins s σ H xs us Q I r h
  obtain ⟨x, d, rfl, hd, ⟨hs, hz, hdp⟩, q⟩ := h
  obtain ⟨u, rfl, rx⟩ := vals1 r
  have hx := DtAt.is I d x u hd rx
  obtain ⟨as, rd⟩ := DtIs.readsX d u hx
  have fin : ∀ (h' : Heap) (t : Tok) (tk : Nat), (∀ b o, s.heap.get? b = some o → h'.get? b = some o) → EP X pins σ Q (.str d.shown t) { heap := h', gens := s.gens, drawn := s.drawn, toks := tk, os := s.os } := fun h' t tk k =>
    ⟨.str d.shown, H, I.kept (t' := tk) k, ⟨t, rfl⟩, q⟩
  cases hx with
  | non => exact PySem.P.repr_of_none (fin _ _ _ fun _ _ z => z)
  | bl b => exact PySem.P.repr_of_bool (fin _ _ _ fun _ _ z => z)
  | num i t => exact PySem.P.repr_of_int (by simpa [Dt.py, PyData.showable] using hs) (fin _ _ _ fun _ _ z => z)
  | txt z t => exact PySem.P.repr_of_str (fin _ _ _ fun _ _ z => z) (by simpa [Dt.shown, Dt.py, PyData.shown] using hz)
  | tup h1 h2 => exact repr_of_reads' (h₀ := s.heap) rd hs (fun z => by rw [Dt.noDict] at z; cases z) hG (by rw [Dt.py_depth]; omega) (fun _ _ z => z) (fun h' t tk k => fin h' t tk k) hz
  | lst h1 h2 => exact repr_of_reads' (h₀ := s.heap) rd hs (fun z => by rw [Dt.noDict] at z; cases z) hG (by rw [Dt.py_depth]; omega) (fun _ _ z => z) (fun h' t tk k => fin h' t tk k) hz
end
end GT

/-! ## del xs[a:], a at least 0 -/
namespace GT
open PySem PySem.Spec PyProof.Rows L2
section
variable {prog : Program} {w : World} {A : Around} {E : Value → Shared → Prop} {s : Shared}
theorem bounds_from (a n : Nat) : sliceBounds (some (a : Int)) none none n = (((min a n : Nat) : Int), (n : Int), 1) := by
  simp only [sliceBounds, Option.getD_none]
  have h1 : ¬ ((a : Int) < 0) := by omega
  simp only [h1, if_false, show (1 : Int) > 0 by decide, if_true]
  refine Prod.ext ?_ rfl
  show max (0 : Int) (min (a : Int) (n : Int)) = ((min a n : Nat) : Int)
  omega
theorem zip_keep2 {α : Type} (f : α × Nat → Option α) (a : Nat) : ∀ (l : List α) (i : Nat), (∀ x k, i ≤ k → k < i + l.length → f (x, k) = if a ≤ k then none else some x) → (l.zipIdx i).filterMap f = l.take (a - i)
  | [], i, _ => by simp
  | x :: l, i, hf => by
    rw [List.zipIdx_cons, List.filterMap_cons, hf x i (Nat.le_refl _) (by simp)]
    have ih := zip_keep2 f a l (i + 1) fun y k h1 h2 => hf y k (by omega) (by simp only [List.length_cons]; omega)
    by_cases c : a ≤ i
    · rw [if_pos c, ih, show a - (i + 1) = 0 by omega, show a - i = 0 by omega]; rfl
    · rw [if_neg c, ih, show a - i = (a - (i + 1)) + 1 by omega]; rfl
set_option maxRecDepth 100000 in
theorem delItem_from {l sl : Addr} {items : Array Value} {n a : Nat} {vl : Value} {Q : Unit → Shared → Prop} (e : s.heap.get? l = some { cls := .type "list", data := .seq items n })
    (hs : s.heap.IsSliceOf sl vl .none .none) (pl : IsPart vl (some (a : Int))) (hsz : items.size ≤ sizeLine)
    (h : ∀ f : Array Value → Array Value, f items = (items.toList.take a).toArray → Q () { s with heap := s.heap.update l (Obj.mapSeq f) }) : wpAny (model prog w) A (delItem (.ref l) (.ref sl)) Q E s := by
  have hl : s.heap.IsList l items := PySem.IsL.isList e
  obtain ⟨os, hos, hcs, hds⟩ := id hs
  have hTs : s.TypeIs (.ref sl) "slice" := ⟨os, hos, hcs⟩
  refine wpAny_delItem_slot hl.typeIs (by decide) F.slot_list_delitem (wpAny_call_entry F.slot_list_delitem hl.typeIs F.entry_list_delitem ?_ (F.args_list_delitem_2 _ _))
  show wpAny _ _ (Builtin.List.listSubscript? (.ref sl) >>= _) _ _ s
  refine wpAny_bind ?_
  unfold Builtin.List.listSubscript?
  refine wpAny_bind (wpAny_specialOf hTs slice_no_index ?_)
  simp only [Option.isNone_none, if_true]
  refine wpAny_pure ?_
  show wpAny _ _ (typeOf (.ref sl) >>= _) _ _ s
  refine wpAny_bind (wpAny_typeOf hTs ?_)
  rw [if_neg (by decide), listSliceParts_eq]
  refine wpAny_bind (wpAny_bind (wpAny_field hos hds (x := .none) rfl (wpAny_bind (wpAny_listPart .none ?_))))
  rw [if_neg (show ¬ ((rawPart none == rawInt 0) = true) from Bool.false_ne_true)]
  refine wpAny_bind (wpAny_field hos hds (x := vl) rfl (wpAny_bind (wpAny_listPart pl ?_)))
  refine wpAny_bind (wpAny_field hos hds (x := .none) rfl (wpAny_bind (wpAny_listPart .none (wpAny_pure ?_))))
  unfold Builtin.List.listItems
  refine wpAny_bind (wpAny_bind (wpAny_seqItems e rfl (wpAny_pure ?_)))
  refine wpAny_bind (wpAny_of_eq ((sliceIndices_raw (some (a : Int)) none none items.size (by simp)).trans (congrArg (pure : Int × Int × Int → Sem (Int × Int × Int)) (bounds_from a items.size))) ?_)
  refine wpAny_bind (wpAny_rule ?_)
  have key : ∀ f : Array Value → Array Value, (∃ g : Value × Nat → Option Value, (∀ x k, g (x, k) = if (if (1 : Int) > 0 then decide (((min a items.size : Nat) : Int) ≤ (k : Int)) && decide ((k : Int) < (items.size : Int)) && (((k : Int) - ((min a items.size : Nat) : Int)) % 1 == 0) else decide ((items.size : Int) < (k : Int)) && decide ((k : Int) ≤ ((min a items.size : Nat) : Int)) && ((((min a items.size : Nat) : Int) - (k : Int)) % (-1) == 0)) = true then none else some x) ∧ ∀ xs, f xs = (xs.toList.zipIdx.filterMap g).toArray) → f items = (items.toList.take a).toArray := by
    rintro f ⟨g, hg, hf⟩
    rw [hf]
    have hk : ∀ x k, k < items.size → g (x, k) = if min a items.size ≤ k then none else some x := fun x k hk => by
      rw [hg, if_pos (show (1 : Int) > 0 by decide), Int.emod_one]
      by_cases c : min a items.size ≤ k
      · rw [if_pos c, if_pos]
        simp only [Bool.and_eq_true, decide_eq_true_eq, beq_self_eq_true, and_true]
        omega
      · rw [if_neg c, if_neg]
        simp only [Bool.and_eq_true, decide_eq_true_eq, beq_self_eq_true, and_true]
        omega
    rw [zip_keep2 g (min a items.size) items.toList 0 (fun x k h1 h2 => hk x k (by simpa using h2))]
    congr 1
    rw [Nat.sub_zero]
    by_cases c : a ≤ items.size
    · rw [Nat.min_eq_left c]
    · rw [Nat.min_eq_right (by omega), List.take_of_length_le (by simp), List.take_of_length_le (by simp; omega)]
  refine wpAny_bind (wpAny_updateSeq (hz := hsz) (_hz' := ?z) e rfl (wpAny_bind (wpAny_letGo (wpAny_pure ⟨.none, rfl, h _ (key _ ⟨_, fun x k => rfl, fun xs => rfl⟩)⟩))))
  refine Nat.le_trans ?_ (Nat.le_succ_of_le hsz)
  rw [List.size_toArray]
  refine Nat.le_trans (List.length_filterMap_le _ _) ?_
  simp
end
section
variable {X : Cx}
def tDelF (to te : TE) : TS := fun D σ H => to σ H fun x H1 => te σ H1 fun y H2 => ∃ (l : Addr) (xs : List V) (a : Nat), x = .ref l ∧ y = .int (a : Nat) ∧ H2 l = some (.lst xs) ∧ D.nx σ (upd H2 l (.lst (xs.take a)))
theorem ps_delF {o e : Expr} {to te : TE} {tpos pos p2 : Pos} (ho : PE X o to) (he : PE X e te) : PS X (.Delete [.Subscript o (.Slice (some e) none none p2) tpos] pos) (tDelF to te) := by
  refine ⟨fun pins s σ H D I h => ?_⟩
  refine wpAny_Delete (wpAny_deleteEach_cons (wpAny_delete_Subscript (thn (ho.run pins s σ H _ I h) fun u s1 ⟨x, H1, I1, rx, q1⟩ => wpAny_Slice ?_)))
  rw [evalPart_some]
  refine thn (he.run pins s1 σ H1 _ I1 q1) fun vl s2 ⟨y, H2, I2, ry, l, xs, a, ex, ey, hH, q⟩ => ?_
  subst ex
  subst ey
  cases (show u = Value.ref l from rx)
  obtain ⟨t, rfl⟩ := (show ∃ t, vl = Value.int (a : Nat) t from ry)
  rw [evalPart_none]
  refine wpAny_pure ?_
  refine wpAny_pure ?_
  have I4 : Inv X pins σ H2 { s2 with heap := s2.heap.push { cls := .type "slice", data := .fields #[.int (a : Nat) t, .none, .none] } } := I2.kept (t' := s2.toks) fun b ob q => Heap.get?_push_of_some _ q
  obtain ⟨z, its, n, r, hl, e⟩ := I4.lstM hH
  refine delItem_from e (Heap.IsSliceOf.new ..) (.int _ _) (by rw [List.size_toArray]; omega) fun f hf => ?_
  refine wpAny_deleteEach_nil ⟨σ, _, ?_, q⟩
  refine I4.lset (its' := its.take a) (t' := s2.toks) hH e hf (r.take _) ?_
  rw [List.length_take]
  omega
end
end GT

/-! ## the head's look, with the table of the interpreter's statics -/
namespace GT
open PySem PySem.Spec PyProof.Rows L2 He
def asS (g : Addr → Option Obj) (n : Nat) : List Addr := He.asD g n ++ [cStatics]
def obsS (n : Nat) (fa : List Fa) (fn : List DefD) (ts : List He.Tab) (tf : List Defn) (ex : PySem.W.Frag → Bool) (g : Addr → Option Obj) : AlX := (obsT fa fn ts (frT g (asS g n)), ex (frT g (asS g n)) && tabsB g tf (frT g (asS g n)))
theorem saysS_of {n : Nat} {fa : List Fa} {fn : List DefD} {ts : List He.Tab} {tf : List Defn} {ex : PySem.W.Frag → Bool} {w : World} {h : Heap} (e : obsS n fa fn ts tf ex h.get? = valX fn ts w) : SaysX fa fn ts tf ex w h (frT h.get? (asS h.get? n)) := by
  have e1 : obsT fa fn ts (frT h.get? (asS h.get? n)) = valT fn ts w := congrArg Prod.fst e
  have e2 : (ex (frT h.get? (asS h.get? n)) && tabsB h.get? tf (frT h.get? (asS h.get? n))) = true := congrArg Prod.snd e
  generalize hK : frT h.get? (asS h.get? n) = K at e1 e2 ⊢
  obtain ⟨h1, h2⟩ := ba e2
  have tab : ∀ p ∈ tf, PySem.W.codeHdIn K (cT K p).1 (cT K p).2 = true ∧ ∃ o, h.get? (cT K p).2 = some o ∧ emptyTab o = true := fun p hp => by
    obtain ⟨h3, h4⟩ := ba (List.all_eq_true.mp h2 p hp)
    refine ⟨h3, ?_⟩
    cases q : h.get? (cT K p).2 with
    | some o => rw [q] at h4; exact ⟨o, rfl, h4⟩
    | none => rw [q] at h4; cases h4
  refine ⟨e1, h1, fun p hp => (tab p hp).1, fun p hp => ?_, fun p hp => ?_⟩
  · obtain ⟨_, o, q, z⟩ := tab p hp
    have := frT_none (as := asS h.get? n) q z
    rw [hK] at this
    exact this
  · obtain ⟨_, o, q, z⟩ := tab p hp
    rw [q, emptyTab_eq z]
def hookS (n : Nat) (fa : List Fa) (fn : List DefD) (ts : List He.Tab) (tf : List Defn) (ex : PySem.W.Frag → Bool) : PySem.W.Hook where
  α := AlX
  obs := fun s => obsS n fa fn ts tf ex s.heap.get?
  val := fun w => valX fn ts w
  says := fun w h => ∃ K : PySem.W.Frag, K.In h ∧ SaysX fa fn ts tf ex w h K
  of := fun _ _ e => ⟨_, frT_in, saysS_of e⟩
  keeps := fun _ _ _ ⟨K, hK, c⟩ k => ⟨K, PySem.W.Frag.In.keeps hK k, ⟨c.t, c.more, c.hd, c.out, fun p hp => k _ _ (c.empty p hp)⟩⟩
theorem obsS_eq {n : Nat} {fa : List Fa} {fn : List DefD} {ts : List He.Tab} {tf : List Defn} {ex : PySem.W.Frag → Bool} {g : Addr → Option Obj} {s : Shared} (h : ∀ a, g a = s.heap.get? a) : obsS n fa fn ts tf ex g = (hookS n fa fn ts tf ex).obs s := by
  have e : g = s.heap.get? := funext h
  rw [e] <;> rfl
end GT

/-! ## errors whose text shows a tuple: made where no guard stands -/
namespace GT
open PySem PySem.Spec PyProof.Rows L2
theorem make_guards {A : Around} {C : Addr} {us : List Value} {kw : List (Str × Value)} : (A.under (.builtin "type.__call__" ⟨.ref C :: us, kw⟩)).guards = A.guards := by
  first | rfl | simp [Around.under, Code.guards, Code.isGuard, pushGuards, guardIds]
/-- an f-string's part: data -/
def tFmtD (K : PySem.W.Frag) (te : TE) : TE := fun σ H Q => te σ H fun x H1 => ∃ (a : Addr) (d : Dt), x = .ref a ∧ DtAt K H1 x d ∧ d.Shows ∧ Q (.str d.shown) H1
section
variable {X : Cx} {e : Expr} {es : List Expr} {te : TE} {ta : TA} {x f y : Str} {C : Addr} {p pos apos : Pos} {k : Nat} {G : V → Prop} {o : Expr} {to : TE} {m : Str} {ps : List Str} {sp : Sp} {W : WX}
theorem pe_fmtD {K : PySem.W.Frag} (eK : X.K = K) (hG : X.A.guards = some []) (hu : X.A.units + 64 < cLine) (he : PE X e te) : PE X (.FormattedValue e (-1) none pos) (tFmtD K te) := by
  subst eK
  refine ⟨fun pins s σ H Q I h => ?_⟩
  refine wpAny_FormattedValue_plain (thn (he.run pins s σ H _ I h) fun v s1 hv => ?_)
  obtain ⟨x, H1, I1, r1, a, d, rfl, hd, ⟨hs, hz, hdp⟩, q⟩ := hv
  obtain rfl : v = Value.ref a := r1
  have hx := DtAt.is I1 d _ _ hd rfl
  obtain ⟨as, rd⟩ := DtIs.readsX d _ hx
  exact formatField_of_reads (h₀ := s1.heap) rd hs (fun z => by rw [Dt.noDict] at z; cases z) hG (by rw [Dt.py_depth]; omega) (fun _ _ z => z) (fun h' t tk kp => ⟨.str d.shown, H1, I1.kept (t' := tk) kp, ⟨t, rfl⟩, q⟩) hz
/-- the class x, at C, whose __init__ needs no guard above -/
def ErrG (P : Program) (w : World) (K : PySem.W.Frag) (mg : Str → Option Value) (base : Heap) (k : Nat) (C : Addr) (x : Str) (f : Str) (H : Hp → V → Prop) (y : Str) : Prop :=
  ErrC K C ∧ PySem.W.findIn K (.ref C) f = some none ∧ mg x = some (.ref C) ∧ ∃ (fI : Addr) (fd : FuncData), FnG P w K mg base CX0 k fI fd ["self", y]
      (fun vs H1 Q _ => ∃ (a : Addr) (v : V), vs = [.ref a, v] ∧ H H1 v ∧ H1 a = some (exo a C none) ∧ ∀ dx, H1 dx = none → dx ≠ a → Q .non (upd (upd H1 dx (exd dx [(f, v)])) a (exo a C (some dx)))) ∧
    PySem.W.findIn K (.ref C) "__init__" = some (some (.ref fI)) ∧ PySem.W.typeIn K (.ref fI) = some (.type "function") ∧ Binds K fd ["self", y] []
def tMkG (C : Addr) (f : Str) (G : Hp → V → Prop) (ta : TA) : L2.St → Hp → XK → Prop := fun σ H Q => ta σ H fun vs H1 => ∃ v, vs = [v] ∧ (∀ H2, Stp [] H1 H2 → G H2 v) ∧ ∀ d, H1 d = none → Q (.ref C) (some d) (upd H1 d (.xd [(f, v)]))
theorem pmk_errG {G : Hp → V → Prop} (T : ErrG X.prog X.w X.K X.mg X.base k C x f G y) (hG : X.A.guards = some []) (hr : Room (k + 1) X.A) (hg : Gl X x) (ha : PA X (e :: es) ta)
    (hdb : (x == ("__debug__" : Str)) = false := by decide) (he : starEach (e :: es) X.env = (false, eval e X.env) :: starEach es X.env := by rfl) (hpl : (backTo pos (starEach es X.env)).any (·.1) = false := by rfl) :
    PMk X (.Call (.Name x p) (e :: es) [] pos) (tMkG C f G ta) := by
  obtain ⟨E, hf, hm, fI, fd, F1, iC, tI, hb⟩ := T
  intro pins s σ H Q I h
  obtain ⟨nm, q, N, bs, bm, sn, sub, ab, col, dd, k0, k1, k2, k3, k5, hC, hbm⟩ := E.ox.cls
  refine wpAny_Call_Name_kw (ld_glob I hg hm ?_ hdb)
  refine PySem.W.callWith_K (h₀ := X.base) I.ok.mod.kin E.ox.kC (thn (ha.run pos pins s σ H _ I h) fun us s1 ⟨vs, H1, I1, r1, v, ev, hGv, q1⟩ => ⟨I1.kIn, ?_⟩) he hpl
  subst ev
  obtain ⟨u, rfl, ru⟩ := vals1 r1
  show wpAny _ _ (call (.ref C) [u]) _ _ _
  obtain ⟨hp, g, dr, tk, os⟩ := s1
  -- the new exception stands behind its arguments' tuple
  have hsz : hp.objs.size ≤ hp.objs.size + 1 := Nat.le_succ _
  have hn : H1 (hp.objs.size + 1) = none := I1.hok.fresh hsz
  have kk : ∀ b o, hp.get? b = some o → ((hp.push (PySem.W.kdv_tup [u])).push (PySem.HandSPX.excO C hp.objs.size)).get? b = some o := fun b o e => Heap.get?_push_of_some _ (Heap.get?_push_of_some _ e)
  have hget : ((hp.push (PySem.W.kdv_tup [u])).push (PySem.HandSPX.excO C hp.objs.size)).get? (hp.objs.size + 1) = some (PySem.HandSPX.excO C hp.objs.size) := by heap_get
  have I2 : Inv X pins σ (upd H1 (hp.objs.size + 1) (exo (hp.objs.size + 1) C none)) ⟨(hp.push (PySem.W.kdv_tup [u])).push (PySem.HandSPX.excO C hp.objs.size), g, dr, tk, os⟩ :=
    I1.laid (t' := tk) (a := hp.objs.size + 1) (o := exo (hp.objs.size + 1) C none) (h' := (hp.push (PySem.W.kdv_tup [u])).push (PySem.HandSPX.excO C hp.objs.size)) kk hsz (exo_ok hget)
  have r2 : Vals [V.ref (hp.objs.size + 1), v] [Value.ref (hp.objs.size + 1), u] := .cons rfl (.cons ru .nil)
  refine wpAny_call (PySem.HandSPX.call_own F.excBase_ValueError (fun Y => PySem.HandSPX.refsVE_contains Y bm hbm) (I1.kIn _ _ hC) (PySem.W.looks_findIn I1.kIn iC) (fun self => PySem.W.bind_fn I1.kIn self tI) (by rw [sizeLine_eq]; simp)
    (codeAny_mono (F1.run _ X.stack _ _ ⟨Value.ref (hp.objs.size + 1) :: [u], []⟩ [Value.ref (hp.objs.size + 1), u] _
      (fun v' H2 => v' = .non ∧ ∃ (d : Addr) (fs : List (Str × V)), H2 (hp.objs.size + 1) = some (exo (hp.objs.size + 1) C (some d)) ∧ H2 d = some (exd d fs) ∧ H1 d = none ∧ Q (.ref C) (some d) (upd (del H2 (hp.objs.size + 1)) d (.xd fs))) (fun _ _ _ => False)
      (hr.make C [u] []) (by rw [make_guards]; exact hG) (I2.env0.make C [u] []) (by have z := hb _ (Value.ref (hp.objs.size + 1) :: [u]) I2.kIn rfl; simpa using z) r2
      ⟨hp.objs.size + 1, v, rfl, hGv _ (.new hn), upd_same, fun dx hd ne => ?_⟩) fun r s' hq' => ?_))
  · have hd1 : H1 dx = none := by rw [upd_ne ne] at hd; exact hd
    refine ⟨rfl, dx, [(f, v)], upd_same, by rw [upd_ne ne, upd_same], hd1, ?_⟩
    rw [exm_same hn ne]
    exact q1 dx hd1
  · match r, hq' with
    | .error er, z => exact z.elim
    | .ok .next, z => exact z.elim
    | .ok .brk, z => exact z.elim
    | .ok .cont, z => exact z.elim
    | .ok (.ret u'), ⟨v', H2, os2, bare2, un2, hok2, rv, ev, d, fs, ea, ed, hd1, q2⟩ =>
      subst ev
      obtain ⟨h2, g2, d2, t2, os'⟩ := s'
      exact ⟨rv, mk_end (raises_own E.ox.exC E.ox.tyC) I1 hsz kk un2 hok2 os2 bare2 ea ed hd1 q2⟩
end
/-! ### defs that may raise, where no guard stands; their calls -/
def CalXG (P : Program) (w : World) (K : PySem.W.Frag) (mg : Str → Option Value) (base : Heap) (k : Nat) (x : Str) (ps : List Str) (sp : Sp) : Prop :=
  ∃ (f : Addr) (fd : FuncData), FnG P w K mg base (L2.CX P w) k f fd ps sp ∧ mg x = some (.ref f) ∧ PySem.W.keepIn K (.ref f) = true ∧ Binds K fd ps []
def MthXG (P : Program) (w : World) (K : PySem.W.Frag) (mg : Str → Option Value) (base : Heap) (k : Nat) (C : Addr) (m : Str) (ps : List Str) (sp : Sp) : Prop :=
  ∃ (f : Addr) (fd : FuncData), FnG P w K mg base (L2.CX P w) k f fd ps sp ∧ Meth K C m f ∧ PySem.W.keepIn K (.ref f) = true ∧ Binds K fd ps []
section
variable {X : Cx} {o e : Expr} {es : List Expr} {t : TA} {ta : TE} {x m : Str} {p pos apos : Pos} {ps : List Str} {sp : Sp} {k : Nat} {C f : Addr} {fd : FuncData} {W : WX} {E : L2.St → XK}
theorem run_fnG {CX : CXT} {pins : List (Addr × Obj)} {σ : L2.St} {H : Hp} {s : Shared} {Q : VK} {us : List Value} {vs : List V} (F : FnG X.prog X.w X.K X.mg X.base CX k f fd ps sp) (hG : X.A.guards = some []) (hr : Room k X.A) (hb : Binds X.K fd ps []) (hx : PassesAt CX X σ (E σ))
    (I : Inv X pins σ H s) (r : Vals vs us) (h : sp vs H Q (E σ)) : wpAny (model X.prog X.w) X.A (call (.ref f) us) (EP X pins σ Q) X.xe s := by
  have hl : us.length = ps.length := by rw [← r.length]; exact F.len _ _ _ _ h
  have b := hb s us I.kIn (by rw [List.append_nil]; exact hl)
  rw [List.append_nil] at b
  refine wpAny_call (codeAny_mono (F.run X.A X.stack s H ⟨us, []⟩ us vs Q (E σ) hr hG I.env0 b r h) fun fin s' hq => ?_)
  match fin, hq with
  | .error e, z => exact hx pins H s e s' I z
  | .ok (.ret _), z => exact I.after z
  | .ok .next, z => exact z.elim
  | .ok .brk, z => exact z.elim
  | .ok .cont, z => exact z.elim
theorem pc_callTG (F : CalXG X.prog X.w X.K X.mg X.base k x ps sp) (tk : Takes X W) (hG : X.A.guards = some []) (hr : Room k X.A) (hg : Gl X x) (ha : PA X (e :: es) t)
    (hdb : (x == ("__debug__" : Str)) = false := by decide) (he : starEach (e :: es) X.env = (false, eval e X.env) :: starEach es X.env := by rfl) (hpl : (backTo pos (starEach es X.env)).any (·.1) = false := by rfl) :
    PE X (.Call (.Name x p) (e :: es) [] pos) (tCallS sp (WE W) t) := by
  obtain ⟨f, fd, F, hm, hk, hb⟩ := F
  refine ⟨fun pins s σ H Q I h => ?_⟩
  refine wpAny_Call_Name_kw (ld_glob I hg hm ?_ hdb)
  refine PySem.W.callWith_K (h₀ := X.base) I.ok.mod.kin hk (thn (ha.run pos pins s σ H _ I h) fun us s1 ⟨vs, H1, I1, r, q⟩ => ⟨I1.kIn, ?_⟩) he hpl
  exact run_fnG F hG hr hb (passAt tk σ) I1 r q
theorem pc_methTG {pl : Sem Bool} (he : PE X o ta) (c : Cls X.K C) (M : MthXG X.prog X.w X.K X.mg X.base k C m ps sp) (tk : Takes X W) (hG : X.A.guards = some []) (hr : Room k X.A) (ha : PA X (e :: es) t)
    (hst : starEach (e :: es) X.env = (false, eval e X.env) :: starEach es X.env := by rfl) (hpl : (backTo pos (starEach es X.env)).any (·.1) = false := by rfl)
    (ht : eval (.Call (.Attribute o m apos) (e :: es) [] pos) X.env = (do
      let ov ← eval o X.env
      standAt apos.atName
      let (f, first) ← holding [ov] (getMethod ov m pl)
      callWith pos f first (backTo pos (starEach (e :: es) X.env)) (backToKw pos (keywordEach [] X.env))) := by rfl) :
    PE X (.Call (.Attribute o m apos) (e :: es) [] pos) (tMethT C m sp (WE W) ta t) := by
  obtain ⟨f, fd, F, hm, hk, hb⟩ := M
  refine ⟨fun pins s σ H Q I h => ?_⟩
  refine PySem.W.methodCall_KW (pl := pl) (thn (he.run pins s σ H _ I h) fun u s1 ⟨x, H1, I1, rx, a, dx, fs, ex, ea, l, q⟩ => ?_) ht
  subst ex
  obtain rfl : u = Value.ref a := rx
  refine getmeth_ok I1 ea c hm l ?_
  refine PySem.W.callWith_K (first := [.ref a]) (h₀ := X.base) I.ok.mod.kin hm.kp (thn (ha.run pos pins s1 σ H1 _ I1 q) fun us s2 ⟨vs, H2, I2, r, q2⟩ => ⟨I2.kIn, ?_⟩) hst hpl
  exact run_fnG (us := .ref a :: us) (vs := .ref a :: vs) F hG hr hb (passAt tk σ) I2 (.cons rfl r) q2
theorem i_MkG {σ : L2.St} {H : Hp} {Q : XK} {f : Str} {G : Hp → V → Prop} (q : t σ H fun vs H1 => ∃ v, vs = [v] ∧ (∀ H2, Stp [] H1 H2 → G H2 v) ∧ ∀ d, H1 d = none → Q (.ref C) (some d) (upd H1 d (.xd [(f, v)]))) : tMkG C f G t σ H Q := q
end
end GT

/-! ## methods where no guard stands; list.remove of data -/
namespace GT
open PySem PySem.Spec PyProof.Rows L2
def MthG (P : Program) (w : World) (K : PySem.W.Frag) (mg : Str → Option Value) (base : Heap) (k : Nat) (C : Addr) (m : Str) (ps : List Str) (sp : Sp) : Prop :=
  ∃ (f : Addr) (fd : FuncData), FnG P w K mg base CX0 k f fd ps sp ∧ Meth K C m f ∧ PySem.W.keepIn K (.ref f) = true ∧ Binds K fd ps []
section
variable {X : Cx} {o e : Expr} {es : List Expr} {t : TA} {ta : TE} {x m : Str} {p pos apos : Pos} {ps : List Str} {sp : Sp} {k : Nat} {C : Addr}
theorem pc_methG {pl : Sem Bool} (he : PE X o ta) (c : Cls X.K C) (M : MthG X.prog X.w X.K X.mg X.base k C m ps sp) (hG : X.A.guards = some []) (hr : Room k X.A) (ha : PA X (e :: es) t)
    (hst : starEach (e :: es) X.env = (false, eval e X.env) :: starEach es X.env := by rfl) (hpl : (backTo pos (starEach es X.env)).any (·.1) = false := by rfl)
    (ht : eval (.Call (.Attribute o m apos) (e :: es) [] pos) X.env = (do
      let ov ← eval o X.env
      standAt apos.atName
      let (f, first) ← holding [ov] (getMethod ov m pl)
      callWith pos f first (backTo pos (starEach (e :: es) X.env)) (backToKw pos (keywordEach [] X.env))) := by rfl) :
    PE X (.Call (.Attribute o m apos) (e :: es) [] pos) (tMeth C m sp [] E0 ta t) := by
  obtain ⟨f, fd, F, hm, hk, hb⟩ := M
  refine ⟨fun pins s σ H Q I h => ?_⟩
  refine PySem.W.methodCall_KW (pl := pl) (thn (he.run pins s σ H _ I h) fun u s1 ⟨x, H1, I1, rx, a, dx, fs, ex, ea, l, q⟩ => ?_) ht
  subst ex
  obtain rfl : u = Value.ref a := rx
  refine getmeth_ok I1 ea c hm l ?_
  refine PySem.W.callWith_K (first := [.ref a]) (h₀ := X.base) I.ok.mod.kin hm.kp (thn (ha.run pos pins s1 σ H1 _ I1 q) fun us s2 ⟨vs, H2, I2, r, q2⟩ => ⟨I2.kIn, ?_⟩) hst hpl
  have q3 : sp (.ref a :: vs) H2 Q E0 := by
    have z : sp (.ref a :: (vs ++ [])) H2 Q E0 := q2
    rwa [List.append_nil] at z
  exact run_fnG (CX := CX0) (E := fun _ => E0) (us := .ref a :: us) (vs := .ref a :: vs) F hG hr hb (fun _ _ _ _ _ _ h => h.elim) I2 (.cons rfl r) q3
theorem pc_meth0G {pl : Sem Bool} (he : PE X o ta) (c : Cls X.K C) (M : MthG X.prog X.w X.K X.mg X.base k C m ps sp) (hG : X.A.guards = some []) (hr : Room k X.A)
    (ht : eval (.Call (.Attribute o m apos) [] [] pos) X.env = (do
      let ov ← eval o X.env
      standAt apos.atName
      let (f, first) ← holding [ov] (getMethod ov m pl)
      callWith pos f first (backTo pos (starEach [] X.env)) (backToKw pos (keywordEach [] X.env))) := by rfl) :
    PE X (.Call (.Attribute o m apos) [] [] pos) (tMeth C m sp [] E0 ta tNil) := by
  obtain ⟨f, fd, F, hm, hk, hb⟩ := M
  refine ⟨fun pins s σ H Q I h => ?_⟩
  refine PySem.W.methodCall_KW (pl := pl) (thn (he.run pins s σ H _ I h) fun u s1 hh => ?_) ht
  obtain ⟨x, H1, I1, rx, a, dx, fs, ex, ea, l, q⟩ := hh
  subst ex
  obtain rfl : u = Value.ref a := rx
  refine getmeth_ok I1 ea c hm l ?_
  refine PySem.W.callWith_K0 (first := [.ref a]) I1.kIn hm.kp ?_
  exact run_fnG (CX := CX0) (E := fun _ => E0) (us := [.ref a]) (vs := [.ref a]) F hG hr hb (fun _ _ _ _ _ _ h => h.elim) I1 (.cons rfl .nil) q
end
section
variable {P : Program} {w : World} {K : PySem.W.Frag} {mg : Str → Option Value} {base : Heap} {k : Nat} {f C : Addr} {fd : FuncData} {ps : List Str} {sp : Sp} {x m : Str}
theorem fnG_calm (F : FnG P w K mg base (L2.CX P w) k f fd ps sp) : FnG P w K mg base CX0 k f fd ps (calm sp) := by
  refine ⟨fun vs H Q E h => F.len vs H Q E0 h, fun A outer s H args us vs Q E hr hA he hb hv hs => codeAny_mono (F.run A outer s H args us vs Q E0 hr hA he hb hv hs) fun fin s' h => ?_⟩
  match fin, h with
  | .error e, h =>
    obtain ⟨_, _, _, _, _, _, _, _, _, _, _, _, z⟩ := h
    exact z.elim
  | .ok (.ret _), h => exact h
  | .ok .next, h => exact h
  | .ok .brk, h => exact h
  | .ok .cont, h => exact h
theorem CalXG.calm (C : CalXG P w K mg base k x ps sp) : CalG P w K mg base k x ps (GT.calm sp) := by
  obtain ⟨f, fd, F, h⟩ := C
  exact ⟨f, fd, fnG_calm F, h⟩
theorem MthXG.calm (M : MthXG P w K mg base k C m ps sp) : MthG P w K mg base k C m ps (GT.calm sp) := by
  obtain ⟨f, fd, F, h⟩ := M
  exact ⟨f, fd, fnG_calm F, h⟩
end
section
variable {X : Cx} {K : PySem.W.Frag}
def rRemT (K : PySem.W.Frag) : V → List V → Hp → VK → Prop := fun x xs H Q => ∃ (l : Addr) (vs : List V) (y : V) (d : Dt) (ds : List Dt) (j : Nat) (z : Dt), x = .ref l ∧ xs = [y] ∧ H l = some (.lst vs) ∧ DtsAt K H vs ds ∧ DtAt K H y d ∧ d.depth ≤ 60 ∧ Dt.depthAll ds ≤ 60 ∧
  ds[j]? = some z ∧ Dt.beq z d = true ∧ (∀ (m : Nat) (z' : Dt), m < j → ds[m]? = some z' → Dt.beq z' d = false) ∧ Q .non (upd H l (.lst (vs.eraseIdx j)))
theorem mt_removeT (eK : X.K = K) (hu : X.A.units + 65 < cLine) : MtM X "list.remove" (rRemT K) := by
  subst eK
  intro pins s σ H x xs v us Q I rx rxs h
  obtain ⟨l, vs, y, d, ds, j, z, rfl, rfl, hH, ha, hy, hd1, hd2, hz, hzj, hno, q⟩ := h
  cases rx
  obtain ⟨u, rfl, ru⟩ := rxs.one
  have r1 := DtAt.is I d y u hy ru
  obtain ⟨zz, its, n, r, hl, e⟩ := I.lstM hH
  have h4 := DtsAt.is I ds _ its ha r
  have hn := h4.len
  obtain ⟨hjd, _⟩ := List.getElem?_eq_some_iff.mp hz
  have hjl : j < its.length := by omega
  have hj : j < its.toArray.size := by simpa using hjl
  have hvl := r.length
  have hsl := sizeLine_eq
  have at_ : ∀ (m : Nat) (hm : m < its.toArray.size) (z' : Dt), ds[m]? = some z' → datOf s.heap its.toArray[m] = z' := by
    intro m hm z' hz'
    have hml : m < its.length := by simpa using hm
    obtain ⟨d', h5, h6⟩ := h4.get (List.getElem?_eq_getElem hml)
    rw [hz'] at h5
    obtain rfl := Option.some.inj h5
    exact datOf_eq (by simpa using h6)
  refine call_meets PySem.F.slot_list_remove ⟨_, e, rfl⟩ PySem.F.entry_list_remove (PySem.F.args_list_remove_2 _ _)
    (SeqAt.list_removeAt l its.toArray n none #[] u (fun u => Dt.beq (datOf s.heap u) d) j hj ?_ ?_ (by rw [List.size_toArray]; omega)) ⟨e, ?_, ?_⟩
  · show Dt.beq (datOf s.heap its.toArray[j]) d = true
    rw [at_ j hj z hz]
    exact hzj
  · intro m hm hmj
    have hmd : m < ds.length := by have : m < its.length := by simpa using hm
                                   omega
    have hz' : ds[m]? = some ds[m] := List.getElem?_eq_getElem hmd
    show Dt.beq (datOf s.heap its.toArray[m]) d = false
    rw [at_ m hm _ hz']
    exact hno m _ hmj hz'
  · intro w hw
    obtain ⟨c, hc, rc⟩ := DtAll.mem h4 (by simpa using hw)
    show SeqAt.EqAt _ _ _ _ (Dt.beq (datOf s.heap w) d)
    rw [datOf_eq rc]
    have hc2 := Dt.depth_mem hc
    exact eqAt_dt c d _ s _ _ rc r1 (by first | (rw [Around.in1_units, Around.in1_units]; omega) | (rw [Around.in1_units]; omega) | omega)
  · have rr := r.eraseIdx j
    refine ⟨.non, _, I.lset (its' := its.eraseIdx j) (t' := s.toks) hH e ?_ rr ?_, rfl, q⟩
    · show its.toArray.eraseIdxIfInBounds j = (its.eraseIdx j).toArray
      rw [List.eraseIdxIfInBounds_toArray]
    · have z2 := len_erase vs j
      omega
end
end GT

/-! ## list(reversed(list)); == of dicts whose values are lists -/
namespace GT
open PySem PySem.Spec PyProof.Rows L2 RT
section
variable {prog : Program} {w : World} {A : Around} {E : Value → Shared → Prop} {s : Shared}
set_option maxRecDepth 100000 in
theorem extend_rev {R : Result → Shared → Prop} (hh : A.handled = none) {it l S : Addr} {items : Array Value} (res : Value) (c₀ : Nat) (hit : s.heap.IsRevIter it l ((items.size : Int) - 1)) (hl : s.heap.IsList l items) (hne : l ≠ it) (hSi : S ≠ it) (hSl : S ≠ l) (hn : items.size ≤ sizeLine)
    (hS : s.heap.get? S = some { cls := .type "list", data := .seq #[] c₀ })
    (hR : ∀ h' tk acc' c', (∀ b o, b ≠ S → b ≠ it → s.heap.get? b = some o → h'.get? b = some o) → h'.get? S = some { cls := .type "list", dict := none, data := .seq acc' c', slots := #[] } →
      ItemsOf (fun i v => items[items.size - 1 - i]? = some v) acc' items.size → R (.ok (.ret res)) { s with heap := h', toks := tk }) :
    wpAny (model prog w) A.in1 (Builtin.List.listExtendWith (.ref S) (.ref it) res)
      (fun fin s' => match fin with | .done f => R (.ok f) s' | .again c' => c'.quiet = true ∧ codeAny (model prog w) A c' R s') (fun e s' => R (.error e) s') s := by
  have W := (Walks.listRev (prog := prog) (w := w) (A := A.in1) hh it l hne items).toS
  have hSf : S ∉ [it, l] := by simp only [List.mem_cons, List.not_mem_nil, or_false, not_or]; exact ⟨hSi, hSl⟩
  have hT : s.TypeIs (.ref it) "list_reverseiterator" := hit.typeIs
  have h1 : Builtin.List.listSameRef (.ref S) (.ref it) = false := by simp [Builtin.List.listSameRef, hSi]
  unfold Builtin.List.listExtendWith
  refine wpAny_bind (wpAny_typeOf hT ?_)
  rw [if_neg (by rw [h1]; decide)]
  refine wpAny_bind (wpAny_pyIter_revIter hit ?_)
  refine wpAny_bind (wpAny_holding ?_)
  unfold Builtin.List.listLengthHint
  refine wpAny_bind (wpAny_specialOf hT nolen_lri ?_)
  show wpAny _ A.in1 (specialOf (Value.ref it) (Str.ofString "__length_hint__") >>= _) _ _ _
  refine wpAny_bind (wpAny_specialOf hT hint_lri ?_)
  generalize hid : ("list_reverseiterator.__length_hint__" : String) = id0
  wp_delta
  rw [show splitId id0 = some ("list_reverseiterator", "__length_hint__") from by subst hid; decide +kernel]
  subst hid
  refine wpAny_bind (wpAny_isInstance (b := true) hT (by rw [isSubtype_type]; kernel_rfl) ?_)
  refine wpAny_pure ?_
  rw [if_neg (by decide)]
  have e0 : ((items.size : Nat) : Int) - 1 - ((0 : Nat) : Int) = (items.size : Int) - 1 := by omega
  refine wpAny_pure ⟨plainId_quiet F.plain_extend_loop _, codeAny_extend_loopS W hn _ hSf _ items.size 0 _ _ _ rfl (Nat.zero_le _) ⟨Nat.zero_le _, by rw [e0]; exact hit, hl⟩ hS (ItemsOf.nil _) fun s' acc' c' hm hS' hacc => ?_⟩
  rw [Moved.eq_with hm]
  refine hR s'.heap s'.toks acc' c' (fun b ob hb hb2 e => hm.heap b ob (fun hmem => ?_) e) hS' hacc
  rcases List.mem_cons.mp hmem with e' | hmem
  · exact hb e'
  · exact hb2 (List.mem_singleton.mp hmem)
theorem list_init_rev {R : Result → Shared → Prop} (hh : A.handled = none) {it l S : Addr} {items : Array Value} (hit : s.heap.IsRevIter it l ((items.size : Int) - 1)) (hl : s.heap.IsList l items) (hne : l ≠ it) (hSi : S ≠ it) (hSl : S ≠ l) (hn : items.size ≤ sizeLine)
    (hS : s.heap.get? S = some { cls := .type "list", data := .seq #[] })
    (hR : ∀ h' tk acc' c', (∀ b o, b ≠ S → b ≠ it → s.heap.get? b = some o → h'.get? b = some o) → h'.get? S = some { cls := .type "list", dict := none, data := .seq acc' c', slots := #[] } →
      ItemsOf (fun i v => items[items.size - 1 - i]? = some v) acc' items.size → R (.ok (.ret .none)) { s with heap := h', toks := tk }) :
    wpAny (model prog w) A.in1 (Builtin.«list.__init__» ⟨[.ref S, .ref it], []⟩)
      (fun fin s' => match fin with | .done f => R (.ok f) s' | .again c' => c'.quiet = true ∧ codeAny (model prog w) A c' R s') (fun e s' => R (.error e) s') s := by
  show wpAny _ _ (do let old ← Builtin.List.listItems (.ref S); Builtin.List.listUpdate (.ref S) (fun _ => #[]); letGo old.toList.reverse; Builtin.List.listExtendWith (.ref S) (.ref it) .none) _ _ s
  refine wpAny_bind ?_
  unfold Builtin.List.listItems
  refine wpAny_bind (wpAny_seqItems hS rfl (wpAny_pure ?_))
  show wpAny _ _ (updateSeq S (fun _ => #[]) >>= fun _ => letGo (#[] : Array Value).toList.reverse >>= fun _ => Builtin.List.listExtendWith (.ref S) (.ref it) .none) _ _ s
  refine wpAny_bind (wpAny_updateSeq hS rfl ?_)
  have hS₂ := Heap.get?_update_self (Obj.mapSeq (fun _ => (#[] : Array Value))) hS rfl
  have oth : ∀ b o, b ≠ S → s.heap.get? b = some o → (s.heap.update S (Obj.mapSeq (fun _ => (#[] : Array Value)))).get? b = some o :=
    fun b o hb e => (Heap.get?_update_other _ _ (Ne.symm hb)).trans e
  refine wpAny_bind (wpAny_letGo ?_)
  obtain ⟨ol, hol, hlr⟩ := id hl
  refine extend_rev (hn := hn) hh .none _ (hit.at fun o e => oth it o hSi.symm e) ⟨ol, oth l ol hSl.symm hol, hlr⟩ hne hSi hSl hS₂ fun h' tk acc' c' hk hS' hacc => ?_
  exact hR h' tk acc' c' (fun b o hb hb2 e => hk b o hb hb2 (oth b o hb e)) hS' hacc
theorem call_list_rev {it l : Addr} {items : Array Value} {Q : Value → Shared → Prop} (hh : A.handled = none) (hit : s.heap.IsRevIter it l ((items.size : Int) - 1)) (hl : s.heap.IsList l items) (hne : l ≠ it) (hn : items.size ≤ sizeLine)
    (hQ : ∀ h' tk acc' c', (∀ b o, b ≠ it → s.heap.get? b = some o → h'.get? b = some o) →
      h'.get? s.heap.objs.size = some { cls := .type "list", dict := none, data := .seq acc' c', slots := #[] } → ItemsOf (fun i v => items[items.size - 1 - i]? = some v) acc' items.size → Q (.ref s.heap.objs.size) { s with heap := h', toks := tk }) :
    wpAny (model prog w) A (call (.type "list") [.ref it]) Q E s := by
  obtain ⟨oi, hoi, _⟩ := id hit
  obtain ⟨ol, hol, _⟩ := id hl
  refine callType_codes (Q₁ := fun obj s₁ => obj = .ref s.heap.objs.size ∧ s₁ = { s with heap := s.heap.push { cls := .type "list", data := .seq #[] } }) F.called_list (F.typeCall_list_1 _) F.entry_list_init
    (code_list_new _ ⟨rfl, rfl⟩) fun obj s₁ h₁ => ?_
  obtain ⟨rfl, rfl⟩ := h₁
  have hS : (s.heap.push { cls := .type "list", data := .seq #[] }).get? s.heap.objs.size = some { cls := .type "list", data := .seq #[] } := Heap.get?_push_size _ rfl
  refine ⟨⟨_, hS, rfl⟩, F.args_list_init_2 _ _, list_init_rev (A := A.in1) (hn := hn) hh (hit.at fun o e => Heap.get?_push_of_some _ e) (hl.push _) hne (Nat.ne_of_gt (Heap.lt_size hoi)) (Nat.ne_of_gt (Heap.lt_size hol)) hS fun h' tk acc' c' hk hS' hacc => ?_⟩
  exact ⟨rfl, hQ h' tk acc' c' (fun b o hb e => hk b o (Nat.ne_of_lt (Heap.lt_size e)) hb (Heap.get?_push_of_some _ e)) hS' hacc⟩
end
/-- list(reversed(x)), x a list: a new list -/
def tListRev (K : PySem.W.Frag) (te : TE) : TE := fun σ H Q => te σ H fun v H1 => ∃ (a : Addr) (xs : List V), v = .ref a ∧ SqL K H1 a xs ∧ ∀ q, H1 q = none → Q (.ref q) (upd H1 q (.lst xs.reverse))
section
variable {X : Cx}
theorem pe_listRev {e : Expr} {te : TE} {p p2 pos pos2 : Pos} (hc : X.calm = true) (hg : Gl X "list") (hm : X.mg "list" = none) (hg2 : Gl X "reversed") (hm2 : X.mg "reversed" = none) (he : PE X e te)
    (hs : starEach [e] X.env = (false, eval e X.env) :: starEach [] X.env := by rfl)
    (hs2 : starEach [.Call (.Name "reversed" p2) [e] [] pos2] X.env = (false, eval (.Call (.Name "reversed" p2) [e] [] pos2) X.env) :: starEach [] X.env := by rfl) :
    PE X (.Call (.Name "list" p) [.Call (.Name "reversed" p2) [e] [] pos2] [] pos) (tListRev X.K te) := by
  refine ⟨fun pins s σ H Q I h => ?_⟩
  refine Call_ (ld_blt I hg hm boot_list (PyProof.Rows.callWith_type1 (args_cons (Call_ (ld_blt I hg2 hm2 PyProof.Rows.boot_reversed (PyProof.Rows.callWith_type1 (args_cons (thn (he.run pins s σ H _ I h) fun u s1 ⟨v, H1, I1, r1, q1⟩ => args_nil ?_) hs) hs rfl))) hs2) hs2 rfl))
  obtain ⟨a, xs, ev, hq, q⟩ := q1
  subst ev
  obtain rfl : u = Value.ref a := r1
  obtain ⟨its, rv, p', hz⟩ := I1.list hq
  refine call_reversed_list p'.isList (args_nil ?_)
  have k0 : ∀ b o, s1.heap.get? b = some o → (s1.heap.push (revObj a ((its.toArray.size : Int) - 1))).get? b = some o := fun b o e => Heap.get?_push_of_some _ e
  have I2 : Inv X pins σ H1 { s1 with heap := s1.heap.push (revObj a ((its.toArray.size : Int) - 1)) } := I1.kept (t' := s1.toks) k0
  have hni : H1 s1.heap.objs.size = none := I1.hok.fresh (Nat.le_refl _)
  obtain ⟨f0, f1, f2, f3, f4, f5⟩ := I1.fpOk (H' := H1) (b := s1.heap.objs.size) (Nat.le_refl _) hni
  have hl := p'.isList
  obtain ⟨ol, hol, _⟩ := id hl
  have hne : a ≠ s1.heap.objs.size := Nat.ne_of_lt (Heap.lt_size hol)
  have hn : its.toArray.size ≤ sizeLine := by rw [List.size_toArray, ← rv.length]; exact hz
  have sz : (s1.heap.push (revObj a ((its.toArray.size : Int) - 1))).objs.size = s1.heap.objs.size + 1 := Heap.size_push ..
  refine call_list_rev (s := { s1 with heap := s1.heap.push (revObj a ((its.toArray.size : Int) - 1)) }) (I1.ok.hd hc) ⟨_, Heap.get?_push_size _ rfl, rfl, rfl⟩ (hl.push _) hne hn fun h' tk acc c' hk hS' hi => ?_
  have I3 : Inv X pins σ H1 { s1 with heap := h', toks := tk } := I2.turned (t' := tk) (fun b o hb e => hk b o hb e) f0 f1 f3 f4 f5
  have hq2 : H1 (s1.heap.objs.size + 1) = none := I1.hok.fresh (Nat.le_succ _)
  rw [sz] at hS'
  show EP X pins σ Q (Value.ref (s1.heap.push (revObj a ((its.toArray.size : Int) - 1))).objs.size) { s1 with heap := h', toks := tk }
  rw [sz]
  refine ⟨.ref (s1.heap.objs.size + 1), upd H1 (s1.heap.objs.size + 1) (.lst xs.reverse), I1.laid (t' := tk) (a := s1.heap.objs.size + 1) (o := .lst xs.reverse) (h' := h') (fun b o e => hk b o (Nat.ne_of_lt (Heap.lt_size e)) (Heap.get?_push_of_some _ e)) (Nat.le_succ _) (show ObjOk X.prog X.w _ _ _ (.lst xs.reverse) from ⟨by rw [List.length_reverse]; exact hz, acc.toList, c', vals_rev rv hi, ?_⟩), rfl, q _ hq2⟩
  rw [Array.toArray_toList]
  exact hS'
end
/-! ### == of dicts whose values may be lists -/
def DL (K : PySem.W.Frag) (H : Hp) : List NKV → List NKD → Prop := Paired fun p q => p.1 = q.1 ∧ DtAt K H p.2 q.2 ∧ q.2.depth ≤ 8
section
variable {X : Cx} {pins : List (Addr × Obj)} {σ : L2.St} {H : Hp} {s : Shared}
theorem yd_ofL (I : Inv X pins σ H s) : ∀ {xs : List (NestedKey × Addr × V)} {ys : List (NestedKey × Addr × Value)} {da : List NKD}, NdRel xs ys → DL X.K H (plainX xs) da → YD s.heap ys da := by
  intro xs ys da r
  induction r generalizing da with
  | nil =>
    intro d
    have d' : DL X.K H [] da := d
    cases d'
    exact .nil
  | @cons p q ps qs h t ih =>
    intro d
    have d' : DL X.K H ((p.1, p.2.2) :: plainX ps) da := d
    cases d' with
    | cons e et => exact .cons ⟨h.1.symm.trans e.1, DtAt.is I _ _ _ e.2.1 h.2.2, e.2.2⟩ (ih et)
end
section
variable {P : Program} {w : World} {K : PySem.W.Frag} {X : Cx}
def rEqL (P : Program) (w : World) (K : PySem.W.Frag) : R2 := fun x y H Q => ∃ a b ka kb da db, x = .ref a ∧ y = .ref b ∧ NDR P w K H a ka ∧ NDR P w K H b kb ∧ DL K H ka da ∧ DL K H kb db ∧
  ((da.map (·.1)).Nodup → (db.map (·.1)).Nodup → Q (.bl (dEq da db)) H)
def rNeL (P : Program) (w : World) (K : PySem.W.Frag) : R2 := fun x y H Q => ∃ a b ka kb da db, x = .ref a ∧ y = .ref b ∧ NDR P w K H a ka ∧ NDR P w K H b kb ∧ DL K H ka da ∧ DL K H kb db ∧
  ((da.map (·.1)).Nodup → (db.map (·.1)).Nodup → Q (.bl (!dEq da db)) H)
theorem op_eqL (eP : X.prog = P) (ew : X.w = w) (eK : X.K = K) (hu : X.A.units + 64 < cLine) : OpR X (compareOp .Eq) (rEqL P w K) := by
  subst eP; subst ew; subst eK
  intro pins s σ H x y v u Q I rx ry h
  obtain ⟨a, b, ka, kb, da, db, rfl, rfl, ⟨xa, ea, ksa, rfl⟩, ⟨xb, eb, ksb, rfl⟩, dda, ddb, q⟩ := h
  obtain rfl : v = Value.ref a := rx
  obtain rfl : u = Value.ref b := ry
  obtain ⟨_, ha, ya, ra, oa⟩ := nd_raw I ea ksa
  obtain ⟨_, hb, yb, rb, ob⟩ := nd_raw I eb ksb
  have ja := yd_ofL I ra dda
  have jb := yd_ofL I rb ddb
  have na : (da.map (·.1)).Nodup := by rw [← ja.keys]; exact DictOfH.nd oa
  have nb : (db.map (·.1)).Nodup := by rw [← jb.keys]; exact DictOfH.nd ob
  have hu1 : X.A.in1.units = X.A.units + 1 := Around.in1_units ..
  refine h_eq (knd := nestedKind X.prog X.w) (show X.A.in1.units + 8 < cLine by omega) ha hb oa ob (by omega) (fun _ => YD.hits (by omega) jb nb ja) ?_
  refine ⟨.bl _, H, I, rfl, ?_⟩
  rw [ja.len, jb.len]
  exact q na nb
theorem op_neL (eP : X.prog = P) (ew : X.w = w) (eK : X.K = K) (hu : X.A.units + 64 < cLine) : OpR X (compareOp .NotEq) (rNeL P w K) := by
  subst eP; subst ew; subst eK
  intro pins s σ H x y v u Q I rx ry h
  obtain ⟨a, b, ka, kb, da, db, rfl, rfl, ⟨xa, ea, ksa, rfl⟩, ⟨xb, eb, ksb, rfl⟩, dda, ddb, q⟩ := h
  obtain rfl : v = Value.ref a := rx
  obtain rfl : u = Value.ref b := ry
  obtain ⟨_, ha, ya, ra, oa⟩ := nd_raw I ea ksa
  obtain ⟨_, hb, yb, rb, ob⟩ := nd_raw I eb ksb
  have ja := yd_ofL I ra dda
  have jb := yd_ofL I rb ddb
  have na : (da.map (·.1)).Nodup := by rw [← ja.keys]; exact DictOfH.nd oa
  have nb : (db.map (·.1)).Nodup := by rw [← jb.keys]; exact DictOfH.nd ob
  have hu1 : X.A.in1.units = X.A.units + 1 := Around.in1_units ..
  refine h_ne (knd := nestedKind X.prog X.w) (show X.A.in1.units + 8 < cLine by omega) ha hb oa ob (by omega) (fun _ => YD.hits (by omega) jb nb ja) ?_
  refine ⟨.bl _, H, I, rfl, ?_⟩
  rw [ja.len, jb.len]
  exact q na nb
/-- the same rows of pairs with the same values -/
theorem dEq_same {da db : List NKD} (na : (da.map (·.1)).Nodup) (nb : (db.map (·.1)).Nodup) (l : da.length = db.length) (h : ∀ p ∈ da, p ∈ db) : dEq da db = true := by
  unfold dEq
  rw [Bool.and_eq_true, beq_iff_eq, List.all_eq_true]
  refine ⟨l, fun p hp => ?_⟩
  rw [valD_of nb (k := p.1) (d := p.2) (h p hp)]
  exact Dt.beq_self _
end
end GT

/-! ## the values of dicts with nested keys -/
namespace GT
open PySem PySem.Spec PyProof.Rows L2
def ItNv (P : Program) (w : World) (d : Addr) (o : Obj) (xs : List (NestedKey × Addr × V)) : It :=
  ⟨fun i H => H d = some (.frz o (ndO P w d xs)) ∧ i < xs.length, fun i H x H' => H' = H ∧ ∃ e, xs[i]? = some e ∧ x = e.2.2, fun i H => H d = some (.frz o (ndO P w d xs)) ∧ xs.length ≤ i⟩
section
variable {P : Program} {w : World} {K : PySem.W.Frag} {tg : Expr} {d : Addr} {o : Obj} {es : Array DictEntry} {ep : Nat} {xs : List (NestedKey × Addr × V)}
theorem turn_nv (it : Addr) (hod : o.data = .dict es ep) : Turn P w K tg (ItNv P w d o xs) [it] it (fun i h => h.IsValIter it d i xs.length ep) where
  mem := by simp
  obj := fun i h st b hb => by
    have e : b = it := by simpa using hb
    subst e
    obtain ⟨oi, e, c, dd⟩ := st
    exact ⟨oi, e, fun v z => by rw [dd] at z; cases z⟩
  keep := fun i h h' st k => st.at fun oi e => k it (by simp) oi e
  item := by
    intro X hP hw hK hc i pins s σ H E I hf st hg
    subst hP hw hK
    obtain ⟨hd, hi⟩ := hg
    obtain ⟨f0, f1, f2, f3, f4, f5⟩ := hf it (by simp)
    obtain ⟨hs, hgd, hx, es', ep', hdt, hsz, ent⟩ := nd_frz I hd
    obtain ⟨rfl, rfl⟩ := dict_ep hod hdt
    obtain ⟨e, he⟩ : ∃ e, xs[i]? = some e := ⟨xs[i], List.getElem?_eq_getElem hi⟩
    obtain ⟨en, hen, _, hval⟩ := ent i e he
    obtain ⟨hie, hen2⟩ := Array.getElem?_eq_some_iff.mp hen
    rw [← hsz] at st
    refine wpAny_pyNext_values_item_raw st ⟨o, hgd, hx, hdt⟩ hie fun h' st' sb => ?_
    have I1 : Inv X pins σ H { s with heap := h' } := I.turned (t' := s.toks) (fun b ob hb e => (sb.2 b hb).trans e) f0 f1 f3 f4 f5
    obtain ⟨oi, e1, c, dd⟩ := id st'
    rw [hen2]
    refine ⟨en.val, rfl, go_of (s := { s with heap := h' }) e1 c dd (by decide) ⟨e.2.2, H, I1, hval, ⟨rfl, e, he, rfl⟩, ?_, fun b hb => (hf b hb).1⟩⟩
    show h'.IsValIter it d (i + 1) xs.length _
    rw [← hsz]; exact st'
  done := by
    intro X hP hw hK hc i pins s σ H E I hf st hg
    subst hP hw hK
    obtain ⟨hd, hi⟩ := hg
    obtain ⟨f0, f1, f2, f3, f4, f5⟩ := hf it (by simp)
    obtain ⟨hs, hgd, hx, es', ep', hdt, hsz, ent⟩ := nd_frz I hd
    obtain ⟨rfl, rfl⟩ := dict_ep hod hdt
    rw [← hsz] at st hi
    exact wpAny_pyNext_values_end_raw (I.ok.hd hc) st ⟨o, hgd, hx, hdt⟩ hi fun h' eb => ⟨rfl, I.turned (t' := s.toks) (fun b ob hb e => eb b ob hb e) f0 f1 f3 f4 f5⟩
  self := fun A i s Q E st h => wpAny_pyIter_valiter st h
end
def iNv (P : Program) (w : World) (td : TE) : TI := fun σ H R => td σ H fun x H1 => ∃ d o xs, x = .ref d ∧ H1 d = some (.frz o (ndO P w d xs)) ∧ R (ItNv P w d o xs) H1
section
variable {X : Cx} {tg e : Expr} {td : TE} {apos cpos : Pos}
theorem pi_nv (he : PE X e td) (hbase : attributeBase e "values" X.env (eval e X.env) = eval e X.env := by rfl) (hline : (apos.endLine == cpos.line) = true := by rfl) :
    PI X tg (.Call (.Attribute e "values" apos) [] [] cpos) (iNv X.prog X.w td) := by
  refine ⟨fun pins s σ H R I h => ?_⟩
  refine wpAny_Call_method (T := "dict") (id := "dict.values") hbase rfl hline F.plainAttrs_dict F.slot_dict_values F.type_dict_values (thn (he.run pins s σ H _ I h) fun u s1 ⟨x, H1, I1, rx, d, o, xs, ex, hd, q⟩ => ?_)
  subst ex
  obtain rfl : u = Value.ref d := rx
  obtain ⟨hs, hgd, hx, es, ep, hdt, hsz, ent⟩ := nd_frz I1 hd
  have dr : s1.heap.DictRaw d es ep := ⟨o, hgd, hx, hdt⟩
  refine ⟨dr.typeIs, fun b q => by cases q; exact ⟨o, hgd, hx.2.1⟩, ?_⟩
  have I2 : Inv X pins σ H1 { s1 with heap := s1.heap.push { cls := .type "dict_values", data := .fields #[.ref d] } } := I1.kept (t' := s1.toks) fun b ob q => Heap.get?_push_of_some _ q
  have fin : wpAny (model X.prog X.w) X.A (pyIter (.ref s1.heap.objs.size)) (PIE X pins σ tg R) X.xe { s1 with heap := s1.heap.push { cls := .type "dict_values", data := .fields #[.ref d] } } := by
    refine wpAny_pyIter_values_raw (d := d) (es := es) (ep := ep) ⟨_, Heap.get?_push_size _ rfl, rfl, rfl⟩ (dr.at fun ob q => Heap.get?_push_of_some _ q) (pi_one (tk := s1.toks) I2 _ (turn_nv _ hdt) ⟨_, Heap.get?_push_size _ rfl, rfl, ?_⟩ q)
    rw [← hsz] <;> rfl
  show wpAny _ _ (callWith cpos (.builtin "dict.values") [.ref d] [] []) _ X.xe s1
  exact method_meetsIn F.slot_dict_values F.entry_dict_values rfl (PySem.evalArgs_none ⟨rfl, dr.typeIs, F.args_dict_values_1 _, _, meets_dict_values_raw d hs, ⟨es, ep, dr⟩, fin⟩)
end
section
variable {P : Program} {w : World} {d : Addr} {o : Obj} {xs : List (NestedKey × Addr × V)}
theorem lc_nv {g : TG} {tt : TT} {te : TE} {vs : List Nat} {σ : L2.St} {H1 : Hp} {D : Addr} {Qd : Hp → Prop} (Pv : Nat → Hp → Prop) (h0 : Pv 0 (upd H1 D (.lst []))) (hl : ∀ i H, i ≤ xs.length → Pv i H → H d = some (.frz o (ndO P w d xs)))
    (hs : ∀ i x H, xs[i]? = some x → Pv i H → g x.2.2 (wipe σ vs) H fun σ2 H2 => wipe σ2 vs = wipe σ vs ∧ tt σ2 H2 fun b H3 =>
      if b = true then te σ2 H3 fun y H4 => ∃ acc, H4 D = some (.lst acc) ∧ acc.length < sizeLine ∧ Pv (i + 1) (upd H4 D (.lst (acc ++ [y]))) else Pv (i + 1) H3) (hd : ∀ H, Pv xs.length H → Qd H) :
    ∃ W : Nat → Nat → Hp → Prop, (∃ m, W 0 m (upd H1 D (.lst []))) ∧ ∀ i m H, W i m H →
      ((ItNv P w d o xs).stop i H ∧ Qd H) ∨ ((ItNv P w d o xs).go i H ∧ ∃ Nx : Hp → Prop, (∀ H', Nx H' → ∃ m', m' < m ∧ W (i + 1) m' H') ∧ ∀ x H', (ItNv P w d o xs).yld i H x H' → g x (wipe σ vs) H' fun σ2 H2 => wipe σ2 vs = wipe σ vs ∧ tt σ2 H2 fun b H3 =>
        if b = true then te σ2 H3 fun y H4 => ∃ acc, H4 D = some (.lst acc) ∧ acc.length < sizeLine ∧ Nx (upd H4 D (.lst (acc ++ [y]))) else Nx H3) := by
  refine ⟨fun i m H => m = xs.length - i ∧ i ≤ xs.length ∧ Pv i H, ⟨xs.length, by simp, Nat.zero_le _, h0⟩, ?_⟩
  rintro i m H ⟨rfl, hi, p⟩
  have q := hl i H hi p
  by_cases hlt : i < xs.length
  · refine .inr ⟨⟨q, hlt⟩, Pv (i + 1), fun H' p' => ⟨xs.length - (i + 1), by omega, rfl, hlt, p'⟩, fun x H' y => ?_⟩
    obtain ⟨e, z, hz, rfl⟩ := y
    subst e
    exact hs i z _ hz p
  · have e : i = xs.length := by omega
    subst e
    exact .inl ⟨⟨q, Nat.le_refl _⟩, hd H p⟩
end
end GT

/-! ## comprehensions within comprehensions -/
namespace GT
open PySem PySem.Spec PyProof.Rows L2
section
variable {X : Cx} {P : Program} {w : World} {K : PySem.W.Frag} {tg e : Expr} {td : TE}
theorem pi_listK (h : X.K = K) (he : PE X e td) : PI X tg e (iList K td) := by subst h; exact pi_list he
theorem pi_nK (h1 : X.prog = P) (h2 : X.w = w) (he : PE X e td) : PI X tg e (iN P w td) := by subst h1; subst h2; exact pi_n he
end
end GT

namespace GT
open PySem PySem.Spec PyProof.Rows L2
local macro_rules | `(tactic| walk_at "p") => `(tactic| first
  | (with_reducible apply vl_var; with_unfolding_all rfl)
  | with_reducible exact vl_c
  | ((with_reducible apply vl_I0); (· walk_at "p"); (· walk_at "p"))
  | ((with_reducible apply vl_U); (· walk_at "p"))
  | ((with_reducible apply vl_chain); (· walk_at "p"); (· walk_at "p"); (· walk_at "p"))
  | ((with_reducible apply vl_and); (· walk_at "p"); (· walk_at "p"))
  | ((with_reducible apply vl_or); (· walk_at "p"); (· walk_at "p"))
  | ((with_reducible apply vl_not); (· walk_at "p"))
  | ((with_reducible apply vl_eq); (· walk_at "p"); (· walk_at "p"); (· with_unfolding_all rfl))
  | ((with_reducible apply vl_ne); (· walk_at "p"); (· walk_at "p"); (· with_unfolding_all rfl))
  | ((with_reducible apply tl_test); (· walk_at "p"))
  | ((with_reducible apply tl_B); (· walk_at "p"))
  | ((with_reducible apply tl_and); (· walk_at "p"); (· walk_at "p"))
  | ((with_reducible apply tl_or); (· walk_at "p"); (· walk_at "p"))
  | ((with_reducible apply tl_not); (· walk_at "p")))
local macro_rules | `(tactic| walk_at "g") => `(tactic| first
  | ((with_reducible apply p_AndV); (· walk_at "p"))
  | ((with_reducible apply p_OrV); (· walk_at "p"))
  | ((with_reducible apply p_Chain); (· walk_at "p"))
  | ((with_reducible apply p_And); (· walk_at "p"))
  | ((with_reducible apply p_Or); (· walk_at "p"))
  | ((with_reducible apply j_and); (· walk_at "p"); (· exact fun z => z))
  | ((with_reducible apply j_or); (· walk_at "p"); (· exact fun z => z))
  | (with_reducible apply i_var; with_unfolding_all rfl)
  | with_reducible refine i_C ?_
  | with_reducible refine i_Op ?_
  | with_reducible refine i_Yes ?_
  | with_reducible refine i_Un ?_
  | with_reducible refine i_I0 ?_
  | ((with_reducible refine i_I ?hc ?_); (case hc => first | (show (0 : Int) < _; decide) | exact .inl ⟨by decide, by decide⟩ | exact ⟨by decide, by decide⟩ | exact ⟨by decide, by decide, by decide⟩ | (show (0 : Int) < _; omega) | exact .inl ⟨by omega, by omega⟩ | exact .inr ⟨by decide, by decide⟩))
  | with_reducible refine i_U ?_
  | with_reducible refine i_Test ?_
  | with_reducible refine i_B ?_
  | with_reducible refine i_bl ?_
  | with_reducible refine i_And ?_
  | with_reducible refine i_Or ?_
  | with_reducible refine i_Not ?_
  | with_reducible refine i_Nil ?_
  | with_reducible refine i_Cons ?_
  | with_reducible refine i_Seq ?_
  | with_reducible refine i_Asg ?_
  | with_reducible refine i_Name ?_
  | with_reducible refine i_Ret ?_
  | with_reducible refine i_IfS ?_
  | with_reducible refine i_Drop ?_
  | with_reducible refine i_Next ?_
  | with_reducible refine i_If ?_
  | with_reducible refine i_Call ?_
  | with_reducible refine i_CB ?_
  | with_reducible refine i_Chain ?_
  | with_reducible refine i_AndV ?_
  | with_reducible refine i_OrV ?_
  | with_reducible refine i_NotV ?_
  | with_reducible refine i_blV ?_
  | with_reducible refine i_Tup ?_
  | with_reducible refine i_Lst ?_
  | with_reducible refine i_Par ?_
  | with_reducible refine i_Sl ?_
  | with_reducible refine i_NoPart ?_
  | with_reducible refine i_Part ?_
  | with_reducible refine i_intV ?_
  | with_reducible refine i_BM ?_
  | with_reducible refine i_BM0 ?_
  | with_reducible refine i_For ?_
  | with_reducible refine i_Lc ?_
  | with_reducible refine i_Rng1 ?_
  | with_reducible refine i_Rng2 ?_
  | with_reducible refine i_List ?_
  | with_reducible refine i_Nk ?_
  | with_reducible refine i_Nki ?_
  | with_reducible refine i_NGet ?_
  | with_reducible refine i_NIn ?_
  | with_reducible refine i_NNotIn ?_
  | with_reducible refine i_NPut ?_
  | with_reducible refine i_Meth ?_
  | with_reducible refine i_Make ?_
  | with_reducible refine i_Fld ?_
  | with_reducible refine i_sFld ?_
  | with_reducible refine i_gNil ?_
  | with_reducible refine i_gCons ?_
  | (with_reducible apply i_Aug; with_unfolding_all rfl)
  | ((with_reducible refine i_Eq ?hv ?_); (case hv => with_unfolding_all rfl))
  | ((with_reducible refine i_Ne ?hv ?_); (case hv => with_unfolding_all rfl)))
local macro_rules | `(tactic| walk_at "h") => `(tactic| ((fail_if_success (with_reducible refine i_Lc ?_)); walk_at "g"))

/-! ### the text -/
def topS (i : Nat) : Stmt := PySem.Challenge.pw_graphtwins_k44_ranges.main.body.getD i (.Pass ⟨0, 0, 0, 0⟩)
abbrev s_is_peer : Stmt := topS 9
theorem sc_is_peer : FnScope ["number"] ["number"] (defScope s_is_peer) := ⟨rfl, rfl, rfl, by decide +kernel, rfl, by decide +kernel, by decide +kernel⟩
def d_is_peer : He.DefD := ⟨("is_peer", none), "is_peer", "is_peer", defArgs s_is_peer, defBody s_is_peer, defScope s_is_peer, [], []⟩
abbrev s_reference : Stmt := topS 10
theorem sc_reference : FnScope ["name"] ["name"] (defScope s_reference) := ⟨rfl, rfl, rfl, by decide +kernel, rfl, by decide +kernel, by decide +kernel⟩
def d_reference : He.DefD := ⟨("reference", none), "reference", "reference", defArgs s_reference, defBody s_reference, defScope s_reference, [], []⟩
abbrev s_linked_name : Stmt := topS 11
theorem sc_linked_name : FnScope ["value"] ["value"] (defScope s_linked_name) := ⟨rfl, rfl, rfl, by decide +kernel, rfl, by decide +kernel, by decide +kernel⟩
def d_linked_name : He.DefD := ⟨("linked_name", none), "linked_name", "linked_name", defArgs s_linked_name, defBody s_linked_name, defScope s_linked_name, [], []⟩
abbrev s_ranges_of : Stmt := topS 13
theorem sc_ranges_of : FnScope ["numbers", "ranges", "number"] ["numbers"] (defScope s_ranges_of) := ⟨rfl, rfl, rfl, by decide +kernel, rfl, by decide +kernel, by decide +kernel⟩
def d_ranges_of : He.DefD := ⟨("ranges_of", none), "ranges_of", "ranges_of", defArgs s_ranges_of, defBody s_ranges_of, defScope s_ranges_of, [], []⟩
abbrev s_numbers_of : Stmt := topS 14
theorem sc_numbers_of : FnScope ["ranges", "numbers", "first", "last"] ["ranges"] (defScope s_numbers_of) := ⟨rfl, rfl, rfl, by decide +kernel, rfl, by decide +kernel, by decide +kernel⟩
def d_numbers_of : He.DefD := ⟨("numbers_of", none), "numbers_of", "numbers_of", defArgs s_numbers_of, defBody s_numbers_of, defScope s_numbers_of, [], []⟩
abbrev s_told : Stmt := topS 15
theorem sc_told : FnScope ["replica", "peer", "sender", "number"] ["replica"] (defScope s_told) := ⟨rfl, rfl, rfl, by decide +kernel, rfl, by decide +kernel, by decide +kernel⟩
def d_told : He.DefD := ⟨("told", none), "told", "told", defArgs s_told, defBody s_told, defScope s_told, [], []⟩
abbrev s_lacking : Stmt := topS 16
theorem sc_lacking : FnScope ["mine", "theirs", "lacks", "sender", "ranges", "number"] ["mine", "theirs"] (defScope s_lacking) := ⟨rfl, rfl, rfl, by decide +kernel, rfl, by decide +kernel, by decide +kernel⟩
def d_lacking : He.DefD := ⟨("lacking", none), "lacking", "lacking", defArgs s_lacking, defBody s_lacking, defScope s_lacking, [], []⟩
abbrev s_answer : Stmt := topS 17
theorem sc_answer : FnScope ["replica", "theirs", "sender", "number"] ["replica", "theirs"] (defScope s_answer) := ⟨rfl, rfl, rfl, by decide +kernel, rfl, by decide +kernel, by decide +kernel⟩
def d_answer : He.DefD := ⟨("answer", none), "answer", "answer", defArgs s_answer, defBody s_answer, defScope s_answer, [], []⟩
abbrev s_bring : Stmt := topS 18
theorem sc_bring : FnScope ["replica", "other", "lacks", "sender", "number"] ["replica", "other"] (defScope s_bring) := ⟨rfl, rfl, rfl, by decide +kernel, rfl, by decide +kernel, by decide +kernel⟩
def d_bring : He.DefD := ⟨("bring", none), "bring", "bring", defArgs s_bring, defBody s_bring, defScope s_bring, [], []⟩
abbrev s_numbers_without : Stmt := topS 19
theorem sc_numbers_without : FnScope ["ranges", "others", "numbers", "at", "first", "last", "begin", "end"] ["ranges", "others"] (defScope s_numbers_without) := ⟨rfl, rfl, rfl, by decide +kernel, rfl, by decide +kernel, by decide +kernel⟩
def d_numbers_without : He.DefD := ⟨("_numbers_without", none), "_numbers_without", "_numbers_without", defArgs s_numbers_without, defBody s_numbers_without, defScope s_numbers_without, [], []⟩
abbrev s_CodeError_init : Stmt := inClass (topS 22) 0
theorem sc_CodeError_init : FnScope ["self", "place"] ["self", "place"] (defScope s_CodeError_init) := ⟨rfl, rfl, rfl, by decide +kernel, rfl, by decide +kernel, by decide +kernel⟩
def d_CodeError_init : He.DefD := ⟨("CodeError", some "__init__"), "__init__", "CodeError.__init__", defArgs s_CodeError_init, defBody s_CodeError_init, defScope s_CodeError_init, [], []⟩
abbrev s_BadPeer_init : Stmt := inClass (topS 23) 0
theorem sc_BadPeer_init : FnScope ["self", "peer"] ["self", "peer"] (defScope s_BadPeer_init) := ⟨rfl, rfl, rfl, by decide +kernel, rfl, by decide +kernel, by decide +kernel⟩
def d_BadPeer_init : He.DefD := ⟨("BadPeer", some "__init__"), "__init__", "BadPeer.__init__", defArgs s_BadPeer_init, defBody s_BadPeer_init, defScope s_BadPeer_init, [], []⟩
abbrev s_NoSuchMessage_init : Stmt := inClass (topS 24) 0
theorem sc_NoSuchMessage_init : FnScope ["self", "sender", "number"] ["self", "sender", "number"] (defScope s_NoSuchMessage_init) := ⟨rfl, rfl, rfl, by decide +kernel, rfl, by decide +kernel, by decide +kernel⟩
def d_NoSuchMessage_init : He.DefD := ⟨("NoSuchMessage", some "__init__"), "__init__", "NoSuchMessage.__init__", defArgs s_NoSuchMessage_init, defBody s_NoSuchMessage_init, defScope s_NoSuchMessage_init, [], []⟩
abbrev s_is_later : Stmt := topS 27
theorem sc_is_later : FnScope ["stamp", "other"] ["stamp", "other"] (defScope s_is_later) := ⟨rfl, rfl, rfl, by decide +kernel, rfl, by decide +kernel, by decide +kernel⟩
def d_is_later : He.DefD := ⟨("is_later", none), "is_later", "is_later", defArgs s_is_later, defBody s_is_later, defScope s_is_later, [], []⟩
abbrev s_sorted_changes : Stmt := topS 28
theorem sc_sorted_changes : FnScope ["changes", "once", "change"] ["changes"] (defScope s_sorted_changes) := ⟨rfl, rfl, rfl, by decide +kernel, rfl, by decide +kernel, by decide +kernel⟩
def d_sorted_changes : He.DefD := ⟨("sorted_changes", none), "sorted_changes", "sorted_changes", defArgs s_sorted_changes, defBody s_sorted_changes, defScope s_sorted_changes, [], []⟩
abbrev s_State_init : Stmt := inClass (topS 30) 0
theorem sc_State_init : FnScope ["self"] ["self"] (defScope s_State_init) := ⟨rfl, rfl, rfl, by decide +kernel, rfl, by decide +kernel, by decide +kernel⟩
def d_State_init : He.DefD := ⟨("State", some "__init__"), "__init__", "State.__init__", defArgs s_State_init, defBody s_State_init, defScope s_State_init, [], []⟩
abbrev s_State_take : Stmt := inClass (topS 30) 1
theorem sc_State_take : FnScope ["self", "change", "stamp", "name", "field", "value"] ["self", "change"] (defScope s_State_take) := ⟨rfl, rfl, rfl, by decide +kernel, rfl, by decide +kernel, by decide +kernel⟩
def d_State_take : He.DefD := ⟨("State", some "take"), "take", "State.take", defArgs s_State_take, defBody s_State_take, defScope s_State_take, [], []⟩
abbrev s_State_value : Stmt := inClass (topS 30) 2
theorem sc_State_value : FnScope ["self", "name", "field"] ["self", "name", "field"] (defScope s_State_value) := ⟨rfl, rfl, rfl, by decide +kernel, rfl, by decide +kernel, by decide +kernel⟩
def d_State_value : He.DefD := ⟨("State", some "value"), "value", "State.value", defArgs s_State_value, defBody s_State_value, defScope s_State_value, [], []⟩
abbrev s_State_stamp : Stmt := inClass (topS 30) 3
theorem sc_State_stamp : FnScope ["self", "name", "field"] ["self", "name", "field"] (defScope s_State_stamp) := ⟨rfl, rfl, rfl, by decide +kernel, rfl, by decide +kernel, by decide +kernel⟩
def d_State_stamp : He.DefD := ⟨("State", some "stamp"), "stamp", "State.stamp", defArgs s_State_stamp, defBody s_State_stamp, defScope s_State_stamp, [], []⟩
abbrev s_State_fields : Stmt := inClass (topS 30) 4
theorem sc_State_fields : FnScope ["self", "name", "fields", "values", "field", "value", "cell"] ["self", "name"] (defScope s_State_fields) := ⟨rfl, rfl, rfl, by decide +kernel, rfl, by decide +kernel, by decide +kernel⟩
def d_State_fields : He.DefD := ⟨("State", some "fields"), "fields", "State.fields", defArgs s_State_fields, defBody s_State_fields, defScope s_State_fields, [], []⟩
abbrev s_State_names : Stmt := inClass (topS 30) 5
theorem sc_State_names : FnScope ["self", "mentioned", "name", "_", "value", "target"] ["self"] (defScope s_State_names) := ⟨rfl, rfl, rfl, by decide +kernel, rfl, by decide +kernel, by decide +kernel⟩
def d_State_names : He.DefD := ⟨("State", some "names"), "names", "State.names", defArgs s_State_names, defBody s_State_names, defScope s_State_names, [], []⟩
abbrev s_State_changes : Stmt := inClass (topS 30) 6
theorem sc_State_changes : FnScope ["self", "name", "field", "stamp", "value"] ["self"] (defScope s_State_changes) := ⟨rfl, rfl, rfl, by decide +kernel, rfl, by decide +kernel, by decide +kernel⟩
def d_State_changes : He.DefD := ⟨("State", some "changes"), "changes", "State.changes", defArgs s_State_changes, defBody s_State_changes, defScope s_State_changes, [], []⟩
abbrev s_Reader_init : Stmt := inClass (topS 39) 0
theorem sc_Reader_init : FnScope ["self", "octets"] ["self", "octets"] (defScope s_Reader_init) := ⟨rfl, rfl, rfl, by decide +kernel, rfl, by decide +kernel, by decide +kernel⟩
def d_Reader_init : He.DefD := ⟨("Reader", some "__init__"), "__init__", "Reader.__init__", defArgs s_Reader_init, defBody s_Reader_init, defScope s_Reader_init, [], []⟩
abbrev s_Reader_next_octet : Stmt := inClass (topS 39) 1
theorem sc_Reader_next_octet : FnScope ["self", "least", "greatest", "octet"] ["self", "least", "greatest"] (defScope s_Reader_next_octet) := ⟨rfl, rfl, rfl, by decide +kernel, rfl, by decide +kernel, by decide +kernel⟩
def d_Reader_next_octet : He.DefD := ⟨("Reader", some "next_octet"), "next_octet", "Reader.next_octet", defArgs s_Reader_next_octet, defBody s_Reader_next_octet, defScope s_Reader_next_octet, [], []⟩
abbrev s_Reader_next_number : Stmt := inClass (topS 39) 2
theorem sc_Reader_next_number : FnScope ["self", "many", "least", "greatest", "number", "at", "bits", "lowest", "highest"] ["self", "many", "least", "greatest"] (defScope s_Reader_next_number) := ⟨rfl, rfl, rfl, by decide +kernel, rfl, by decide +kernel, by decide +kernel⟩
def d_Reader_next_number : He.DefD := ⟨("Reader", some "next_number"), "next_number", "Reader.next_number", defArgs s_Reader_next_number, defBody s_Reader_next_number, defScope s_Reader_next_number, [], []⟩
abbrev s_Reader_next_word : Stmt := inClass (topS 39) 3
theorem sc_Reader_next_word : FnScope ["self", "least", "greatest", "before", "many", "word"] ["self", "least", "greatest", "before"] (defScope s_Reader_next_word) := ⟨rfl, rfl, rfl, by decide +kernel, rfl, by decide +kernel, by decide +kernel⟩
def d_Reader_next_word : He.DefD := ⟨("Reader", some "next_word"), "next_word", "Reader.next_word", defArgs s_Reader_next_word, defBody s_Reader_next_word, defScope s_Reader_next_word, [], []⟩
abbrev s_Reader_next_plain : Stmt := inClass (topS 39) 4
theorem sc_Reader_next_plain : FnScope ["self", "kind"] ["self", "kind"] (defScope s_Reader_next_plain) := ⟨rfl, rfl, rfl, by decide +kernel, rfl, by decide +kernel, by decide +kernel⟩
def d_Reader_next_plain : He.DefD := ⟨("Reader", some "next_plain"), "next_plain", "Reader.next_plain", defArgs s_Reader_next_plain, defBody s_Reader_next_plain, defScope s_Reader_next_plain, [], []⟩
abbrev s_Reader_finish : Stmt := inClass (topS 39) 5
theorem sc_Reader_finish : FnScope ["self"] ["self"] (defScope s_Reader_finish) := ⟨rfl, rfl, rfl, by decide +kernel, rfl, by decide +kernel, by decide +kernel⟩
def d_Reader_finish : He.DefD := ⟨("Reader", some "finish"), "finish", "Reader.finish", defArgs s_Reader_finish, defBody s_Reader_finish, defScope s_Reader_finish, [], []⟩
abbrev s_Reader_check_order : Stmt := inClass (topS 39) 6
theorem sc_Reader_check_order : FnScope ["self", "begun", "many", "before", "last"] ["self", "begun", "many", "before"] (defScope s_Reader_check_order) := ⟨rfl, rfl, rfl, by decide +kernel, rfl, by decide +kernel, by decide +kernel⟩
def d_Reader_check_order : He.DefD := ⟨("Reader", some "_check_order"), "_check_order", "Reader._check_order", defArgs s_Reader_check_order, defBody s_Reader_check_order, defScope s_Reader_check_order, [], []⟩
abbrev s_number_octets : Stmt := topS 41
theorem sc_number_octets : FnScope ["number", "many", "octets", "rest", "_"] ["number", "many"] (defScope s_number_octets) := ⟨rfl, rfl, rfl, by decide +kernel, rfl, by decide +kernel, by decide +kernel⟩
def d_number_octets : He.DefD := ⟨("number_octets", none), "number_octets", "number_octets", defArgs s_number_octets, defBody s_number_octets, defScope s_number_octets, [], []⟩
abbrev s_word_octets : Stmt := topS 42
theorem sc_word_octets : FnScope ["word", "letter"] ["word"] (defScope s_word_octets) := ⟨rfl, rfl, rfl, by decide +kernel, rfl, by decide +kernel, by decide +kernel⟩
def d_word_octets : He.DefD := ⟨("word_octets", none), "word_octets", "word_octets", defArgs s_word_octets, defBody s_word_octets, defScope s_word_octets, [], []⟩
abbrev s_plain_octets : Stmt := topS 43
theorem sc_plain_octets : FnScope ["value"] ["value"] (defScope s_plain_octets) := ⟨rfl, rfl, rfl, by decide +kernel, rfl, by decide +kernel, by decide +kernel⟩
def d_plain_octets : He.DefD := ⟨("plain_octets", none), "plain_octets", "plain_octets", defArgs s_plain_octets, defBody s_plain_octets, defScope s_plain_octets, [], []⟩
abbrev s_check_of : Stmt := topS 47
theorem sc_check_of : FnScope ["octets", "low", "high", "octet"] ["octets"] (defScope s_check_of) := ⟨rfl, rfl, rfl, by decide +kernel, rfl, by decide +kernel, by decide +kernel⟩
def d_check_of : He.DefD := ⟨("check_of", none), "check_of", "check_of", defArgs s_check_of, defBody s_check_of, defScope s_check_of, [], []⟩
abbrev s_message_octets : Stmt := topS 48
theorem sc_message_octets : FnScope ["sender", "number", "changes", "octets", "change"] ["sender", "number", "changes"] (defScope s_message_octets) := ⟨rfl, rfl, rfl, by decide +kernel, rfl, by decide +kernel, by decide +kernel⟩
def d_message_octets : He.DefD := ⟨("message_octets", none), "message_octets", "message_octets", defArgs s_message_octets, defBody s_message_octets, defScope s_message_octets, [], []⟩
abbrev s_read_message : Stmt := topS 49
theorem sc_read_message : FnScope ["octets", "reader", "sender", "number", "many", "changes", "_", "high", "low"] ["octets"] (defScope s_read_message) := ⟨rfl, rfl, rfl, by decide +kernel, rfl, by decide +kernel, by decide +kernel⟩
def d_read_message : He.DefD := ⟨("read_message", none), "read_message", "read_message", defArgs s_read_message, defBody s_read_message, defScope s_read_message, [], []⟩
abbrev s_change_octets : Stmt := topS 50
theorem sc_change_octets : FnScope ["change", "clock", "peer", "name", "field", "value", "stamp_octets"] ["change"] (defScope s_change_octets) := ⟨rfl, rfl, rfl, by decide +kernel, rfl, by decide +kernel, by decide +kernel⟩
def d_change_octets : He.DefD := ⟨("_change_octets", none), "_change_octets", "_change_octets", defArgs s_change_octets, defBody s_change_octets, defScope s_change_octets, [], []⟩
abbrev s_name_octets : Stmt := topS 51
theorem sc_name_octets : FnScope ["name", "peer", "count"] ["name"] (defScope s_name_octets) := ⟨rfl, rfl, rfl, by decide +kernel, rfl, by decide +kernel, by decide +kernel⟩
def d_name_octets : He.DefD := ⟨("_name_octets", none), "_name_octets", "_name_octets", defArgs s_name_octets, defBody s_name_octets, defScope s_name_octets, [], []⟩
abbrev s_value_octets : Stmt := topS 52
theorem sc_value_octets : FnScope ["value"] ["value"] (defScope s_value_octets) := ⟨rfl, rfl, rfl, by decide +kernel, rfl, by decide +kernel, by decide +kernel⟩
def d_value_octets : He.DefD := ⟨("_value_octets", none), "_value_octets", "_value_octets", defArgs s_value_octets, defBody s_value_octets, defScope s_value_octets, [], []⟩
abbrev s_read_change : Stmt := topS 53
theorem sc_read_change : FnScope ["reader", "clock", "peer", "name", "field"] ["reader"] (defScope s_read_change) := ⟨rfl, rfl, rfl, by decide +kernel, rfl, by decide +kernel, by decide +kernel⟩
def d_read_change : He.DefD := ⟨("_read_change", none), "_read_change", "_read_change", defArgs s_read_change, defBody s_read_change, defScope s_read_change, [], []⟩
abbrev s_read_name : Stmt := topS 54
theorem sc_read_name : FnScope ["reader", "peer"] ["reader"] (defScope s_read_name) := ⟨rfl, rfl, rfl, by decide +kernel, rfl, by decide +kernel, by decide +kernel⟩
def d_read_name : He.DefD := ⟨("_read_name", none), "_read_name", "_read_name", defArgs s_read_name, defBody s_read_name, defScope s_read_name, [], []⟩
abbrev s_read_value : Stmt := topS 55
theorem sc_read_value : FnScope ["reader", "kind"] ["reader"] (defScope s_read_value) := ⟨rfl, rfl, rfl, by decide +kernel, rfl, by decide +kernel, by decide +kernel⟩
def d_read_value : He.DefD := ⟨("_read_value", none), "_read_value", "_read_value", defArgs s_read_value, defBody s_read_value, defScope s_read_value, [], []⟩
abbrev s_Replica_init : Stmt := inClass (topS 57) 0
theorem sc_Replica_init : FnScope ["self", "peer"] ["self", "peer"] (defScope s_Replica_init) := ⟨rfl, rfl, rfl, by decide +kernel, rfl, by decide +kernel, by decide +kernel⟩
def d_Replica_init : He.DefD := ⟨("Replica", some "__init__"), "__init__", "Replica.__init__", defArgs s_Replica_init, defBody s_Replica_init, defScope s_Replica_init, [], []⟩
abbrev s_Replica_begin : Stmt := inClass (topS 57) 2
theorem sc_Replica_begin : FnScope ["self"] ["self"] (defScope s_Replica_begin) := ⟨rfl, rfl, rfl, by decide +kernel, rfl, by decide +kernel, by decide +kernel⟩
def d_Replica_begin : He.DefD := ⟨("Replica", some "begin"), "begin", "Replica.begin", defArgs s_Replica_begin, defBody s_Replica_begin, defScope s_Replica_begin, [], []⟩
abbrev s_Replica_count : Stmt := inClass (topS 57) 7
theorem sc_Replica_count : FnScope ["self", "sender", "number"] ["self", "sender"] (defScope s_Replica_count) := ⟨rfl, rfl, rfl, by decide +kernel, rfl, by decide +kernel, by decide +kernel⟩
def d_Replica_count : He.DefD := ⟨("Replica", some "count"), "count", "Replica.count", defArgs s_Replica_count, defBody s_Replica_count, defScope s_Replica_count, [], []⟩
abbrev s_Replica_send : Stmt := inClass (topS 57) 10
theorem sc_Replica_send : FnScope ["self", "number"] ["self"] (defScope s_Replica_send) := ⟨rfl, rfl, rfl, by decide +kernel, rfl, by decide +kernel, by decide +kernel⟩
def d_Replica_send : He.DefD := ⟨("Replica", some "send"), "send", "Replica.send", defArgs s_Replica_send, defBody s_Replica_send, defScope s_Replica_send, [], []⟩
abbrev s_Replica_copy_of : Stmt := inClass (topS 57) 11
theorem sc_Replica_copy_of : FnScope ["self", "sender", "number"] ["self", "sender", "number"] (defScope s_Replica_copy_of) := ⟨rfl, rfl, rfl, by decide +kernel, rfl, by decide +kernel, by decide +kernel⟩
def d_Replica_copy_of : He.DefD := ⟨("Replica", some "copy_of"), "copy_of", "Replica.copy_of", defArgs s_Replica_copy_of, defBody s_Replica_copy_of, defScope s_Replica_copy_of, [], []⟩
abbrev s_Replica_accept : Stmt := inClass (topS 57) 12
theorem sc_Replica_accept : FnScope ["self", "sender", "number", "changes", "change"] ["self", "sender", "number", "changes"] (defScope s_Replica_accept) := ⟨rfl, rfl, rfl, by decide +kernel, rfl, by decide +kernel, by decide +kernel⟩
def d_Replica_accept : He.DefD := ⟨("Replica", some "accept"), "accept", "Replica.accept", defArgs s_Replica_accept, defBody s_Replica_accept, defScope s_Replica_accept, [], []⟩
abbrev s_Replica_last_number : Stmt := inClass (topS 57) 17
theorem sc_Replica_last_number : FnScope ["self", "sender", "number"] ["self"] (defScope s_Replica_last_number) := ⟨rfl, rfl, rfl, by decide +kernel, rfl, by decide +kernel, by decide +kernel⟩
def d_Replica_last_number : He.DefD := ⟨("Replica", some "_last_number"), "_last_number", "Replica._last_number", defArgs s_Replica_last_number, defBody s_Replica_last_number, defScope s_Replica_last_number, [], []⟩
abbrev s_Replica_take : Stmt := inClass (topS 57) 18
theorem sc_Replica_take : FnScope ["self", "change", "clock", "_", "peer", "count"] ["self", "change"] (defScope s_Replica_take) := ⟨rfl, rfl, rfl, by decide +kernel, rfl, by decide +kernel, by decide +kernel⟩
def d_Replica_take : He.DefD := ⟨("Replica", some "_take"), "_take", "Replica._take", defArgs s_Replica_take, defBody s_Replica_take, defScope s_Replica_take, [], []⟩
abbrev s_law_cell : Stmt := topS 59
theorem sc_law_cell : FnScope ["script", "k"] ["script", "k"] (defScope s_law_cell) := ⟨rfl, rfl, rfl, by decide +kernel, rfl, by decide +kernel, by decide +kernel⟩
def d_law_cell : He.DefD := ⟨("_law_cell", none), "_law_cell", "_law_cell", defArgs s_law_cell, defBody s_law_cell, defScope s_law_cell, [], []⟩
abbrev s_law_row : Stmt := topS 60
theorem sc_law_row : FnScope ["cell", "k", "many", "row", "turn", "seed"] ["cell", "k", "many"] (defScope s_law_row) := ⟨rfl, rfl, rfl, by decide +kernel, rfl, by decide +kernel, by decide +kernel⟩
def d_law_row : He.DefD := ⟨("_law_row", none), "_law_row", "_law_row", defArgs s_law_row, defBody s_law_row, defScope s_law_row, [], []⟩
abbrev s_law_box : Stmt := topS 61
theorem sc_law_box : FnScope ["script", "first", "last", "row", "k"] ["script", "first", "last"] (defScope s_law_box) := ⟨rfl, rfl, rfl, by decide +kernel, rfl, by decide +kernel, by decide +kernel⟩
def d_law_box : He.DefD := ⟨("_law_box", none), "_law_box", "_law_box", defArgs s_law_box, defBody s_law_box, defScope s_law_box, [], []⟩
abbrev s_law_draw : Stmt := topS 62
theorem sc_law_draw : FnScope ["box", "many", "at"] ["box", "many"] (defScope s_law_draw) := ⟨rfl, rfl, rfl, by decide +kernel, rfl, by decide +kernel, by decide +kernel⟩
def d_law_draw : He.DefD := ⟨("_law_draw", none), "_law_draw", "_law_draw", defArgs s_law_draw, defBody s_law_draw, defScope s_law_draw, [], []⟩
abbrev s_law_same : Stmt := topS 63
theorem sc_law_same : FnScope ["one", "other"] ["one", "other"] (defScope s_law_same) := ⟨rfl, rfl, rfl, by decide +kernel, rfl, by decide +kernel, by decide +kernel⟩
def d_law_same : He.DefD := ⟨("_law_same", none), "_law_same", "_law_same", defArgs s_law_same, defBody s_law_same, defScope s_law_same, [], []⟩
abbrev s_law_pick : Stmt := topS 64
theorem sc_law_pick : FnScope ["box", "row"] ["box", "row"] (defScope s_law_pick) := ⟨rfl, rfl, rfl, by decide +kernel, rfl, by decide +kernel, by decide +kernel⟩
def d_law_pick : He.DefD := ⟨("_law_pick", none), "_law_pick", "_law_pick", defArgs s_law_pick, defBody s_law_pick, defScope s_law_pick, [], []⟩
abbrev s_law_worth : Stmt := topS 65
theorem sc_law_worth : FnScope ["box", "names", "kind"] ["box", "names"] (defScope s_law_worth) := ⟨rfl, rfl, rfl, by decide +kernel, rfl, by decide +kernel, by decide +kernel⟩
def d_law_worth : He.DefD := ⟨("_law_worth", none), "_law_worth", "_law_worth", defArgs s_law_worth, defBody s_law_worth, defScope s_law_worth, [], []⟩
abbrev s_law_field : Stmt := topS 66
theorem sc_law_field : FnScope ["box"] ["box"] (defScope s_law_field) := ⟨rfl, rfl, rfl, by decide +kernel, rfl, by decide +kernel, by decide +kernel⟩
def d_law_field : He.DefD := ⟨("_law_field", none), "_law_field", "_law_field", defArgs s_law_field, defBody s_law_field, defScope s_law_field, [], []⟩
abbrev s_law_cells : Stmt := topS 67
theorem sc_law_cells : FnScope ["changes", "cells", "change", "key"] ["changes"] (defScope s_law_cells) := ⟨rfl, rfl, rfl, by decide +kernel, rfl, by decide +kernel, by decide +kernel⟩
def d_law_cells : He.DefD := ⟨("_law_cells", none), "_law_cells", "_law_cells", defArgs s_law_cells, defBody s_law_cells, defScope s_law_cells, [], []⟩
abbrev s_law_ranges : Stmt := topS 68
theorem sc_law_ranges : FnScope ["numbers", "found", "number"] ["numbers"] (defScope s_law_ranges) := ⟨rfl, rfl, rfl, by decide +kernel, rfl, by decide +kernel, by decide +kernel⟩
def d_law_ranges : He.DefD := ⟨("_law_ranges", none), "_law_ranges", "_law_ranges", defArgs s_law_ranges, defBody s_law_ranges, defScope s_law_ranges, [], []⟩
abbrev s_law_row_of : Stmt := topS 69
theorem sc_law_row_of : FnScope ["box", "numbers", "due", "kept", "k"] ["box"] (defScope s_law_row_of) := ⟨rfl, rfl, rfl, by decide +kernel, rfl, by decide +kernel, by decide +kernel⟩
def d_law_row_of : He.DefD := ⟨("_law_row_of", none), "_law_row_of", "_law_row_of", defArgs s_law_row_of, defBody s_law_row_of, defScope s_law_row_of, [], []⟩
abbrev s_law_messages : Stmt := topS 70
theorem sc_law_messages : FnScope ["box", "found", "clock", "turn", "key", "changes", "k", "name"] ["box"] (defScope s_law_messages) := ⟨rfl, rfl, rfl, by decide +kernel, rfl, by decide +kernel, by decide +kernel⟩
def d_law_messages : He.DefD := ⟨("_law_messages", none), "_law_messages", "_law_messages", defArgs s_law_messages, defBody s_law_messages, defScope s_law_messages, [], []⟩
abbrev s_law_some : Stmt := topS 71
theorem sc_law_some : FnScope ["box", "messages", "keys", "found", "key"] ["box", "messages"] (defScope s_law_some) := ⟨rfl, rfl, rfl, by decide +kernel, rfl, by decide +kernel, by decide +kernel⟩
def d_law_some : He.DefD := ⟨("_law_some", none), "_law_some", "_law_some", defArgs s_law_some, defBody s_law_some, defScope s_law_some, [], []⟩
abbrev s_law_told : Stmt := topS 72
theorem sc_law_told : FnScope ["keys", "sender", "key"] ["keys"] (defScope s_law_told) := ⟨rfl, rfl, rfl, by decide +kernel, rfl, by decide +kernel, by decide +kernel⟩
def d_law_told : He.DefD := ⟨("_law_told", none), "_law_told", "_law_told", defArgs s_law_told, defBody s_law_told, defScope s_law_told, [], []⟩
abbrev s_law_has : Stmt := topS 73
theorem sc_law_has : FnScope ["replica", "messages", "keys", "changes", "key"] ["replica", "messages", "keys"] (defScope s_law_has) := ⟨rfl, rfl, rfl, by decide +kernel, rfl, by decide +kernel, by decide +kernel⟩
def d_law_has : He.DefD := ⟨("_law_has", none), "_law_has", "_law_has", defArgs s_law_has, defBody s_law_has, defScope s_law_has, [], []⟩
abbrev s_law : Stmt := topS 74
theorem sc_law : FnScope ["script", "box", "turn", "messages", "replicas", "keys", "k", "key", "due", "mine", "octets", "row"] ["script"] (defScope s_law) := ⟨rfl, rfl, rfl, by decide +kernel, rfl, by decide +kernel, by decide +kernel⟩
def d_law : He.DefD := ⟨("law", none), "law", "law", defArgs s_law, defBody s_law, defScope s_law, [], []⟩
abbrev lv_wall : Nat := 1
abbrev lv_is_peer : Nat := 1
abbrev lv_reference : Nat := 1
abbrev lv_linked_name : Nat := 1
abbrev lv_ranges_of : Nat := 1
abbrev lv_numbers_of : Nat := 1
abbrev lv_told : Nat := 2
abbrev lv_lacking : Nat := 2
abbrev lv_answer : Nat := 9
abbrev lv_bring : Nat := 5
abbrev lv_numbers_without : Nat := 1
abbrev lv_CodeError_init : Nat := 2
abbrev lv_BadPeer_init : Nat := 3
abbrev lv_NoSuchMessage_init : Nat := 6
abbrev lv_is_later : Nat := 1
abbrev lv_sorted_changes : Nat := 3
abbrev lv_State_init : Nat := 1
abbrev lv_State_take : Nat := 2
abbrev lv_State_value : Nat := 1
abbrev lv_State_stamp : Nat := 1
abbrev lv_State_fields : Nat := 2
abbrev lv_State_names : Nat := 2
abbrev lv_State_changes : Nat := 4
abbrev lv_Reader_init : Nat := 1
abbrev lv_Reader_next_octet : Nat := 4
abbrev lv_Reader_next_number : Nat := 5
abbrev lv_Reader_next_word : Nat := 5
abbrev lv_Reader_next_plain : Nat := 6
abbrev lv_Reader_finish : Nat := 4
abbrev lv_Reader_check_order : Nat := 4
abbrev lv_number_octets : Nat := 1
abbrev lv_word_octets : Nat := 2
abbrev lv_plain_octets : Nat := 3
abbrev lv_check_of : Nat := 1
abbrev lv_message_octets : Nat := 6
abbrev lv_read_message : Nat := 9
abbrev lv_change_octets : Nat := 5
abbrev lv_name_octets : Nat := 2
abbrev lv_value_octets : Nat := 4
abbrev lv_read_change : Nat := 8
abbrev lv_read_name : Nat := 6
abbrev lv_read_value : Nat := 7
abbrev lv_Replica_init : Nat := 5
abbrev lv_Replica_begin : Nat := 1
abbrev lv_Replica_count : Nat := 1
abbrev lv_Replica_send : Nat := 9
abbrev lv_Replica_copy_of : Nat := 8
abbrev lv_Replica_accept : Nat := 4
abbrev lv_Replica_last_number : Nat := 1
abbrev lv_Replica_take : Nat := 3
abbrev lv_law_cell : Nat := 1
abbrev lv_law_row : Nat := 1
abbrev lv_law_box : Nat := 2
abbrev lv_law_draw : Nat := 1
abbrev lv_law_same : Nat := 1
abbrev lv_law_pick : Nat := 2
abbrev lv_law_worth : Nat := 3
abbrev lv_law_field : Nat := 2
abbrev lv_law_cells : Nat := 1
abbrev lv_law_ranges : Nat := 1
abbrev lv_law_row_of : Nat := 2
abbrev lv_law_messages : Nat := 4
abbrev lv_law_some : Nat := 2
abbrev lv_law_told : Nat := 2
abbrev lv_law_has : Nat := 3
abbrev lv_law : Nat := 10

/-! ### what the head tells -/
section
def exK (K : PySem.W.Frag) : Bool :=
  errB K (He.ga K "CodeError") && (decide (PySem.W.findIn K (.ref (He.ga K "CodeError")) "place" = some none) && (basB K (He.ga K "GraphtwinsError") &&
    (decide (PySem.W.exmOne K (.ref (He.ga K "CodeError")) (.ref (He.ga K "CodeError")) = some true) &&
        (decide (PySem.W.findIn K (.ref (He.ga K "CodeError")) "__init__" = some (some (.ref (He.ma K (He.ga K "CodeError") "__init__")))) && (decide (PySem.W.typeIn K (.ref (He.ma K (He.ga K "CodeError") "__init__")) = some (.type "function")) && He.tupB K "ROOT" [.int 0, .int 0])))))
end
/-! ### the head: facts by names, the run -/
def fn : List He.DefD := [d_is_peer, d_reference, d_linked_name, d_ranges_of, d_numbers_of, d_told, d_lacking, d_answer, d_bring, d_numbers_without, d_CodeError_init, d_BadPeer_init, d_NoSuchMessage_init, d_is_later, d_sorted_changes, d_State_init, d_State_take, d_State_value, d_State_stamp, d_State_fields, d_State_names, d_State_changes, d_Reader_init, d_Reader_next_octet, d_Reader_next_number, d_Reader_next_word, d_Reader_next_plain, d_Reader_finish, d_Reader_check_order, d_number_octets, d_word_octets, d_plain_octets, d_check_of, d_message_octets, d_read_message, d_change_octets, d_name_octets, d_value_octets, d_read_change, d_read_name, d_read_value, d_Replica_init, d_Replica_begin, d_Replica_count, d_Replica_send, d_Replica_copy_of, d_Replica_accept, d_Replica_last_number, d_Replica_take, d_law_cell, d_law_row, d_law_box, d_law_draw, d_law_same, d_law_pick, d_law_worth, d_law_field, d_law_cells, d_law_ranges, d_law_row_of, d_law_messages, d_law_some, d_law_told, d_law_has, d_law]
def fa0 : List He.Fa := [.glo "is_peer", .glo "reference", .glo "linked_name", .glo "ranges_of", .glo "numbers_of", .glo "told", .glo "lacking", .glo "answer", .glo "bring", .glo "_numbers_without", .glo "is_later", .glo "sorted_changes", .glo "number_octets", .glo "word_octets", .glo "plain_octets", .glo "check_of", .glo "message_octets", .glo "read_message", .glo "_change_octets", .glo "_name_octets", .glo "_value_octets", .glo "_read_change", .glo "_read_name", .glo "_read_value", .glo "_law_cell", .glo "_law_row", .glo "_law_box", .glo "_law_draw", .glo "_law_same", .glo "_law_pick"]
def fa1 : List He.Fa := [.glo "_law_worth", .glo "_law_field", .glo "_law_cells", .glo "_law_ranges", .glo "_law_row_of", .glo "_law_messages", .glo "_law_some", .glo "_law_told", .glo "_law_has", .glo "law", .free "len", .free "int", .free "range", .free "isinstance", .free "sorted", .free "list", .free "tuple", .free "dict", .free "str", .free "bool", .free "max", .free "min", .free "all", .free "any", .free "sum", .free "ord", .free "enumerate", .free "repr", .free "set", .int "GREATEST_PEER" (7)]
def fa2 : List He.Fa := [.int "GREATEST_COUNT" (4294967295), .int "LONGEST_FIELD" (8), .int "LONGEST_TEXT" (20), .int "LEAST_INTEGER" (-1000000), .int "GREATEST_INTEGER" (1000000), .int "GREATEST_CLOCK" (4294967295), .int "NOTHING" (0), .int "INTEGER" (1), .int "TEXT" (2), .int "OBJECT" (3), .str "LETTERS" "abcdefghijklmnopqrstuvwxyz", .int "FIRST_CODE" (97), .int "LAST_CODE" (122), .int "GREATEST_NUMBER" (4294967295), .int "MOST_CHANGES" (65535), .glo "GraphtwinsError", .glo "CodeError", .glo "BadPeer", .glo "NoSuchMessage", .glo "State", .cls "State", .noat "State" "cells", .mkr "State", .meth "State" "take", .meth "State" "value", .meth "State" "stamp", .meth "State" "fields", .meth "State" "names", .meth "State" "changes", .glo "Reader"]
def fa3 : List He.Fa := [.cls "Reader", .noat "Reader" "octets", .noat "Reader" "place", .mkr "Reader", .meth "Reader" "next_octet", .meth "Reader" "next_number", .meth "Reader" "next_word", .meth "Reader" "next_plain", .meth "Reader" "finish", .meth "Reader" "_check_order", .glo "Replica", .cls "Replica", .noat "Replica" "peer", .noat "Replica" "clock", .noat "Replica" "made", .noat "Replica" "state", .noat "Replica" "roots", .noat "Replica" "pending", .noat "Replica" "messages", .mkr "Replica", .meth "Replica" "begin", .meth "Replica" "count", .meth "Replica" "send", .meth "Replica" "copy_of", .meth "Replica" "accept", .meth "Replica" "_last_number", .meth "Replica" "_take", .glo "ROOT"]
def fa : List He.Fa := fa0 ++ fa1 ++ fa2 ++ fa3
def exB (K : PySem.W.Frag) : Bool := exK K
def tf : List He.Defn := []
abbrev R : PySem.W.OpenRow := PySem.W.OpenLaw.row PySem.Challenge.rw_graphtwins_k44_ranges
abbrev hk : PySem.W.Hook := GT.hookS 5 fa fn [] tf exB
def ob (s : PySem.W.SharedT) : He.AlX := GT.obsS 5 fa fn [] tf exB (HandSHeadRun.getT s)
theorem ob_eq (s : PySem.W.SharedT) : ob s = hk.obs s.abs := GT.obsS_eq (HandSHeadRun.getT_eq s)
def loose0 : List PySem.Str := ["_wall", "ROOT", "GREATEST_PEER", "GREATEST_COUNT", "LONGEST_FIELD", "LONGEST_TEXT", "LEAST_INTEGER", "GREATEST_INTEGER", "is_peer", "reference", "linked_name", "ranges_of", "numbers_of", "told", "lacking", "answer", "bring", "_numbers_without", "GraphtwinsError", "CodeError", "BadPeer", "NoSuchMessage", "GREATEST_CLOCK", "is_later", "sorted_changes", "State", "NOTHING", "INTEGER", "TEXT", "OBJECT"]
def loose1 : List PySem.Str := ["LETTERS", "FIRST_CODE", "LAST_CODE", "Reader", "number_octets", "word_octets", "plain_octets", "GREATEST_NUMBER", "MOST_CHANGES", "check_of", "message_octets", "read_message", "_change_octets", "_name_octets", "_value_octets", "_read_change", "_read_name", "_read_value", "Replica", "_law_cell", "_law_row", "_law_box", "_law_draw", "_law_same", "_law_pick", "_law_worth", "_law_field", "_law_cells", "_law_ranges", "_law_row_of"]
def loose2 : List PySem.Str := ["_law_messages", "_law_some", "_law_told", "_law_has"]
abbrev looseN : List PySem.Str := loose0 ++ loose1 ++ loose2
set_option maxHeartbeats 0 in
theorem run (w : World) : HandSHeadRun.RunEq R (PySem.W.view R.prog [74]) hk ob 6000 looseN w := by
  intro os
  kernel_rfl

section
variable {P : Program} {w : World} {K : PySem.W.Frag} {mg : Str → Option Value} {base : Heap}
/-! ### the box of draws -/
structure Box (K : PySem.W.Frag) (b dg : Addr) (H : Hp) : Prop where
  bx : ∃ z : Int, H b = some (.lst [.ref dg, .int z]) ∧ 0 ≤ z
  di : ∃ ns : List Int, H dg = some (.lst (ns.map V.int))
  ne : dg ≠ b
theorem Box.stp {b dg : Addr} {H H1 : Hp} {M : List Addr} (B : Box K b dg H) (s : Stp M H H1) (n1 : b ∉ M) (n2 : dg ∉ M) : Box K b dg H1 := by
  obtain ⟨⟨z, h, hz⟩, ⟨ns, d⟩, ne⟩ := B
  exact ⟨⟨z, s.keep _ _ h n1, hz⟩, ⟨ns, s.keep _ _ d n2⟩, ne⟩
theorem Box.grow {b dg : Addr} {H H1 : Hp} (B : Box K b dg H) (s : Stp [] H H1) : Box K b dg H1 := B.stp s (by simp) (by simp)
theorem Box.nin {b dg p : Addr} {H : Hp} (B : Box K b dg H) (hp : H p = none) : p ∉ [b] := by
  obtain ⟨⟨z, e, _⟩, _, _⟩ := B
  simp
  exact fun z => by rw [z, e] at hp; cases hp
theorem Box.dgn {b dg p : Addr} {H : Hp} (B : Box K b dg H) (hp : H p = none) : dg ≠ p := by
  obtain ⟨_, ⟨ns, h⟩, _⟩ := B
  rintro rfl
  rw [hp] at h; cases h
/-- what is written was not there yet -/
theorem Box.off {b dg p : Addr} {H0 H H1 : Hp} {M : List Addr} (B0 : Box K b dg H0) (B : Box K b dg H) (hp : H0 p = none) (s : Stp [p] H H1) : Box K b dg H1 :=
  B.stp s (fun z => B0.nin hp (by simpa using (List.mem_singleton.mp z).symm)) (fun z => B0.dgn hp (List.mem_singleton.mp z))
def spDraw (K : PySem.W.Frag) : Sp := fun vs H Q _ => ∃ (b dg : Addr) (m : Int), vs = [.ref b, .int m] ∧ 0 < m ∧ Box K b dg H ∧
  ∀ (d : Int) (H1 : Hp), 0 ≤ d → d < m → Stp [b] H H1 → Box K b dg H1 → Q (.int d) H1
theorem cal_draw (F : Df K mg d_law_draw) (B : Blt mg) : Cal P w K mg base lv_law_draw "_law_draw" ["box", "many"] (spDraw K) := by
  obtain ⟨f, fd, F, g⟩ := F
  refine ⟨f, fd, F.ok sc_law_draw (fun vs H Q E h => ?_) (fun cdv A outer s H vs Q E hr h => ⟨_, PSs.nox
    (pss_cons (ps_set (i := 2) sc_law_draw.nd rfl (Or.inl rfl) (pe_ix (ix_listK (K := K) rfl) (pv 0) pe_int (fun _ _ => rfl)))
    (pss_cons (ps_asg (pe_op op_add (pv 2) pe_int) (pg_sub (pv 0) pe_int set_list))
    (pss_cons (ps_if (pt_cmpR op_lt (pv 2) (pe_callB call_len_seq (by rfl) B.len boot_len (pa_cons (pe_ix (ix_listK (K := K) rfl) (pv 0) pe_int (fun _ _ => rfl)) pa_nil)) (nomark _))
      (pss_one (ps_ret (pe_op op_mod (pe_callTy call_int1 (by rfl) B.int boot_int (pa_cons (pe_ix (ix_listK (K := K) rfl) (pe_ix (ix_listK (K := K) rfl) (pv 0) pe_int (fun _ _ => rfl)) (pv 2) (fun _ _ => rfl)) pa_nil)) (pv 1))))
      pss_nil)
    (pss_one (ps_ret (pe_op op_mod (pe_callTy call_int1 (by rfl) B.int boot_int (pa_cons (pe_op op_add (pe_op op_mul (pv 2) pe_int) pe_int) pa_nil)) (pv 1))))))), ?_⟩), g, F.kp, F.bindsN fun _ _ _ _ _ _ us hl => match us, hl with | [_, _], _ => rfl⟩
  · obtain ⟨b, dg, m, rfl, _⟩ := h
    rfl
  · obtain ⟨b, dg, m, rfl, hm, ⟨⟨z, hb, hz⟩, ⟨ns, hd⟩, ne⟩, q⟩ := h
    have st : Stp [b] H (upd H b (.lst [.ref dg, .int (z + 1)])) := .wr (by simp) hb fun _ e => by cases e
    have hd0 := st.keep _ _ hd (by simp [ne])
    have hd1 : SqL K (upd H b (.lst [.ref dg, .int (z + 1)])) dg (ns.map V.int) := SqL.of hd0
    have B1 : Box K b dg (upd H b (.lst [.ref dg, .int (z + 1)])) := ⟨⟨z + 1, upd_same, by omega⟩, ⟨ns, hd0⟩, ne⟩
    refine ⟨_, rfl, _, _, _, _, rfl, rfl, SqL.of hb, atI_nat (j := 1) rfl, ?_⟩
    refine ⟨_, rfl, _, _, rfl, rfl, _, rfl, _, _, _, 1, rfl, rfl, hb, rfl, ?_⟩
    refine ⟨_, rfl, _, rfl, _, _, _, _, rfl, rfl, SqL.of upd_same, atI_nat (j := 0) rfl, _, _, rfl, .inl hd1, _, _, rfl, rfl, _, rfl, ?_⟩
    refine i_iteD (fun hlt => ?_) (fun _ => ?_)
    · have hl : z.toNat < ns.length := by rw [List.length_map] at hlt; omega
      have he : atI (ns.map V.int) z = some (.int ns[z.toNat]) := at_of (j := z.toNat) (by omega) (by rw [List.getElem?_map, List.getElem?_eq_getElem hl]; rfl)
      refine ⟨_, rfl, _, _, _, _, rfl, rfl, SqL.of upd_same, atI_nat (j := 0) rfl, _, rfl, _, _, _, _, rfl, rfl, hd1, he, .inl ⟨_, rfl, _, rfl, _, _, rfl, rfl, hm, ?_⟩⟩
      exact q _ _ (Int.emod_nonneg _ (by omega)) (Int.emod_lt_of_pos _ hm) st B1
    · refine ⟨_, rfl, _, _, rfl, rfl, .inr ⟨by decide, by decide⟩, _, _, rfl, rfl, .inl ⟨_, rfl, _, rfl, _, _, rfl, rfl, hm, ?_⟩⟩
      exact q _ _ (Int.emod_nonneg _ (by omega)) (Int.emod_lt_of_pos _ hm) st B1
end

section
variable {P : Program} {w : World} {K : PySem.W.Frag} {mg : Str → Option Value} {base : Heap}
/-! ### the digits of the cells (laws with _law_row, _law_box) -/
def spCel (K : PySem.W.Frag) : Sp := fun vs H Q _ => ∃ (l : Addr) (ns : List Int) (k : Int), vs = [.ref l, .int k] ∧ 0 ≤ k ∧ SqL K H l (ns.map V.int) ∧ ∀ i : Int, Q (.int i) H
theorem cal_cell (F : Df K mg d_law_cell) (B : Blt mg) : Cal P w K mg base lv_law_cell "_law_cell" ["script", "k"] (spCel K) := by
  obtain ⟨f, fd, F, g⟩ := F
  refine ⟨f, fd, F.ok sc_law_cell (fun vs H Q E h => ?_) (fun cdv A outer s H vs Q E hr h => ⟨_, PSs.nox
    (pss_cons (ps_if (pt_cmpR op_lt (pv 1) (pe_callB call_len_seq (by rfl) B.len boot_len (pa_cons (pv 0) pa_nil)) (nomark _))
      (pss_one (ps_ret (pe_ix (ix_listK (K := K) rfl) (pv 0) (pv 1) (fun _ _ => rfl))))
      pss_nil)
    (pss_one (ps_ret pe_int))), ?_⟩), g, F.kp, F.bindsN fun _ _ _ _ _ _ us hl => match us, hl with | [_, _], _ => rfl⟩
  · obtain ⟨l, ns, k, rfl, _⟩ := h
    rfl
  · obtain ⟨l, ns, k, rfl, hk, hs, q⟩ := h
    refine ⟨_, rfl, _, rfl, _, _, rfl, .inl hs, _, _, rfl, rfl, _, rfl, ?_⟩
    refine i_iteD (fun hlt => ?_) (fun _ => ?_)
    · have hl : k.toNat < ns.length := by rw [List.length_map] at hlt; omega
      exact ⟨_, rfl, _, rfl, _, _, _, _, rfl, rfl, hs, at_of (j := k.toNat) (by omega) (by rw [List.getElem?_map, List.getElem?_eq_getElem hl]; rfl), q _⟩
    · exact q 0
theorem map_snoc (ds : List Int) (d : Int) : ds.map V.int ++ [V.int d] = (ds ++ [d]).map V.int := by simp
def spRow : Sp := fun vs H Q _ => ∃ (c k m : Int), vs = [.int c, .int k, .int m] ∧ 0 ≤ k ∧ k ≤ 1000 ∧ 0 ≤ m ∧ m ≤ 1000 ∧
  ∀ (p : Addr) (ds : List Int) (H1 : Hp), H p = none → H1 p = some (.lst (ds.map V.int)) → ds.length ≤ 1000 → Stp [] H H1 → Q (.ref p) H1
theorem cal_row (F : Df K mg d_law_row) (B : Blt mg) : Cal P w K mg base lv_law_row "_law_row" ["cell", "k", "many"] spRow := by
  obtain ⟨f, fd, F, g⟩ := F
  refine ⟨f, fd, F.ok sc_law_row (fun vs H Q E h => ?_) (fun cdv A outer s H vs Q E hr h => ⟨_, PSs.nox
    (pss_cons (ps_set (i := 3) sc_law_row.nd rfl (Or.inl rfl) (pe_lst pa_nil))
    (C8.pss_cut (ps_if (pt_cmpR op_lt (pv 0) pe_int (nomark _))
      (pss_one (ps_set (i := 0) sc_law_row.nd rfl (Or.inl rfl) (pe_op op_sub pe_int (pe_op op_mul pe_int (pv 0)))))
      pss_nil)
    (pss_cons (ps_if (pt_cmpR op_ge (pv 0) (pe_op op_pow pe_int pe_int) (nomark _))
      (pss_cons (ps_for PassesOwn.never rfl (pi_range1 rfl B.range (pa_cons pe_int pa_nil)) (pg_name (i := 4) sc_law_row.nd rfl (Or.inl rfl))
          (pss_one (ps_if (PW.pt (pw_and (pt_cmpR op_gt (pv 0) pe_int (nomark _)) (pw_and1 (pt_cmpR op_lt (pe_callB call_len_seq (by rfl) B.len boot_len (pa_cons (pv 3) pa_nil)) (pv 2) (nomark _)))))
              (pss_cons (ps_expr (pe_bm PySem.F.plainAttrs_list PySem.F.slot_list_append PySem.F.type_list_append mt_append (pv 3) (pa_cons (pe_op op_mod (pe_callTy call_int1 (by rfl) B.int boot_int (pa_cons (pv 0) pa_nil)) pe_int) pa_nil)))
                (pss_one (ps_set (i := 0) sc_law_row.nd rfl (Or.inl rfl) (pe_op op_fdiv (pv 0) pe_int))))
              pss_nil)))
        (pss_one (ps_ret (pv 3))))
      pss_nil)
    (pss_cons (ps_set (i := 5) sc_law_row.nd rfl (Or.inl rfl) (pe_op op_mod (pe_callTy call_int1 (by rfl) B.int boot_int (pa_cons (pe_op op_add (pe_op op_add (pe_op op_mul (pv 0) pe_int) (pe_op op_mul (pv 1) pe_int)) pe_int) pa_nil)) pe_int))
    (pss_cons (ps_for PassesOwn.never rfl (pi_range1 rfl B.range (pa_cons (pv 2) pa_nil)) (pg_name (i := 4) sc_law_row.nd rfl (Or.inl rfl))
      (pss_cons (ps_set (i := 5) sc_law_row.nd rfl (Or.inl rfl) (pe_op op_mod (pe_callTy call_int1 (by rfl) B.int boot_int (pa_cons (pe_op op_add (pe_op op_add (pe_op op_mul (pv 5) pe_int) (pe_op op_mul pe_int (pv 4))) pe_int) pa_nil)) pe_int))
        (pss_one (ps_expr (pe_bm PySem.F.plainAttrs_list PySem.F.slot_list_append PySem.F.type_list_append mt_append (pv 3) (pa_cons (pe_op op_mod (pe_callTy call_int1 (by rfl) B.int boot_int (pa_cons (pe_op op_fdiv (pv 5) pe_int) pa_nil)) pe_int) pa_nil))))))
    (pss_one (ps_ret (pv 3)))))))), ?_⟩), g, F.kp, F.bindsN fun _ _ _ _ _ _ us hl => match us, hl with | [_, _, _], _ => rfl⟩
  · obtain ⟨c, k, m, rfl, _⟩ := h
    rfl
  · obtain ⟨c0, k, m, rfl, hk0, hk, hm0, hm, q⟩ := h
    refine ⟨Nat.zero_le _, fun p hp => ?_⟩
    have s1 : Stp [] H (upd H p (.lst [])) := .new hp
    have h1 : (upd H p (.lst [])) p = some (.lst (([] : List Int).map V.int)) := upd_same
    generalize upd H p (.lst []) = H1 at s1 h1 ⊢
    refine ⟨fun σ2 H2 => H2 = H1 ∧ ∃ c : Int, 0 ≤ c ∧ σ2 = [some (.int c), some (.int k), some (.int m), some (.ref p), none, none], ?_, ?_⟩
    · refine ⟨_, rfl, _, _, rfl, rfl, _, rfl, i_iteD (fun hc => ?_) (fun hc => ?_)⟩
      · refine ⟨_, rfl, _, _, rfl, rfl, .inl ⟨by decide, by decide⟩, _, _, rfl, rfl, rfl, 1 - 2 * c0, by omega, rfl⟩
      · exact ⟨rfl, c0, by omega, rfl⟩
    · rintro σ2 H2 ⟨rfl, c, hc, rfl⟩
      refine ⟨_, rfl, _, _, rfl, rfl, ⟨by decide, by decide, by decide⟩, _, _, rfl, rfl, _, rfl, i_iteD (fun hbig => ?_) (fun hsm => ?_)⟩
      · refine ⟨60, rfl, by decide, by decide, ?_⟩
        refine for_range (lo := 0) (n := 60) (fun j σ3 H3 => ∃ (y6 : Option V) (c : Int) (es : List Int), σ3 = [some (.int c), some (.int k), some (.int m), some (.ref p), y6, none] ∧ Stp [] H H3 ∧ H3 p = some (.lst (es.map V.int)) ∧ es.length ≤ j)
          ⟨none, c, [], rfl, s1, h1, Nat.zero_le _⟩ ?_ ?_
        · rintro j σ3 H3 hj ⟨z6, c1, es, rfl, s3, h3, hl3⟩
          repeat walk_at "h"
          refine i_iteD (fun hpos => ?_) (fun _ => ?_)
          · repeat walk_at "h"
            refine ⟨p, _, rfl, .inl (SqL.of h3), ?_⟩
            repeat walk_at "h"
            refine i_iteD (fun hl => ?_) (fun _ => ?_)
            · refine ⟨_, rfl, .inl ⟨rfl, _, SqL.of h3⟩, _, rfl, .inl ⟨_, rfl, _, _, rfl, rfl, (by show (0 : Int) < 1000; decide), _, _, _, rfl, rfl, h3, ?_, ?_⟩⟩
              · rw [List.length_map]; exact Nat.lt_of_le_of_lt (show es.length ≤ 70000 by omega) (by decide)
              · refine ⟨_, rfl, _, _, rfl, rfl, ⟨by decide, by decide⟩, _, _, es ++ [c1 % 1000], rfl, s3.mut hp, ?_, ?_⟩
                · rw [upd_same, map_snoc]
                · rw [List.length_append, List.length_singleton]; omega
            · exact ⟨_, c1, es, rfl, s3, h3, by omega⟩
          · exact ⟨_, c1, es, rfl, s3, h3, by omega⟩
        · rintro σ3 H3 ⟨z6, c1, es, rfl, s3, h3, hl3⟩
          exact ⟨_, rfl, q p es H3 hp h3 (by omega) s3⟩
      · have hc18 : c < 1000000000000000000 := by
          have e : (10 : Int) ^ (18 : Int).toNat = 1000000000000000000 := by decide
          rw [e] at hsm; omega
        repeat walk_at "h"
        refine .inl ⟨_, rfl, ?_⟩
        repeat walk_at "h"
        refine ⟨m, rfl, by omega, by omega, ?_⟩
        refine for_range (lo := 0) (n := m.toNat) (fun j σ3 H3 => ∃ (y6 : Option V) (sd : Int) (es : List Int), σ3 = [some (.int c), some (.int k), some (.int m), some (.ref p), y6, some (.int sd)] ∧ 0 ≤ sd ∧ sd < 2147483647 ∧ Stp [] H H3 ∧ H3 p = some (.lst (es.map V.int)) ∧ es.length ≤ j)
          ⟨none, _, [], rfl, Int.emod_nonneg _ (by decide), Int.emod_lt_of_pos _ (by decide), s1, h1, Nat.zero_le _⟩ ?_ ?_
        · rintro j σ3 H3 hj ⟨z6, sd, es, rfl, hs0, hs1, s3, h3, hl3⟩
          refine ⟨_, rfl, _, _, rfl, rfl, .inl ⟨by omega, by omega⟩, _, rfl, _, _, rfl, rfl, .inl ⟨by decide, by decide⟩, _, _, rfl, rfl, _, _, rfl, rfl, .inl ⟨_, rfl, _, _, rfl, rfl, (by show (0 : Int) < 2147483647; decide), ?_⟩⟩
          refine ⟨_, rfl, .inl ⟨rfl, _, SqL.of h3⟩, _, rfl, _, _, rfl, rfl, ⟨by decide, by decide⟩, .inl ⟨_, rfl, _, _, rfl, rfl, (by show (0 : Int) < 1000; decide), _, _, _, rfl, rfl, h3, ?_, ?_⟩⟩
          · rw [List.length_map]; exact Nat.lt_of_le_of_lt (show es.length ≤ 70000 by omega) (by decide)
          · refine ⟨_, _, es ++ [(sd * 16807 + 7 * (0 + (j : Int)) + 1) % 2147483647 / 997 % 1000], rfl, Int.emod_nonneg _ (by decide), Int.emod_lt_of_pos _ (by decide), s3.mut hp, ?_, ?_⟩
            · rw [upd_same, map_snoc]
            · rw [List.length_append, List.length_singleton]; omega
        · rintro σ3 H3 ⟨z6, sd, es, rfl, hs0, hs1, s3, h3, hl3⟩
          exact ⟨_, rfl, q p es H3 hp h3 (by omega) s3⟩
def spBox (K : PySem.W.Frag) : Sp := fun vs H Q _ => ∃ (l : Addr) (ns : List Int) (a b : Int), vs = [.ref l, .int a, .int b] ∧ 0 ≤ a ∧ a ≤ b ∧ b ≤ 100 ∧ SqL K H l (ns.map V.int) ∧
  ∀ (p dg : Addr) (H1 : Hp), H p = none → H dg = none → Box K p dg H1 → Stp [] H H1 → Q (.ref p) H1
theorem cal_box (F : Df K mg d_law_box) (B : Blt mg) (C_law_cell : Cal P w K mg base lv_law_cell "_law_cell" ["script", "k"] (spCel K)) (C_law_row : Cal P w K mg base lv_law_row "_law_row" ["cell", "k", "many"] spRow) : Cal P w K mg base lv_law_box "_law_box" ["script", "first", "last"] (spBox K) := by
  obtain ⟨f, fd, F, g⟩ := F
  refine ⟨f, fd, F.ok sc_law_box (fun vs H Q E h => ?_) (fun cdv A outer s H vs Q E hr h => ⟨_, PSs.nox
    (pss_cons (ps_set (i := 3) sc_law_box.nd rfl (Or.inl rfl) (pe_lst pa_nil))
    (pss_cons (ps_for PassesOwn.never rfl (pi_range2 rfl B.range (pa_cons (pv 1) (pa_cons (pv 2) pa_nil))) (pg_name (i := 4) sc_law_box.nd rfl (Or.inl rfl))
      (pss_one (ps_set (i := 3) sc_law_box.nd rfl (Or.inl rfl) (pe_op op_cat (pv 3) (pc_call C_law_row (hr.mono (by decide)) (by rfl) (pa_cons (pc_call C_law_cell (hr.mono (by decide)) (by rfl) (pa_cons (pv 0) (pa_cons (pv 4) pa_nil))) (pa_cons (pv 4) (pa_cons pe_int pa_nil))))))))
    (pss_one (ps_ret (pe_lst (pa_cons (pv 3) (pa_cons pe_int pa_nil))))))), ?_⟩), g, F.kp, F.bindsN fun _ _ _ _ _ _ us hl => match us, hl with | [_, _, _], _ => rfl⟩
  · obtain ⟨l, ns, a, b, rfl, _⟩ := h
    rfl
  · obtain ⟨l, ns, a, b, rfl, ha, hab, hb, hs, q⟩ := h
    refine ⟨Nat.zero_le _, fun p hp => ?_⟩
    have s1 : Stp [] H (upd H p (.lst [])) := .new hp
    have h1 : (upd H p (.lst [])) p = some (.lst (([] : List Int).map V.int)) := upd_same
    generalize upd H p (.lst []) = H1 at s1 h1 ⊢
    repeat walk_at "h"
    refine ⟨a, b, rfl, ⟨by omega, by omega, by omega, by omega⟩, ?_⟩
    refine for_range (lo := a) (n := (b - a).toNat) (fun i σ H' => ∃ (p' : Addr) (y4 : Option V) (ds : List Int), σ = [some (.ref l), some (.int a), some (.int b), some (.ref p'), y4] ∧ Stp [] H H' ∧ H p' = none ∧ H' p' = some (.lst (ds.map V.int)) ∧ ds.length ≤ 1000 * i)
      ⟨p, none, [], rfl, s1, hp, h1, Nat.zero_le _⟩ ?_ ?_
    · rintro i σ H' hi ⟨p', y4, ds, rfl, s', hp', hd, hl⟩
      repeat walk_at "h"
      refine ⟨l, ns, a + (i : Int), rfl, by omega, s'.seq hs (by simp), fun c0 => ?_⟩
      repeat walk_at "h"
      refine ⟨c0, a + (i : Int), 12, rfl, by omega, by omega, by decide, by decide, fun p2 ds2 H2 n2 e2 l2 s2 => ?_⟩
      have hd2 := s2.keep _ _ hd (by simp)
      have s02 := s'.trans s2
      refine ⟨p', p2, _, _, rfl, rfl, hd2, e2, ?_, fun p3 n3 => ?_⟩
      · rw [List.length_map, List.length_map]
        exact Nat.le_trans (show ds.length + ds2.length ≤ 200000 by omega) (by decide)
      · repeat walk_at "h"
        refine ⟨p3, _, ds ++ ds2, rfl, s02.add n3, s02.free n3 (by simp), by rw [upd_same, List.map_append], ?_⟩
        rw [List.length_append]; omega
    · rintro σ H' ⟨p', y4, ds, rfl, s', hp', hd, hl⟩
      repeat walk_at "h"
      refine ⟨(by decide : 2 ≤ sizeLine), fun p3 n3 => ?_⟩
      have ne : p' ≠ p3 := by rintro rfl; rw [n3] at hd; cases hd
      exact q p3 p' _ (s'.free n3 (by simp)) hp' ⟨⟨0, upd_same, Int.le_refl _⟩, ⟨ds, by rw [upd_ne ne]; exact hd⟩, ne⟩ (s'.add n3)
end

/-! ### names, values -/
abbrev Nm := Int × Int
abbrev nmD (n : Nm) : Dt := .tup [.num n.1, .num n.2]
theorem nmAt {K : PySem.W.Frag} {H : Hp} {v : V} {n : Nm} (h : DtAt K H v (nmD n)) : ∃ a, v = .ref a ∧ TupAt K H a [.int n.1, .int n.2] := by
  cases h with
  | @tup a xs _ h1 h2 =>
    cases h2 with
    | cons r1 t =>
      cases t with
      | cons r2 t =>
        cases t
        cases r1
        cases r2
        exact ⟨a, rfl, h1⟩
theorem nm_mk {K : PySem.W.Frag} {H : Hp} {a : Addr} {n : Nm} (h : H a = some (.tup [.int n.1, .int n.2])) : DtAt K H (.ref a) (nmD n) := .tup (.inl h) (.cons (.num _) (.cons (.num _) .nil))
def okPeer (p : Int) : Bool := decide (0 ≤ p) && decide (p ≤ 7)
def okName (n : Nm) : Bool := okPeer n.1 && (decide (0 ≤ n.2) && decide (n.2 ≤ 4294967295))
structure Con0 (mg : Str → Option Value) : Prop where
  GREATEST_PEER : ∃ t, mg "GREATEST_PEER" = some (.int 7 t)
  GREATEST_COUNT : ∃ t, mg "GREATEST_COUNT" = some (.int 4294967295 t)
  LONGEST_FIELD : ∃ t, mg "LONGEST_FIELD" = some (.int 8 t)
  LONGEST_TEXT : ∃ t, mg "LONGEST_TEXT" = some (.int 20 t)
  LEAST_INTEGER : ∃ t, mg "LEAST_INTEGER" = some (.int (-1000000) t)
  GREATEST_INTEGER : ∃ t, mg "GREATEST_INTEGER" = some (.int 1000000 t)
section
variable {P : Program} {w : World} {K : PySem.W.Frag} {mg : Str → Option Value} {base : Heap}
def spIsPeer : Sp := fun vs H Q _ => ∃ n : Int, vs = [.int n] ∧ Q (.bl (okPeer n)) H
theorem cal_is_peer (F : Df K mg d_is_peer) (N : Con0 mg) : Cal P w K mg base lv_is_peer "is_peer" ["number"] spIsPeer := by
  obtain ⟨f, fd, F, g⟩ := F
  refine ⟨f, fd, F.ok sc_is_peer (fun vs H Q E h => ?_) (fun cdv A outer s H vs Q E hr h => ⟨_, PSs.nox
    (pss_one (ps_ret (pe_chain op_le op_le pe_int (pv 0) (pe_gi rfl N.GREATEST_PEER)))), ?_⟩), g, F.kp, F.bindsN fun _ _ _ _ _ _ us hl => match us, hl with | [_], _ => rfl⟩
  · obtain ⟨n, rfl, _⟩ := h
    rfl
  · obtain ⟨n, rfl, q⟩ := h
    repeat walk_at "g"
    exact q
def spIsName (K : PySem.W.Frag) : Sp := fun vs H Q _ => ∃ (v : V) (n : Nm), vs = [v] ∧ DtAt K H v (nmD n) ∧ Q (.bl (okName n)) H
def plainC (c : Nat) : Bool := decide (97 ≤ c) && decide (c ≤ 122)
def plain (z : Str) : Bool := z.cps.toList.all plainC
def spPlain : Sp := fun vs H Q _ => ∃ z : Str, vs = [.str z] ∧ z.length ≤ 1000 ∧ ∀ H1, Stp [] H H1 → Q (.bl (plain z)) H1
end

/-! ### values -/
inductive Va where
  | non
  | num (i : Int)
  | txt (x : Str)
  | tg (s : Str) (n : Nm)
  deriving DecidableEq
def vaD : Va → Dt
  | .non => .non
  | .num i => .num i
  | .txt x => .txt x
  | .tg s n => .tup [.txt s, nmD n]
theorem vaD_flat (x : Va) : (vaD x).flat = true := by cases x <;> simp [vaD, Dt.flat, Dt.flatAll]
theorem vaD_depth (x : Va) : (vaD x).depth ≤ 2 := by cases x <;> simp [vaD, Dt.depth, Dt.depthAll]
theorem vaD_pure (x : Va) : (vaD x).pure = true := by cases x <;> simp [vaD, Dt.pure, Dt.pureAll]
theorem nmD_inj {a b : Nm} (h : nmD a = nmD b) : a = b := by
  injection h with h; injection h with h1 h; injection h with h2 _; injection h1 with h1; injection h2 with h2
  exact Prod.ext h1 h2
theorem vaD_inj {a b : Va} (h : vaD a = vaD b) : a = b := by
  cases a <;> cases b <;> simp only [vaD, Dt.num.injEq, Dt.txt.injEq, Dt.tup.injEq, List.cons.injEq, and_true, reduceCtorEq, Prod.mk.injEq, Va.num.injEq, Va.txt.injEq, Va.tg.injEq] at h ⊢
  · exact h
  · exact h
  · exact ⟨h.1, Prod.ext h.2.1 h.2.2⟩
theorem tgAt {K : PySem.W.Frag} {H : Hp} {v : V} {s : Str} {n : Nm} (h : DtAt K H v (vaD (.tg s n))) : ∃ a b, v = .ref a ∧ TupAt K H a [.str s, .ref b] ∧ DtAt K H (.ref b) (nmD n) := by
  cases h with
  | @tup a xs _ h1 h2 =>
    cases h2 with
    | cons r1 t =>
      cases t with
      | @cons v2 _ _ _ r2 t =>
        cases t
        cases r1
        obtain ⟨b, rfl, hb⟩ := nmAt r2
        exact ⟨a, b, rfl, h1, r2⟩
theorem nonAt {K : PySem.W.Frag} {H : Hp} {v : V} (h : DtAt K H v .non) : v = .non := by cases h; rfl
theorem numAt {K : PySem.W.Frag} {H : Hp} {v : V} {i : Int} (h : DtAt K H v (.num i)) : v = .int i := by cases h; rfl
theorem txtAt {K : PySem.W.Frag} {H : Hp} {v : V} {x : Str} (h : DtAt K H v (.txt x)) : v = .str x := by cases h; rfl
abbrev strRef : Str := Str.ofString "ref"
def okField (z : Str) : Bool := (decide ((1 : Int) ≤ (z.length : Int)) && decide ((z.length : Int) ≤ 8)) && plain z
def okRef : Va → Bool
  | .tg s n => decide (s = strRef) && okName n
  | _ => false
def okVa : Va → Bool
  | .non => true
  | .num i => decide (-1000000 ≤ i) && decide (i ≤ 1000000)
  | .txt z => decide ((z.length : Int) ≤ 20) && plain z
  | .tg s n => decide (s = strRef) && okName n
/-- texts that can be measured -/
def smallVa : Va → Prop
  | .txt z => z.length ≤ 1000
  | _ => True
section
variable {P : Program} {w : World} {K : PySem.W.Frag} {mg : Str → Option Value} {base : Heap}
def spIsField : Sp := fun vs H Q _ => ∃ z : Str, vs = [.str z] ∧ z.length ≤ 1000 ∧ ∀ H1, Stp [] H H1 → Q (.bl (okField z)) H1
def spReference (K : PySem.W.Frag) : Sp := fun vs H Q _ => ∃ (v : V) (n : Nm), vs = [v] ∧ DtAt K H v (nmD n) ∧ ∀ u H1, Stp [] H H1 → DtAt K H1 u (vaD (.tg strRef n)) → Q u H1
theorem cal_reference (F : Df K mg d_reference) : Cal P w K mg base lv_reference "reference" ["name"] (spReference K) := by
  obtain ⟨f, fd, F, g⟩ := F
  refine ⟨f, fd, F.ok sc_reference (fun vs H Q E h => ?_) (fun cdv A outer s H vs Q E hr h => ⟨_, PSs.nox
    (pss_one (ps_ret (pe_tup (pa_cons pe_str (pa_cons (pv 0) pa_nil))))), ?_⟩), g, F.kp, F.bindsN fun _ _ _ _ _ _ us hl => match us, hl with | [_], _ => rfl⟩
  · obtain ⟨v, n, rfl, _⟩ := h
    rfl
  · obtain ⟨v, n, rfl, hn, q⟩ := h
    repeat walk_at "g"
    refine ⟨(by decide : 2 ≤ sizeLine), fun p hp => ?_⟩
    have s1 : Stp [] H (upd H p (.tup [.str strRef, v])) := .new hp
    exact q _ _ s1 (.tup (.inl upd_same) (.cons (.txt _) (.cons (DtAt.stp s1 _ _ rfl hn) .nil)))
def spIsRef (K : PySem.W.Frag) : Sp := fun vs H Q _ => ∃ (v : V) (x : Va), vs = [v] ∧ DtAt K H v (vaD x) ∧ Q (.bl (okRef x)) H
def spTarget (K : PySem.W.Frag) : Sp := fun vs H Q _ => ∃ (v : V) (x : Va), vs = [v] ∧ DtAt K H v (vaD x) ∧ ∀ u, (okRef x = false → u = .non) → (∀ s n, x = .tg s n → okRef x = true → DtAt K H u (nmD n)) → Q u H
def spIsValue (K : PySem.W.Frag) : Sp := fun vs H Q _ => ∃ (v : V) (x : Va), vs = [v] ∧ DtAt K H v (vaD x) ∧ smallVa x ∧ ∀ H1, Stp [] H H1 → Q (.bl (okVa x)) H1
end

/-! ### stamps, changes -/
structure Con1 (mg : Str → Option Value) : Prop where
  GREATEST_CLOCK : ∃ t, mg "GREATEST_CLOCK" = some (.int 4294967295 t)
def okStamp (n : Nm) : Bool := (decide (1 ≤ n.1) && decide (n.1 ≤ 4294967295)) && okPeer n.2
structure Ch where
  st : Nm
  nm : Nm
  fd : Str
  va : Va
  deriving DecidableEq
def chD (c : Ch) : Dt := .tup [nmD c.st, nmD c.nm, .txt c.fd, vaD c.va]
theorem chD_flat (c : Ch) : (chD c).flat = true := by simp [chD, Dt.flat, Dt.flatAll, vaD_flat]
theorem chD_pure (c : Ch) : (chD c).pure = true := by simp [chD, Dt.pure, Dt.pureAll, vaD_pure]
theorem chD_depth (c : Ch) : (chD c).depth ≤ 3 := by
  have := vaD_depth c.va
  simp [chD, Dt.depth, Dt.depthAll]; omega
theorem chD_inj {a b : Ch} (h : chD a = chD b) : a = b := by
  obtain ⟨s1, n1, f1, v1⟩ := a
  obtain ⟨s2, n2, f2, v2⟩ := b
  simp only [chD, Dt.tup.injEq, List.cons.injEq, and_true, Dt.num.injEq, Dt.txt.injEq] at h
  obtain ⟨⟨h1, h2⟩, ⟨h3, h4⟩, h5, h6⟩ := h
  have e1 : s1 = s2 := Prod.ext h1 h2
  have e2 : n1 = n2 := Prod.ext h3 h4
  rw [e1, e2, h5, vaD_inj h6]
theorem chAt {K : PySem.W.Frag} {H : Hp} {v : V} {c : Ch} (h : DtAt K H v (chD c)) : ∃ a s n x, v = .ref a ∧ TupAt K H a [s, n, .str c.fd, x] ∧ DtAt K H s (nmD c.st) ∧ DtAt K H n (nmD c.nm) ∧ DtAt K H x (vaD c.va) := by
  cases h with
  | @tup a xs _ h1 h2 =>
    cases h2 with
    | cons r1 t =>
      cases t with
      | cons r2 t =>
        cases t with
        | cons r3 t =>
          cases t with
          | cons r4 t =>
            cases t
            cases r3
            exact ⟨a, _, _, _, rfl, h1, r1, r2, r4⟩
theorem ch_mk {K : PySem.W.Frag} {H : Hp} {a : Addr} {s n x : V} {c : Ch} (h : TupAt K H a [s, n, .str c.fd, x]) (h1 : DtAt K H s (nmD c.st)) (h2 : DtAt K H n (nmD c.nm)) (h3 : DtAt K H x (vaD c.va)) : DtAt K H (.ref a) (chD c) :=
  .tup h (.cons h1 (.cons h2 (.cons (.txt _) (.cons h3 .nil))))
def okChange (c : Ch) : Bool := okStamp c.st && (okName c.nm && (okField c.fd && okVa c.va))
section
variable {P : Program} {w : World} {K : PySem.W.Frag} {mg : Str → Option Value} {base : Heap}
def spIsStamp (K : PySem.W.Frag) : Sp := fun vs H Q _ => ∃ (v : V) (n : Nm), vs = [v] ∧ DtAt K H v (nmD n) ∧ Q (.bl (okStamp n)) H
def spIsChange (K : PySem.W.Frag) : Sp := fun vs H Q _ => ∃ (v : V) (c : Ch), vs = [v] ∧ DtAt K H v (chD c) ∧ c.fd.length ≤ 1000 ∧ smallVa c.va ∧ ∀ H1, Stp [] H H1 → Q (.bl (okChange c)) H1
end

section
variable {P : Program} {w : World} {K : PySem.W.Frag} {mg : Str → Option Value} {base : Heap}
/-- an item of a written list at a drawn place -/
theorem pick {xs : List V} {d : Int} (h0 : 0 ≤ d) (h1 : d < (xs.length : Int)) : ∃ v, atI xs d = some v ∧ v ∈ xs := by
  have hl : d.toNat < xs.length := by omega
  exact ⟨xs[d.toNat], at_of (j := d.toNat) (by omega) (List.getElem?_eq_getElem hl), List.getElem_mem hl⟩
theorem dts_map {cs : List Ch} {c : Ch} {vs : List V} {v : V} {H : Hp} (h : DtsAt K H vs (cs.map chD)) (k : DtAt K H v (chD c)) : DtsAt K H (vs ++ [v]) ((cs ++ [c]).map chD) := by
  rw [List.map_append]; exact h.append (.cons k .nil)
theorem chs_stp {cs : List Ch} {vs : List V} {H H1 : Hp} {M : List Addr} (h : DtsAt K H vs (cs.map chD)) (s : Stp M H H1) : DtsAt K H1 vs (cs.map chD) :=
  DtsAt.stp s _ _ (by
    induction cs with
    | nil => rfl
    | cons c cs ih => 
      rw [List.map_cons, Dt.flatAll, chD_flat]
      have : Dt.flatAll (cs.map chD) = true := by
        clear ih h
        induction cs with
        | nil => rfl
        | cons c cs ih => rw [List.map_cons, Dt.flatAll, chD_flat, ih]; rfl
      rw [this]; rfl) h
theorem ch_get {cs : List Ch} {vs : List V} {H : Hp} {i : Nat} {v : V} (h : DtsAt K H vs (cs.map chD)) (e : vs[i]? = some v) : ∃ c, cs[i]? = some c ∧ DtAt K H v (chD c) := by
  obtain ⟨d, h1, h2⟩ := h.getV e
  rw [List.getElem?_map] at h1
  obtain ⟨c, hc, rfl⟩ := Option.map_eq_some_iff.mp h1
  exact ⟨c, hc, h2⟩
end

/-! ### what is drawn: names, fields, values, changes (laws with _law_pick) -/
section
variable {P : Program} {w : World} {K : PySem.W.Frag} {mg : Str → Option Value} {base : Heap}
theorem nmD_inj2 {a b : Nm} (h : nmD a = nmD b) : a = b := by
  injection h with h
  injection h with h1 h
  injection h with h2 _
  injection h1 with h1
  injection h2 with h2
  exact Prod.ext h1 h2
theorem nmD_beq (a b : Nm) : Dt.beq (nmD a) (nmD b) = decide (a = b) := by
  by_cases h : a = b
  · rw [h, Dt.beq_self]; simp
  · rw [decide_eq_false h]
    refine Bool.eq_false_iff.mpr fun z => h (nmD_inj2 ((Dt.beq_iff rfl rfl).mp z))
theorem nms_flat2 : ∀ ss : List Nm, Dt.flatAll (ss.map nmD) = true
  | [] => rfl
  | s :: ss => by rw [List.map_cons, Dt.flatAll, nms_flat2 ss]; rfl
theorem nms_dep : ∀ ss : List Nm, Dt.depthAll (ss.map nmD) ≤ 1
  | [] => Nat.zero_le _
  | s :: ss => by
    have := nms_dep ss
    rw [List.map_cons, Dt.depthAll]
    have e : (nmD s).depth = 1 := by simp [Dt.depth, Dt.depthAll]
    omega
def spPick (K : PySem.W.Frag) : Sp := fun vs H Q _ => ∃ (b dg r : Addr) (ws : List V) (ns : List Nm), vs = [.ref b, .ref r] ∧ Box K b dg H ∧ H r = some (.lst ws) ∧ DtsAt K H ws (ns.map nmD) ∧ 0 < ns.length ∧ ns.length ≤ 900 ∧ r ∉ [b] ∧
  ∀ (v : V) (n : Nm) (H1 : Hp), n ∈ ns → DtAt K H1 v (nmD n) → Stp [b] H H1 → Box K b dg H1 → Q v H1
theorem cal_law_pick (F : Df K mg d_law_pick) (B : Blt mg) (C_law_draw : Cal P w K mg base lv_law_draw "_law_draw" ["box", "many"] (spDraw K)) : Cal P w K mg base lv_law_pick "_law_pick" ["box", "row"] (spPick K) := by
  obtain ⟨f, fd, F, g⟩ := F
  refine ⟨f, fd, F.ok sc_law_pick (fun vs H Q E h => ?_) (fun cdv A outer s H vs Q E hr h => ⟨_, PSs.nox
    (pss_one (ps_ret (pe_ix (ix_listK (K := K) rfl) (pv 1) (pe_op op_mod (pe_callTy call_int1 (by rfl) B.int boot_int (pa_cons (pc_call C_law_draw (hr.mono (by decide)) (by rfl) (pa_cons (pv 0) (pa_cons pe_int pa_nil))) pa_nil)) (pe_callB call_len_seq (by rfl) B.len boot_len (pa_cons (pv 1) pa_nil))) (fun _ _ => rfl)))), ?_⟩), g, F.kp, F.bindsN fun _ _ _ _ _ _ us hl => match us, hl with | [_, _], _ => rfl⟩
  · obtain ⟨b, dg, r, ws, ns, rfl, _⟩ := h
    rfl
  · obtain ⟨b, dg, r, ws, ns, rfl, hb, hr, hd, l0, l1, rb, q⟩ := h
    have wl : ws.length = ns.length := by have := hd.length; rwa [List.length_map] at this
    repeat walk_at "h"
    refine ⟨b, dg, 900, rfl, by decide, hb, fun d H1 d0 d1 s1 b1 => ?_⟩
    have hr1 := s1.keep _ _ hr rb
    have hd1 := DtsAt.stp s1 _ _ (nms_flat2 _) hd
    repeat walk_at "h"
    refine .inl ⟨d, rfl, ?_⟩
    repeat walk_at "h"
    refine ⟨r, ws, rfl, .inl (SqL.of hr1), ?_⟩
    have n0 : (0 : Int) < (ws.length : Int) := by omega
    refine i_I (show (0 : Int) < (ws.length : Int) from n0) ?_
    have m0 := Int.emod_nonneg d (b := (ws.length : Int)) (by omega)
    have m1 := Int.emod_lt_of_pos d n0
    obtain ⟨k, hk⟩ : ∃ k : Nat, d % (ws.length : Int) = (k : Int) := ⟨(d % (ws.length : Int)).toNat, by omega⟩
    rw [hk] at m1 ⊢
    have lk : k < ws.length := by omega
    obtain ⟨v, hv⟩ : ∃ v, ws[k]? = some v := ⟨_, List.getElem?_eq_getElem lk⟩
    obtain ⟨dd, hdd, dv⟩ := hd1.getV hv
    rw [List.getElem?_map] at hdd
    obtain ⟨n, hn, rfl⟩ := Option.map_eq_some_iff.mp hdd
    refine i_IxL (SqL.of hr1) (at_of (j := k) rfl hv) ?_
    exact q v n H1 (List.mem_of_getElem? hn) dv s1 b1
def fieldsD : List Str := [Str.ofString "a", Str.ofString "b", Str.ofString "next", Str.ofString "z"]
def spFieldD (K : PySem.W.Frag) : Sp := fun vs H Q _ => ∃ (b dg : Addr), vs = [.ref b] ∧ Box K b dg H ∧
  ∀ (z : Str) (H1 : Hp), z ∈ fieldsD → Stp [b] H H1 → Box K b dg H1 → Q (.str z) H1
theorem cal_fieldD (F : Df K mg d_law_field) (C_law_draw : Cal P w K mg base lv_law_draw "_law_draw" ["box", "many"] (spDraw K)) : Cal P w K mg base lv_law_field "_law_field" ["box"] (spFieldD K) := by
  obtain ⟨f, fd, F, g⟩ := F
  refine ⟨f, fd, F.ok sc_law_field (fun vs H Q E h => ?_) (fun cdv A outer s H vs Q E hr h => ⟨_, PSs.nox
    (pss_one (ps_ret (pe_ix (ix_listK (K := K) rfl) (pe_lst (pa_cons pe_str (pa_cons pe_str (pa_cons pe_str (pa_cons pe_str pa_nil))))) (pc_call C_law_draw (hr.mono (by decide)) (by rfl) (pa_cons (pv 0) (pa_cons pe_int pa_nil))) (fun _ _ => rfl)))), ?_⟩), g, F.kp, F.bindsN fun _ _ _ _ _ _ us hl => match us, hl with | [_], _ => rfl⟩
  · obtain ⟨b, dg, rfl, _⟩ := h
    rfl
  · obtain ⟨b, dg, rfl, hb, q⟩ := h
    repeat walk_at "g"
    refine ⟨(by decide : 4 ≤ sizeLine), fun p hp => ?_⟩
    have s0 : Stp [] H (upd H p (.lst (fieldsD.map V.str))) := .new hp
    repeat walk_at "g"
    refine ⟨b, dg, 4, rfl, by decide, hb.grow s0, fun x H1 x0 x1 s1 b1 => ?_⟩
    have hl : H1 p = some (.lst (fieldsD.map V.str)) := s1.keep _ _ upd_same (hb.nin hp)
    obtain ⟨v, hv, hm⟩ := pick (xs := fieldsD.map V.str) x0 (by simpa [fieldsD] using x1)
    obtain ⟨z, hz, rfl⟩ := List.mem_map.mp hm
    refine i_IxL (SqL.of hl) hv ?_
    exact q z H1 hz ((s0.mono (by simp)).trans s1) b1
def textsD : List Str := [Str.ofString "", Str.ofString "a", Str.ofString "zb", Str.ofString "sea"]
/-- the values that are drawn -/
def drawnVaD (ns : List Nm) : Va → Prop
  | .non => True
  | .num i => -4 ≤ i ∧ i ≤ 4
  | .txt z => z ∈ textsD
  | .tg s n => s = strRef ∧ n ∈ ns
def spWorthD (K : PySem.W.Frag) : Sp := fun vs H Q _ => ∃ (b dg r : Addr) (ws : List V) (ns : List Nm), vs = [.ref b, .ref r] ∧ Box K b dg H ∧ H r = some (.lst ws) ∧ DtsAt K H ws (ns.map nmD) ∧ 0 < ns.length ∧ ns.length ≤ 900 ∧ r ∉ [b] ∧
  ∀ (v : V) (x : Va) (H1 : Hp), drawnVaD ns x → DtAt K H1 v (vaD x) → Stp [b] H H1 → Box K b dg H1 → Q v H1
theorem cal_worthD (F : Df K mg d_law_worth) (C_law_draw : Cal P w K mg base lv_law_draw "_law_draw" ["box", "many"] (spDraw K)) (C_law_pick : Cal P w K mg base lv_law_pick "_law_pick" ["box", "row"] (spPick K)) : Cal P w K mg base lv_law_worth "_law_worth" ["box", "names"] (spWorthD K) := by
  obtain ⟨f, fd, F, g⟩ := F
  refine ⟨f, fd, F.ok sc_law_worth (fun vs H Q E h => ?_) (fun cdv A outer s H vs Q E hr h => ⟨_, PSs.nox
    (pss_cons (ps_set (i := 2) sc_law_worth.nd rfl (Or.inl rfl) (pc_call C_law_draw (hr.mono (by decide)) (by rfl) (pa_cons (pv 0) (pa_cons pe_int pa_nil))))
    (pss_cons (ps_if (pt_cmpR op_lt (pv 2) pe_int (nomark _))
      (pss_one (ps_ret (pe_tup (pa_cons pe_str (pa_cons (pc_call C_law_pick (hr.mono (by decide)) (by rfl) (pa_cons (pv 0) (pa_cons (pv 1) pa_nil))) pa_nil)))))
      pss_nil)
    (pss_cons (ps_if (pt_cmpR op_eq (pv 2) pe_int (nomark _))
      (pss_one (ps_ret pe_non))
      pss_nil)
    (pss_cons (ps_if (pt_cmpR op_eq (pv 2) pe_int (nomark _))
      (pss_one (ps_ret (pe_ix (ix_listK (K := K) rfl) (pe_lst (pa_cons pe_str (pa_cons pe_str (pa_cons pe_str (pa_cons pe_str pa_nil))))) (pc_call C_law_draw (hr.mono (by decide)) (by rfl) (pa_cons (pv 0) (pa_cons pe_int pa_nil))) (fun _ _ => rfl))))
      pss_nil)
    (pss_one (ps_ret (pe_op op_sub (pc_call C_law_draw (hr.mono (by decide)) (by rfl) (pa_cons (pv 0) (pa_cons pe_int pa_nil))) pe_int))))))), ?_⟩), g, F.kp, F.bindsN fun _ _ _ _ _ _ us hl => match us, hl with | [_, _], _ => rfl⟩
  · obtain ⟨b, dg, r, ws, ns, rfl, _⟩ := h
    rfl
  · obtain ⟨b, dg, r, ws, ns, rfl, hb, hr, hd, l0, l1, rb, q⟩ := h
    repeat walk_at "g"
    refine ⟨b, dg, 7, rfl, by decide, hb, fun k H1 k0 k1 s1 b1 => ?_⟩
    have hr1 := s1.keep _ _ hr rb
    have hd1 := DtsAt.stp s1 _ _ (nms_flat2 _) hd
    repeat walk_at "g"
    refine i_iteD (fun h1 => ?_) (fun h1 => ?_)
    · repeat walk_at "g"
      refine ⟨b, dg, r, ws, ns, rfl, b1, hr1, hd1, l0, l1, rb, fun v n H2 hn hv s2 b2 => ?_⟩
      repeat walk_at "g"
      refine ⟨(by decide : 2 ≤ sizeLine), fun p hp => ?_⟩
      have s3 : Stp [] H2 (upd H2 p (.tup [.str strRef, v])) := .new hp
      exact q _ (.tg strRef n) _ ⟨rfl, hn⟩ (.tup (.inl upd_same) (.cons (.txt _) (.cons (DtAt.stp s3 _ _ rfl hv) .nil))) ((s1.trans s2).trans (s3.mono (by simp))) (b2.grow s3)
    · repeat walk_at "g"
      refine i_iteD (fun h2 => ?_) (fun h2 => ?_)
      · repeat walk_at "g"
        exact q _ .non H1 trivial .non s1 b1
      · repeat walk_at "g"
        refine i_iteD (fun h3 => ?_) (fun h3 => ?_)
        · repeat walk_at "g"
          refine ⟨(by decide : 4 ≤ sizeLine), fun p hp => ?_⟩
          have s2 : Stp [] H1 (upd H1 p (.lst (textsD.map V.str))) := .new hp
          repeat walk_at "g"
          refine ⟨b, dg, 4, rfl, by decide, b1.grow s2, fun x H2 x0 x1 s3 b3 => ?_⟩
          have hl : H2 p = some (.lst (textsD.map V.str)) := s3.keep _ _ upd_same (b1.nin hp)
          obtain ⟨v, hv, hm⟩ := pick (xs := textsD.map V.str) x0 (by simpa [textsD] using x1)
          obtain ⟨z, hz, rfl⟩ := List.mem_map.mp hm
          refine i_IxL (SqL.of hl) hv ?_
          exact q _ (.txt z) H2 hz (.txt _) ((s1.trans (s2.mono (by simp))).trans s3) b3
        · repeat walk_at "g"
          refine ⟨b, dg, 9, rfl, by decide, b1, fun x H2 x0 x1 s2 b2 => ?_⟩
          repeat walk_at "g"
          exact q _ (.num (x - 4)) H2 ⟨by omega, by omega⟩ (.num _) (s1.trans s2) b2
/-- the changes that are drawn -/
def drawnD (ns : List Nm) (c : Ch) : Prop := (1 ≤ c.st.1 ∧ c.st.1 ≤ 9) ∧ (0 ≤ c.st.2 ∧ c.st.2 ≤ 2) ∧ c.nm ∈ ns ∧ c.fd ∈ fieldsD ∧ drawnVaD ns c.va
def namesD : List Nm := [(0, 0), (0, 1), (1, 0), (2, 0), (2, 1)]
def spChangesD (K : PySem.W.Frag) : Sp := fun vs H Q _ => ∃ (b dg : Addr) (m : Int), vs = [.ref b, .int m] ∧ 0 ≤ m ∧ m ≤ 100 ∧ Box K b dg H ∧
  ∀ (p : Addr) (ws : List V) (cs : List Ch) (H1 : Hp), H p = none → H1 p = some (.lst ws) → DtsAt K H1 ws (cs.map chD) → (∀ c ∈ cs, drawnD namesD c) → (cs.map Ch.st).Nodup → (cs.length : Int) ≤ m → Stp [b] H H1 → Box K b dg H1 → Q (.ref p) H1
end

/-! ### cells: the values with the latest stamps -/
abbrev Cel := (Nm × Str) × (Nm × Va)
def keyC (k : Nm × Str) : NestedKey := (Dt.tup [nmD k.1, .txt k.2]).key
def datC (v : Nm × Va) : Dt := .tup [nmD v.1, vaD v.2]
def toD (cl : List Cel) : List NKD := cl.map fun p => (keyC p.1, datC p.2)
def getC (cl : List Cel) (k : Nm × Str) : Option (Nm × Va) := (cl.find? fun p => decide (p.1 = k)).map (·.2)
def putC (cl : List Cel) (k : Nm × Str) (v : Nm × Va) : List Cel :=
  if (cl.any fun p => decide (p.1 = k)) = true then cl.map (fun p => if p.1 = k then (p.1, v) else p) else cl ++ [(k, v)]
theorem keyC_inj {a b : Nm × Str} (h : keyC a = keyC b) : a = b := by
  have e := Dt.key_inj _ _ rfl rfl h
  injection e with e
  injection e with e1 e
  injection e with e2 _
  injection e2 with e2
  exact Prod.ext (nmD_inj e1) e2
theorem datC_inj {a b : Nm × Va} (h : datC a = datC b) : a = b := by
  injection h with e
  injection e with e1 e
  injection e with e2 _
  exact Prod.ext (nmD_inj e1) (vaD_inj e2)
theorem datC_flat (v : Nm × Va) : (datC v).flat = true := by simp [datC, Dt.flat, Dt.flatAll, vaD_flat]
theorem datC_pure (v : Nm × Va) : (datC v).pure = true := by simp [datC, Dt.pure, Dt.pureAll, vaD_pure]
theorem datC_depth (v : Nm × Va) : (datC v).depth ≤ 3 := by
  have := vaD_depth v.2
  simp [datC, Dt.depth, Dt.depthAll]; omega
theorem valD_toD (cl : List Cel) (k : Nm × Str) : valD (toD cl) (keyC k) = (getC cl k).map datC := by
  induction cl with
  | nil => rfl
  | cons p r ih =>
    by_cases e : p.1 = k
    · simp [toD, valD, getC, List.find?_cons, e]
    · have e' : ¬ keyC p.1 = keyC k := fun z => e (keyC_inj z)
      rw [show valD (toD (p :: r)) (keyC k) = valD (toD r) (keyC k) by simp [toD, valD, List.find?_cons, e'], ih]
      simp [getC, List.find?_cons, e]
theorem toD_put (cl : List Cel) (k : Nm × Str) (v : Nm × Va) : toD (putC cl k v) = putD (toD cl) (keyC k) (datC v) := by
  have e : ((toD cl).any fun p => decide (p.1 = keyC k)) = cl.any fun p => decide (p.1 = k) := by
    unfold toD
    rw [List.any_map]
    congr 1
    funext p
    have : (keyC p.1 = keyC k) ↔ p.1 = k := ⟨keyC_inj, fun z => by rw [z]⟩
    simp [this]
  unfold putC putD
  rw [e]
  split
  · unfold toD
    rw [List.map_map, List.map_map]
    refine List.map_congr_left fun p _ => ?_
    by_cases c : p.1 = k
    · simp [c]
    · have : ¬ keyC p.1 = keyC k := fun z => c (keyC_inj z)
      simp [c, this]
  · simp [toD]
theorem getC_put (cl : List Cel) (k j : Nm × Str) (v : Nm × Va) : getC (putC cl k v) j = if j = k then some v else getC cl j := by
  have h := valD_toD (putC cl k v) j
  rw [toD_put, valD_put] at h
  by_cases c : j = k
  · rw [if_pos c]
    rw [if_pos (by rw [c])] at h
    cases q : getC (putC cl k v) j with
    | none => rw [q] at h; cases h
    | some x =>
      rw [q] at h
      rw [datC_inj (Option.some.inj h)]
  · rw [if_neg c]
    rw [if_neg (fun z => c (keyC_inj z)), valD_toD] at h
    cases q : getC (putC cl k v) j with
    | none => rw [q] at h; cases r : getC cl j with
      | none => rfl
      | some y => rw [r] at h; cases h
    | some x =>
      rw [q] at h
      cases r : getC cl j with
      | none => rw [r] at h; cases h
      | some y => rw [r] at h; rw [datC_inj (Option.some.inj h)]
theorem toD_len (cl : List Cel) : (toD cl).length = cl.length := by simp [toD]
/-- == of two such dicts -/
theorem dEq_toD {a b : List Cel} (na : ((toD a).map (·.1)).Nodup) (nb : ((toD b).map (·.1)).Nodup) : dEq (toD a) (toD b) = true ↔ ∀ k, getC a k = getC b k := by
  have pu : ∀ {c : List Cel}, ∀ p ∈ toD c, p.2.pure = true := fun {c} p hp => by
    obtain ⟨q, _, rfl⟩ := List.mem_map.mp hp
    exact datC_pure _
  rw [dEq_iff na nb pu pu]
  constructor
  · intro h k
    have := h (keyC k)
    rw [valD_toD, valD_toD] at this
    cases q : getC a k with
    | none => rw [q] at this; cases r : getC b k with
      | none => rfl
      | some y => rw [r] at this; cases this
    | some x =>
      rw [q] at this
      cases r : getC b k with
      | none => rw [r] at this; cases this
      | some y => rw [r] at this; rw [datC_inj (Option.some.inj this)]
  · intro h k
    by_cases hk : ∃ j, keyC j = k
    · obtain ⟨j, rfl⟩ := hk
      rw [valD_toD, valD_toD, h j]
    · have no : ∀ c : List Cel, valD (toD c) k = none := fun c => by
        cases q : valD (toD c) k with
        | none => rfl
        | some d =>
          obtain ⟨p, _, e⟩ := List.mem_map.mp (valD_mem q)
          exact absurd ⟨p.1, congrArg Prod.fst e⟩ hk
      rw [no, no]
/-! ### the latest of each -/
def stpC (cl : List Cel) (c : Ch) : List Cel := match getC cl (c.nm, c.fd) with
  | none => putC cl (c.nm, c.fd) (c.st, c.va)
  | some v => if ltP2 v.1 c.st = true then putC cl (c.nm, c.fd) (c.st, c.va) else cl
/-- does taking c make a difference? -/
def newC (cl : List Cel) (c : Ch) : Bool := match getC cl (c.nm, c.fd) with
  | none => true
  | some v => ltP2 v.1 c.st
theorem stpC_eq (cl : List Cel) (c : Ch) : stpC cl c = if newC cl c = true then putC cl (c.nm, c.fd) (c.st, c.va) else cl := by
  unfold stpC newC
  cases getC cl (c.nm, c.fd) <;> simp
def cellsOf (cs : List Ch) : List Cel := cs.foldl stpC []
theorem cellsOf_snoc (cs : List Ch) (c : Ch) : cellsOf (cs ++ [c]) = stpC (cellsOf cs) c := by simp [cellsOf]
theorem putC_len (cl : List Cel) (k : Nm × Str) (v : Nm × Va) : (putC cl k v).length ≤ cl.length + 1 := by
  unfold putC; split <;> simp
theorem stpC_len (cl : List Cel) (c : Ch) : (stpC cl c).length ≤ cl.length + 1 := by
  rw [stpC_eq]; split
  · exact putC_len ..
  · omega
theorem cellsOf_len (cs : List Ch) : (cellsOf cs).length ≤ cs.length := by
  have h : ∀ (cs : List Ch) (cl : List Cel), (cs.foldl stpC cl).length ≤ cl.length + cs.length := by
    intro cs
    induction cs with
    | nil => intro cl; simp
    | cons c cs ih => intro cl; have h1 := ih (stpC cl c); have h2 := stpC_len cl c; simp only [List.foldl_cons, List.length_cons]; omega
  have := h cs []
  simpa [cellsOf] using this
theorem ltP2_irr (a : Int × Int) : ltP2 a a = false := by simp [ltP2]
theorem ltP2_tri {a b : Int × Int} (h1 : ltP2 a b = false) (h2 : ltP2 b a = false) : a = b := by
  simp only [ltP2, decide_eq_false_iff_not] at h1 h2
  exact Prod.ext (by omega) (by omega)
theorem ltP2_trans {a b c : Int × Int} (h1 : ltP2 b a = false) (h2 : ltP2 c b = false) : ltP2 c a = false := by
  simp only [ltP2, decide_eq_false_iff_not] at h1 h2 ⊢
  omega
/-- the cell k of the row cs: a change of it that no later one hides -/
def Best (cs : List Ch) (k : Nm × Str) : Option (Nm × Va) → Prop
  | none => ∀ c ∈ cs, (c.nm, c.fd) ≠ k
  | some v => (∃ c ∈ cs, (c.nm, c.fd) = k ∧ v = (c.st, c.va)) ∧ ∀ c ∈ cs, (c.nm, c.fd) = k → ltP2 v.1 c.st = false
theorem best_cells (cs : List Ch) (k : Nm × Str) : Best cs k (getC (cellsOf cs) k) := by
  have h : ∀ (n : Nat) (cs : List Ch), cs.length = n → Best cs k (getC (cellsOf cs) k) := by
    intro n
    induction n with
    | zero =>
      intro cs e
      rw [List.eq_nil_of_length_eq_zero e]
      exact fun c hc => nomatch hc
    | succ n ih =>
      intro cs e
      obtain ⟨r, c, rfl⟩ : ∃ r c, cs = r ++ [c] := ⟨cs.dropLast, cs.getLast (by rintro rfl; cases e), (List.dropLast_concat_getLast _).symm⟩
      have b := ih r (by simpa using e)
      rw [cellsOf_snoc, stpC_eq]
      unfold newC
      by_cases ek : (c.nm, c.fd) = k
      · rw [ek]
        cases q : getC (cellsOf r) k with
        | none =>
          rw [q] at b
          simp only [if_true]
          rw [getC_put, if_pos rfl]
          refine ⟨⟨c, by simp, ek, rfl⟩, fun c' hc' e' => ?_⟩
          rcases List.mem_append.mp hc' with h | h
          · exact absurd e' (b c' h)
          · rw [List.mem_singleton.mp h]; exact ltP2_irr _
        | some v =>
          rw [q] at b
          obtain ⟨⟨c0, h0, e0, rfl⟩, hb⟩ := b
          by_cases hl : ltP2 c0.st c.st = true
          · simp only [hl, if_true]
            rw [getC_put, if_pos rfl]
            refine ⟨⟨c, by simp, ek, rfl⟩, fun c' hc' e' => ?_⟩
            rcases List.mem_append.mp hc' with h | h
            · have := hb c' h e'
              simp only [ltP2, decide_eq_false_iff_not, decide_eq_true_eq] at this hl ⊢
              omega
            · rw [List.mem_singleton.mp h]; exact ltP2_irr _
          · simp only [hl, Bool.false_eq_true, if_false]
            rw [q]
            refine ⟨⟨c0, by simp [h0], e0, rfl⟩, fun c' hc' e' => ?_⟩
            rcases List.mem_append.mp hc' with h | h
            · exact hb c' h e'
            · rw [List.mem_singleton.mp h]; simpa using hl
      · have e2 : ∀ b : Bool, getC (if b = true then putC (cellsOf r) (c.nm, c.fd) (c.st, c.va) else cellsOf r) k = getC (cellsOf r) k := by
          intro b
          cases b
          · rw [if_neg (by simp)]
          · rw [if_pos rfl, getC_put, if_neg (fun z => ek z.symm)]
        rw [e2]
        cases q : getC (cellsOf r) k with
        | none =>
          rw [q] at b
          intro c' hc'
          rcases List.mem_append.mp hc' with h | h
          · exact b c' h
          · rw [List.mem_singleton.mp h]; exact ek
        | some v =>
          rw [q] at b
          obtain ⟨⟨c0, h0, e0, ev⟩, hb⟩ := b
          refine ⟨⟨c0, by simp [h0], e0, ev⟩, fun c' hc' e' => ?_⟩
          rcases List.mem_append.mp hc' with h | h
          · exact hb c' h e'
          · rw [List.mem_singleton.mp h] at e'; exact absurd e' ek
  exact h _ cs rfl
/-- rows with the same changes, each stamp one change: the same cells -/
theorem cells_same {as bs : List Ch} (m : ∀ c, c ∈ as ↔ c ∈ bs) (u : ∀ c ∈ as, ∀ d ∈ as, c.st = d.st → c = d) (k : Nm × Str) : getC (cellsOf as) k = getC (cellsOf bs) k := by
  have ha := best_cells as k
  have hb := best_cells bs k
  cases q : getC (cellsOf as) k with
  | none =>
    rw [q] at ha
    cases r : getC (cellsOf bs) k with
    | none => rfl
    | some v =>
      rw [r] at hb
      obtain ⟨⟨c, hc, e, _⟩, _⟩ := hb
      exact absurd e (ha c ((m c).mpr hc))
  | some v =>
    rw [q] at ha
    obtain ⟨⟨c, hc, e, rfl⟩, hm⟩ := ha
    cases r : getC (cellsOf bs) k with
    | none => rw [r] at hb; exact absurd e (hb c ((m c).mp hc))
    | some v2 =>
      rw [r] at hb
      obtain ⟨⟨c2, hc2, e2, rfl⟩, hm2⟩ := hb
      have h1 := hm c2 ((m c2).mpr hc2) e2
      have h2 := hm2 c ((m c).mp hc) e
      have := u c hc c2 ((m c2).mpr hc2) (ltP2_tri h1 h2)
      rw [this]
section
variable {P : Program} {w : World} {K : PySem.W.Frag} {mg : Str → Option Value} {base : Heap}
def spCells (P : Program) (w : World) (K : PySem.W.Frag) : Sp := fun vs H Q _ => ∃ (r : Addr) (ws : List V) (cs : List Ch), vs = [.ref r] ∧ SqL K H r ws ∧ DtsAt K H ws (cs.map chD) ∧ ws.length ≤ 1000 ∧
  ∀ (p : Addr) (kvs : List NKV) (H1 : Hp), H p = none → ND P w K H1 p kvs → DD K H1 kvs (toD (cellsOf cs)) → Stp [] H H1 → Q (.ref p) H1
/-- the key of a cell -/
theorem key_mk {H : Hp} {t : Addr} {n : V} {c : Ch} (h : TupAt K H t [n, .str c.fd]) (hn : DtAt K H n (nmD c.nm)) : KyAt K H (.ref t) (keyC (c.nm, c.fd)) :=
  KyAt.of (d := .tup [nmD c.nm, .txt c.fd]) (.tup h (.cons hn (.cons (.txt _) .nil)))
theorem cel_at {H : Hp} {v : V} {x : Nm × Va} (h : DtAt K H v (datC x)) : ∃ a s y, v = .ref a ∧ TupAt K H a [s, y] ∧ DtAt K H s (nmD x.1) ∧ DtAt K H y (vaD x.2) := by
  cases h with
  | @tup a xs _ h1 h2 =>
    cases h2 with
    | cons r1 t =>
      cases t with
      | cons r2 t =>
        cases t
        exact ⟨a, _, _, rfl, h1, r1, r2⟩
theorem cal_law_cells (F : Df K mg d_law_cells) : Cal P w K mg base lv_law_cells "_law_cells" ["changes"] (spCells P w K) := by
  obtain ⟨f, fd, F, g⟩ := F
  refine ⟨f, fd, F.ok sc_law_cells (fun vs H Q E h => ?_) (fun cdv A outer s H vs Q E hr h => ⟨_, PSs.nox
    (pss_cons (ps_set (i := 1) sc_law_cells.nd rfl (Or.inl rfl) pe_dnewN)
    (pss_cons (ps_for PassesOwn.never rfl (pi_list (pv 0)) (pg_name (i := 2) sc_law_cells.nd rfl (Or.inl rfl))
      (pss_cons (ps_set (i := 3) sc_law_cells.nd rfl (Or.inl rfl) (pe_tup (pa_cons (pe_ix (ix_tupK (K := K) rfl) (pv 2) pe_int (fun _ _ => rfl)) (pa_cons (pe_ix (ix_tupK (K := K) rfl) (pv 2) pe_int (fun _ _ => rfl)) pa_nil))))
        (pss_one (ps_if (PW.pt (pw_or (pt_cmp (pc_nnotinK (P := P) (w := w) (K := K) rfl rfl rfl hr (pv 3) (pv 1))) (pw_or1 (pt_cmpR (op_gtOK (K := K) rfl hr.units) (pe_ix (ix_tupK (K := K) rfl) (pv 2) pe_int (fun _ _ => rfl)) (pe_ix (ix_tupK (K := K) rfl) (pe_ngetK (P := P) (w := w) (K := K) rfl rfl rfl hr (pv 1) (pv 3) (fun _ _ => rfl)) pe_int (fun _ _ => rfl)) (nomark _)))))
          (pss_one (ps_nput hr (pv 1) (pv 3) (pe_tup (pa_cons (pe_ix (ix_tupK (K := K) rfl) (pv 2) pe_int (fun _ _ => rfl)) (pa_cons (pe_ix (ix_tupK (K := K) rfl) (pv 2) pe_int (fun _ _ => rfl)) pa_nil))) rfl))
          pss_nil))))
    (pss_one (ps_ret (pv 1))))), ?_⟩), g, F.kp, F.bindsN fun _ _ _ _ _ _ us hl => match us, hl with | [_], _ => rfl⟩
  · obtain ⟨r, ws, cs, rfl, _⟩ := h
    rfl
  · obtain ⟨r, ws, cs, rfl, hr1, hd, hl, q⟩ := h
    repeat walk_at "g"
    intro t H1 nt n1 s1
    repeat walk_at "g"
    refine ⟨r, rfl, ⟨ws, s1.seq hr1 (by simp)⟩, ?_⟩
    have wl : ws.length = cs.length := by have := hd.length; rwa [List.length_map] at this
    refine for_list (xs := ws) (fun i σ H' => ∃ (y2 y3 : Option V) (kvs : List NKV), σ = [some (.ref r), some (.ref t), y2, y3] ∧ Stp [] H H' ∧ ND P w K H' t kvs ∧ DD K H' kvs (toD (cellsOf (cs.take i))))
      ⟨_, _, [], rfl, s1, n1, .nil⟩ (fun i σ H' _ ⟨_, _, _, _, h, _⟩ => h.seq hr1 (by simp)) ?_ ?_
    · rintro i x σ H2 hx ⟨y2, y3, kvs, rfl, s2, n2, d2⟩
      repeat walk_at "g"
      have dx := chs_stp hd s2
      obtain ⟨c, hc, dc⟩ := ch_get dx hx
      obtain ⟨a, s, n, v, rfl, ha, hs, hn, hv⟩ := chAt dc
      refine i_IxT ha.sqt (at_of (j := 1) rfl rfl) ?_
      repeat walk_at "g"
      refine i_IxT ha.sqt (at_of (j := 2) rfl rfl) ?_
      repeat walk_at "g"
      refine ⟨(by decide : 2 ≤ sizeLine), fun k hk => ?_⟩
      have s3 : Stp [] H2 (upd H2 k (.tup [n, .str c.fd])) := .new hk
      have n3 := n2.stp s3 (by simp)
      have d3 := d2.stp s3
      have a3 := ha.stp s3
      have k3 : KyAt K (upd H2 k (.tup [n, .str c.fd])) (.ref k) (keyC (c.nm, c.fd)) := key_mk (.inl upd_same) (DtAt.stp s3 _ _ rfl hn)
      have hs3 := DtAt.stp s3 _ _ rfl hs
      have hv3 := DtAt.stp s3 _ _ (vaD_flat c.va) hv
      have cl : (toD (cellsOf (cs.take i))).length ≤ 1000 := by
        rw [toD_len]
        have h1 := cellsOf_len (cs.take i)
        rw [List.length_take] at h1
        have hi : i < ws.length := (List.getElem?_eq_some_iff.mp hx).1
        omega
      have tk : cs.take (i + 1) = cs.take i ++ [c] := by rw [List.take_add_one, hc]; rfl
      -- the put
      have put : ∀ (y3 : Option V), newC (cellsOf (cs.take i)) c = true → ∀ (u : Addr), upd H2 k (.tup [n, .str c.fd]) u = none → ∀ (H5 : Hp), ND P w K H5 t (putK kvs (keyC (c.nm, c.fd)) (.ref u)) → (∀ (H0 : Hp) M, Stp M H0 (upd (upd H2 k (.tup [n, .str c.fd])) u (.tup [s, v])) → H0 t = none → Stp M H0 H5) → Stp [t] (upd (upd H2 k (.tup [n, .str c.fd])) u (.tup [s, v])) H5 →
          ∃ (y2 y3 : Option V) (kvs : List NKV), [some (.ref r), some (.ref t), some (.ref a), some (.ref k)] = [some (.ref r), some (.ref t), y2, y3] ∧ Stp [] H H5 ∧ ND P w K H5 t kvs ∧ DD K H5 kvs (toD (cellsOf (cs.take (i + 1)))) := by
        intro y3 hnew u hu H5 n5 f5 t5
        have s4 : Stp [] (upd H2 k (.tup [n, .str c.fd])) (upd (upd H2 k (.tup [n, .str c.fd])) u (.tup [s, v])) := .new hu
        refine ⟨_, _, _, rfl, f5 H [] ((s2.trans s3).trans s4) nt, n5, ?_⟩
        rw [tk, cellsOf_snoc, stpC_eq, if_pos hnew, toD_put]
        refine ((d3.stp s4).stp t5).put (DtAt.stp t5 _ _ (datC_flat (c.st, c.va)) (.tup (.inl upd_same) (.cons (DtAt.stp s4 _ _ rfl hs3) (.cons (DtAt.stp s4 _ _ (vaD_flat c.va) hv3) .nil)))) (datC_flat _) (Nat.le_trans (datC_depth _) (by decide))
      repeat walk_at "g"
      refine ⟨t, k, kvs, keyC (c.nm, c.fd), rfl, rfl, n3.r, k3, ?_⟩
      repeat walk_at "g"
      have dv := d3.val (keyC (c.nm, c.fd))
      rw [valD_toD] at dv
      cases hq : getC (cellsOf (cs.take i)) (c.nm, c.fd) with
      | none =>
        rw [hq] at dv
        rcases dv with ⟨e1, _⟩ | ⟨_, _, _, e2, _⟩
        · rw [e1]
          refine i_ite (fun _ => ?_) (fun z => nomatch z)
          refine i_ite (fun _ => ?_) (fun z => nomatch z)
          repeat walk_at "g"
          refine i_IxT a3.sqt (at_of (j := 0) rfl rfl) ?_
          repeat walk_at "g"
          refine i_IxT a3.sqt (at_of (j := 3) rfl rfl) ?_
          repeat walk_at "g"
          refine ⟨(by decide : 2 ≤ sizeLine), fun u hu => ?_⟩
          have s4 : Stp [] (upd H2 k (.tup [n, .str c.fd])) (upd (upd H2 k (.tup [n, .str c.fd])) u (.tup [s, v])) := .new hu
          repeat walk_at "g"
          exact ⟨t, k, kvs, keyC (c.nm, c.fd), rfl, rfl, n3.stp s4 (by simp), k3.stp s4, by rw [d3.len]; exact Nat.lt_of_le_of_lt cl (by decide), fun H5 n5 t5 f5 => put y3 (by unfold newC; rw [hq]) u hu H5 n5 f5 t5⟩
        · cases e2
      | some x =>
        rw [hq] at dv
        rcases dv with ⟨_, e2⟩ | ⟨y, d, e1, e2, hy, _⟩
        · cases e2
        · obtain rfl := Option.some.inj e2
          rw [e1]
          refine i_ite (fun z => nomatch z) (fun _ => ?_)
          obtain ⟨ya, ys, yv, rfl, hya, hys, hyv⟩ := cel_at hy
          repeat walk_at "g"
          refine i_IxT a3.sqt (at_of (j := 0) rfl rfl) ?_
          repeat walk_at "g"
          refine ⟨t, k, kvs, keyC (c.nm, c.fd), _, rfl, rfl, n3.r, k3, e1, ?_⟩
          repeat walk_at "g"
          refine i_IxT hya.sqt (at_of (j := 0) rfl rfl) ?_
          repeat walk_at "g"
          refine i_GtP (a := c.st) (b := x.1) hs3 hys ?_
          repeat walk_at "g"
          refine i_ite (fun hlt => ?_) (fun hlt => ?_)
          · repeat walk_at "g"
            refine i_IxT a3.sqt (at_of (j := 0) rfl rfl) ?_
            repeat walk_at "g"
            refine i_IxT a3.sqt (at_of (j := 3) rfl rfl) ?_
            repeat walk_at "g"
            refine ⟨(by decide : 2 ≤ sizeLine), fun u hu => ?_⟩
            have s4 : Stp [] (upd H2 k (.tup [n, .str c.fd])) (upd (upd H2 k (.tup [n, .str c.fd])) u (.tup [s, v])) := .new hu
            repeat walk_at "g"
            exact ⟨t, k, kvs, keyC (c.nm, c.fd), rfl, rfl, n3.stp s4 (by simp), k3.stp s4, by rw [d3.len]; exact Nat.lt_of_le_of_lt cl (by decide), fun H5 n5 t5 f5 => put y3 (by unfold newC; rw [hq]; exact hlt) u hu H5 n5 f5 t5⟩
          · repeat walk_at "g"
            refine ⟨_, _, kvs, rfl, s2.trans s3, n3, ?_⟩
            rw [tk, cellsOf_snoc, stpC_eq, if_neg (by unfold newC; rw [hq]; simp [hlt])]
            exact d3
    · rintro σ H2 ⟨y2, y3, kvs, rfl, s2, n2, d2⟩
      repeat walk_at "g"
      rw [wl, List.take_length] at d2
      exact q t kvs H2 nt n2 d2 s2
end

/-! ### states -/
section
variable {P : Program} {w : World} {K : PySem.W.Frag} {mg : Str → Option Value} {base : Heap} {C : Addr}
def stOf (K : PySem.W.Frag) (H : Hp) (o : V) : Option Nm → Prop
  | none => o = .non
  | some b => DtAt K H o (nmD b)
theorem stOf.stp {H H1 : Hp} {M : List Addr} {o : V} {x : Option Nm} (h : stOf K H o x) (s : Stp M H H1) : stOf K H1 o x := by
  cases x with
  | none => exact h
  | some b => exact DtAt.stp s _ _ rfl h
def isLater (a : Nm) : Option Nm → Bool
  | none => true
  | some b => ltP2 b a
def spLater (K : PySem.W.Frag) : Sp := fun vs H Q _ => ∃ (s o : V) (a : Nm) (x : Option Nm), vs = [s, o] ∧ DtAt K H s (nmD a) ∧ stOf K H o x ∧ Q (.bl (isLater a x)) H
theorem cal_is_later (F : Df K mg d_is_later) : Cal P w K mg base lv_is_later "is_later" ["stamp", "other"] (spLater K) := by
  obtain ⟨f, fd, F, g⟩ := F
  refine ⟨f, fd, F.ok sc_is_later (fun vs H Q E h => ?_) (fun cdv A outer s H vs Q E hr h => ⟨_, PSs.nox
    (pss_one (ps_ret (pe_or (pe_cmpR op_isN (pv 1) pe_non (nomark _)) (pe_one (pe_cmpR (op_gtOK (K := K) rfl hr.units) (pv 0) (pv 1) (nomark _)))))), ?_⟩), g, F.kp, F.bindsN fun _ _ _ _ _ _ us hl => match us, hl with | [_, _], _ => rfl⟩
  · obtain ⟨s, o, a, x, rfl, _⟩ := h
    rfl
  · obtain ⟨sv, o, a, x, rfl, hs, ho, q⟩ := h
    repeat walk_at "g"
    refine ⟨rfl, ?_⟩
    cases x with
    | none =>
      obtain rfl : o = .non := ho
      exact ⟨_, rfl, i_ite (fun _ => q) (fun z => by simp at z)⟩
    | some b =>
      have ho' : DtAt K H o (nmD b) := ho
      obtain ⟨oa, rfl, _⟩ := nmAt ho'
      refine ⟨_, rfl, i_ite (fun z => by simp at z) (fun _ => ?_)⟩
      repeat walk_at "g"
      exact i_GtP (a := a) (b := b) hs ho' q
abbrev cellsS : Str := Str.ofString "cells"
def SAt (C : Addr) (H : Hp) (x dx d : Addr) : Prop := H x = some (.ins C dx [(cellsS, .ref d)])
def spInit (P : Program) (w : World) (K : PySem.W.Frag) (C : Addr) : Sp := fun vs H Q _ => ∃ (x dx : Addr), vs = [.ref x] ∧ H x = some (.ins C dx []) ∧
  ∀ (d : Addr) (H1 : Hp), H d = none → SAt C H1 x dx d → ND P w K H1 d [] → Stp [x] H H1 → Q .non H1
theorem mki_State_init (F : Dfi K mg C "State" d_State_init) (CL_State : Cls K C) (NA : NoAttr K C "cells") : Mki P w K mg base lv_State_init C "State" ["self"] (spInit P w K C) := by
  obtain ⟨f, fd, F, g⟩ := F
  refine ⟨f, fd, F.ok sc_State_init (fun vs H Q E h => ?_) (fun cdv A outer s H vs Q E hr h => ⟨_, PSs.nox
    (pss_one (ps_fld (pv 0) pe_dnewN rfl)), ?_⟩), g, F.kp, F.bindsN fun _ _ _ _ _ _ us hl => match us, hl with | [_], _ => rfl⟩
  · obtain ⟨x, dx, rfl, _⟩ := h
    rfl
  · obtain ⟨x, dx, rfl, hx, q⟩ := h
    repeat walk_at "g"
    intro d H1 nd n1 s1
    repeat walk_at "g"
    have h1 := s1.keep _ _ hx (by simp)
    have dx' : d ≠ x := fun z => by rw [z, hx] at nd; cases nd
    refine ⟨x, C, dx, [], rfl, h1, CL_State, NA, by decide, ?_⟩
    have s2 : Stp [x] H1 (upd H1 x (.ins C dx (putF "cells" (.ref d) []))) := .wr (by simp) h1 fun _ z => nomatch z
    exact q d _ nd upd_same (n1.stp s2 (by simpa using dx')) ((s1.mono (by simp)).trans s2)
/-- a state at x: its cells at d are cl -/
structure StA (P : Program) (w : World) (K : PySem.W.Frag) (C : Addr) (H : Hp) (x dx d : Addr) (cl : List Cel) : Prop where
  at_ : SAt C H x dx d
  nd : ∃ kvs, ND P w K H d kvs ∧ DD K H kvs (toD cl)
theorem StA.stp {H H1 : Hp} {M : List Addr} {x dx d : Addr} {cl : List Cel} (h : StA P w K C H x dx d cl) (s : Stp M H H1) (nx : x ∉ M) (nd : d ∉ M) : StA P w K C H1 x dx d cl :=
  ⟨s.keep _ _ h.at_ nx, let ⟨kvs, a, b⟩ := h.nd; ⟨kvs, a.stp s nd, b.stp s⟩⟩
theorem NDR.stp {H H1 : Hp} {M : List Addr} {d : Addr} {kvs : List NKV} (h : NDR P w K H d kvs) (s : Stp M H H1) (n : d ∉ M) : NDR P w K H1 d kvs :=
  let ⟨xs, e, k, q⟩ := h
  ⟨xs, e.elim (fun e => .inl (s.keep _ _ e n)) (fun ⟨o, e⟩ => .inr ⟨o, s.keep _ _ e n⟩), k.stp s, q⟩
/-- .. while it may be walked -/
structure StR (P : Program) (w : World) (K : PySem.W.Frag) (C : Addr) (H : Hp) (x dx d : Addr) (cl : List Cel) : Prop where
  at_ : SAt C H x dx d
  nd : ∃ kvs, NDR P w K H d kvs ∧ DD K H kvs (toD cl)
theorem StA.r {H : Hp} {x dx d : Addr} {cl : List Cel} (h : StA P w K C H x dx d cl) : StR P w K C H x dx d cl := ⟨h.at_, let ⟨kvs, a, b⟩ := h.nd; ⟨kvs, a.r, b⟩⟩
theorem StR.stp {H H1 : Hp} {M : List Addr} {x dx d : Addr} {cl : List Cel} (h : StR P w K C H x dx d cl) (s : Stp M H H1) (nx : x ∉ M) (nd : d ∉ M) : StR P w K C H1 x dx d cl :=
  ⟨s.keep _ _ h.at_ nx, let ⟨kvs, a, b⟩ := h.nd; ⟨kvs, a.stp s nd, b.stp s⟩⟩
def spStamp (P : Program) (w : World) (K : PySem.W.Frag) (C : Addr) : Sp := fun vs H Q _ => ∃ (x dx d : Addr) (n : V) (k : Nm × Str) (cl : List Cel), vs = [.ref x, n, .str k.2] ∧ DtAt K H n (nmD k.1) ∧ StR P w K C H x dx d cl ∧
  ∀ (v : V) (H1 : Hp), Stp [] H H1 → stOf K H1 v ((getC cl k).map (·.1)) → Q v H1
theorem key_mk2 {H : Hp} {t : Addr} {n : V} {k : Nm × Str} (h : TupAt K H t [n, .str k.2]) (hn : DtAt K H n (nmD k.1)) : KyAt K H (.ref t) (keyC k) :=
  KyAt.of (d := .tup [nmD k.1, .txt k.2]) (.tup h (.cons hn (.cons (.txt _) .nil)))
theorem mth_State_stamp (F : Dfm K C d_State_stamp) (CL_State : Cls K C) (NA : NoAttr K C "cells") : Mth P w K mg base lv_State_stamp C "stamp" ["self", "name", "field"] (spStamp P w K C) := by
  obtain ⟨f, fd, F, g⟩ := F
  refine ⟨f, fd, F.ok sc_State_stamp (fun vs H Q E h => ?_) (fun cdv A outer s H vs Q E hr h => ⟨_, PSs.nox
    (pss_cons (ps_if (pt_cmp (pc_nnotinK (P := P) (w := w) (K := K) rfl rfl rfl hr (pe_tup (pa_cons (pv 1) (pa_cons (pv 2) pa_nil))) (pe_fld (pv 0) rfl)))
      (pss_one (ps_ret pe_non))
      pss_nil)
    (pss_one (ps_ret (pe_ix (ix_tupK (K := K) rfl) (pe_ngetK (P := P) (w := w) (K := K) rfl rfl rfl hr (pe_fld (pv 0) rfl) (pe_tup (pa_cons (pv 1) (pa_cons (pv 2) pa_nil))) (fun _ _ => rfl)) pe_int (fun _ _ => rfl))))), ?_⟩), g, F.kp, F.bindsN fun _ _ _ _ _ _ us hl => match us, hl with | [_, _, _], _ => rfl⟩
  · obtain ⟨x, dx, d, n, k, cl, rfl, _⟩ := h
    rfl
  · obtain ⟨x, dx, d, n, k, cl, rfl, hn, ⟨hx, kvs, hd, hc⟩, q⟩ := h
    repeat walk_at "g"
    refine ⟨(by decide : 2 ≤ sizeLine), fun t ht => ?_⟩
    have s1 : Stp [] H (upd H t (.tup [n, .str k.2])) := .new ht
    repeat walk_at "g"
    have k1 : KyAt K (upd H t (.tup [n, .str k.2])) (.ref t) (keyC k) := key_mk2 (.inl upd_same) (DtAt.stp s1 _ _ rfl hn)
    have x1 := s1.keep _ _ hx (by simp)
    refine ⟨x, C, dx, _, .ref d, rfl, x1, CL_State, NA, rfl, ?_⟩
    refine ⟨d, t, kvs, keyC k, rfl, rfl, (hd.stp s1 (by simp)), k1, ?_⟩
    repeat walk_at "g"
    have dv := (hc.stp s1).val (keyC k)
    rw [valD_toD] at dv
    cases hq : getC cl k with
    | none =>
      rw [hq] at dv
      rcases dv with ⟨e1, _⟩ | ⟨_, _, _, e2, _⟩
      · rw [e1]
        refine i_ite (fun _ => ?_) (fun z => nomatch z)
        repeat walk_at "g"
        exact q _ _ s1 (by rw [hq]; exact rfl)
      · cases e2
    | some p =>
      rw [hq] at dv
      rcases dv with ⟨_, e2⟩ | ⟨y, dd, e1, e2, hy, _⟩
      · cases e2
      · obtain rfl := Option.some.inj e2
        rw [e1]
        refine i_ite (fun z => nomatch z) (fun _ => ?_)
        repeat walk_at "g"
        refine ⟨x, C, dx, _, .ref d, rfl, x1, CL_State, NA, rfl, ?_⟩
        repeat walk_at "g"
        refine ⟨(by decide : 2 ≤ sizeLine), fun t2 ht2 => ?_⟩
        have s2 : Stp [] (upd H t (.tup [n, .str k.2])) (upd (upd H t (.tup [n, .str k.2])) t2 (.tup [n, .str k.2])) := .new ht2
        refine ⟨d, t2, kvs, keyC k, y, rfl, rfl, ((hd.stp s1 (by simp)).stp s2 (by simp)), key_mk2 (.inl upd_same) (DtAt.stp (s1.trans s2) _ _ rfl hn), e1, ?_⟩
        have hy2 := DtAt.stp s2 _ _ (datC_flat p) hy
        obtain ⟨ya, ys, yv, rfl, hya, hys, hyv⟩ := cel_at hy2
        repeat walk_at "g"
        refine i_IxT hya.sqt (at_of (j := 0) rfl rfl) ?_
        exact q _ _ (s1.trans s2) (by rw [hq]; exact hys)
def vaO : Option (Nm × Va) → Va
  | none => .non
  | some p => p.2
def spValue (P : Program) (w : World) (K : PySem.W.Frag) (C : Addr) : Sp := fun vs H Q _ => ∃ (x dx d : Addr) (n : V) (k : Nm × Str) (cl : List Cel), vs = [.ref x, n, .str k.2] ∧ DtAt K H n (nmD k.1) ∧ StR P w K C H x dx d cl ∧
  ∀ (v : V) (H1 : Hp), Stp [] H H1 → DtAt K H1 v (vaD (vaO (getC cl k))) → Q v H1
theorem mth_State_value (F : Dfm K C d_State_value) (CL_State : Cls K C) (NA : NoAttr K C "cells") : Mth P w K mg base lv_State_value C "value" ["self", "name", "field"] (spValue P w K C) := by
  obtain ⟨f, fd, F, g⟩ := F
  refine ⟨f, fd, F.ok sc_State_value (fun vs H Q E h => ?_) (fun cdv A outer s H vs Q E hr h => ⟨_, PSs.nox
    (pss_cons (ps_if (pt_cmp (pc_nnotinK (P := P) (w := w) (K := K) rfl rfl rfl hr (pe_tup (pa_cons (pv 1) (pa_cons (pv 2) pa_nil))) (pe_fld (pv 0) rfl)))
      (pss_one (ps_ret pe_non))
      pss_nil)
    (pss_one (ps_ret (pe_ix (ix_tupK (K := K) rfl) (pe_ngetK (P := P) (w := w) (K := K) rfl rfl rfl hr (pe_fld (pv 0) rfl) (pe_tup (pa_cons (pv 1) (pa_cons (pv 2) pa_nil))) (fun _ _ => rfl)) pe_int (fun _ _ => rfl))))), ?_⟩), g, F.kp, F.bindsN fun _ _ _ _ _ _ us hl => match us, hl with | [_, _, _], _ => rfl⟩
  · obtain ⟨x, dx, d, n, k, cl, rfl, _⟩ := h
    rfl
  · obtain ⟨x, dx, d, n, k, cl, rfl, hn, ⟨hx, kvs, hd, hc⟩, q⟩ := h
    repeat walk_at "g"
    refine ⟨(by decide : 2 ≤ sizeLine), fun t ht => ?_⟩
    have s1 : Stp [] H (upd H t (.tup [n, .str k.2])) := .new ht
    repeat walk_at "g"
    have k1 : KyAt K (upd H t (.tup [n, .str k.2])) (.ref t) (keyC k) := key_mk2 (.inl upd_same) (DtAt.stp s1 _ _ rfl hn)
    have x1 := s1.keep _ _ hx (by simp)
    refine ⟨x, C, dx, _, .ref d, rfl, x1, CL_State, NA, rfl, ?_⟩
    refine ⟨d, t, kvs, keyC k, rfl, rfl, (hd.stp s1 (by simp)), k1, ?_⟩
    repeat walk_at "g"
    have dv := (hc.stp s1).val (keyC k)
    rw [valD_toD] at dv
    cases hq : getC cl k with
    | none =>
      rw [hq] at dv
      rcases dv with ⟨e1, _⟩ | ⟨_, _, _, e2, _⟩
      · rw [e1]
        refine i_ite (fun _ => ?_) (fun z => nomatch z)
        repeat walk_at "g"
        exact q _ _ s1 (by rw [hq]; exact .non)
      · cases e2
    | some p =>
      rw [hq] at dv
      rcases dv with ⟨_, e2⟩ | ⟨y, dd, e1, e2, hy, _⟩
      · cases e2
      · obtain rfl := Option.some.inj e2
        rw [e1]
        refine i_ite (fun z => nomatch z) (fun _ => ?_)
        repeat walk_at "g"
        refine ⟨x, C, dx, _, .ref d, rfl, x1, CL_State, NA, rfl, ?_⟩
        repeat walk_at "g"
        refine ⟨(by decide : 2 ≤ sizeLine), fun t2 ht2 => ?_⟩
        have s2 : Stp [] (upd H t (.tup [n, .str k.2])) (upd (upd H t (.tup [n, .str k.2])) t2 (.tup [n, .str k.2])) := .new ht2
        refine ⟨d, t2, kvs, keyC k, y, rfl, rfl, ((hd.stp s1 (by simp)).stp s2 (by simp)), key_mk2 (.inl upd_same) (DtAt.stp (s1.trans s2) _ _ rfl hn), e1, ?_⟩
        have hy2 := DtAt.stp s2 _ _ (datC_flat p) hy
        obtain ⟨ya, ys, yv, rfl, hya, hys, hyv⟩ := cel_at hy2
        repeat walk_at "g"
        refine i_IxT hya.sqt (at_of (j := 1) rfl rfl) ?_
        exact q _ _ (s1.trans s2) (by rw [hq]; exact hyv)
def spTake (P : Program) (w : World) (K : PySem.W.Frag) (C : Addr) : Sp := fun vs H Q _ => ∃ (x dx d : Addr) (v : V) (c : Ch) (cl : List Cel), vs = [.ref x, v] ∧ DtAt K H v (chD c) ∧ StA P w K C H x dx d cl ∧ cl.length ≤ 1000 ∧ x ≠ d ∧
  ∀ (H1 : Hp), Stp [d] H H1 → StA P w K C H1 x dx d (stpC cl c) → Q (.bl (newC cl c)) H1
theorem mth_State_take (F : Dfm K C d_State_take) (CL_State : Cls K C) (NA : NoAttr K C "cells") (M_State_stamp : Mth P w K mg base lv_State_stamp C "stamp" ["self", "name", "field"] (spStamp P w K C)) (C_is_later : Cal P w K mg base lv_is_later "is_later" ["stamp", "other"] (spLater K)) : Mth P w K mg base lv_State_take C "take" ["self", "change"] (spTake P w K C) := by
  obtain ⟨f, fd, F, g⟩ := F
  refine ⟨f, fd, F.ok sc_State_take (fun vs H Q E h => ?_) (fun cdv A outer s H vs Q E hr h => ⟨_, PSs.nox
    (pss_cons (ps_asg (pv 1) (pg_tup (by rfl) (pgs_cons (pg_name (i := 2) sc_State_take.nd rfl (Or.inl rfl)) (pgs_cons (pg_name (i := 3) sc_State_take.nd rfl (Or.inl rfl)) (pgs_cons (pg_name (i := 4) sc_State_take.nd rfl (Or.inl rfl)) (pgs_cons (pg_name (i := 5) sc_State_take.nd rfl (Or.inl rfl)) pgs_nil))))))
    (pss_cons (ps_if (pt_not (pt_val (pc_call C_is_later (hr.mono (by decide)) (by rfl) (pa_cons (pv 2) (pa_cons (pc_meth (pv 0) CL_State M_State_stamp (hr.mono (by decide)) (pa_cons (pv 3) (pa_cons (pv 4) pa_nil))) pa_nil)))))
      (pss_one (ps_ret pe_bl))
      pss_nil)
    (pss_cons (ps_nput hr (pe_fld (pv 0) rfl) (pe_tup (pa_cons (pv 3) (pa_cons (pv 4) pa_nil))) (pe_tup (pa_cons (pv 2) (pa_cons (pv 5) pa_nil))) rfl)
    (pss_one (ps_ret pe_bl))))), ?_⟩), g, F.kp, F.bindsN fun _ _ _ _ _ _ us hl => match us, hl with | [_, _], _ => rfl⟩
  · obtain ⟨x, dx, d, v, c, cl, rfl, _⟩ := h
    rfl
  · obtain ⟨x, dx, d, v, c, cl, rfl, hv0, ⟨hx, kvs, hd, hc⟩, hl, xd, q⟩ := h
    obtain ⟨a, s, n, v, rfl, ha, hs, hn, hv⟩ := chAt hv0
    repeat walk_at "g"
    refine i_gTup ha.sqt rfl ?_
    repeat walk_at "g"
    refine ⟨x, dx, _, rfl, hx, rfl, ?_⟩
    repeat walk_at "g"
    refine ⟨x, dx, d, n, (c.nm, c.fd), cl, rfl, hn, ⟨hx, kvs, hd.r, hc⟩, fun o H1 s1 ho => ?_⟩
    repeat walk_at "g"
    refine ⟨s, o, c.st, _, rfl, DtAt.stp s1 _ _ rfl hs, ho, ?_⟩
    have en : isLater c.st ((getC cl (c.nm, c.fd)).map (·.1)) = newC cl c := by
      unfold newC
      cases getC cl (c.nm, c.fd) <;> rfl
    rw [en]
    have x1 := s1.keep _ _ hx (by simp)
    have d1 := hd.stp s1 (by simp)
    have hc1 := hc.stp s1
    repeat walk_at "g"
    cases hnew : newC cl c with
    | false =>
      refine i_ite (fun _ => ?_) (fun z => nomatch z)
      repeat walk_at "g"
      rw [← hnew]
      exact q H1 (s1.mono (by simp)) ⟨x1, kvs, d1, by rw [stpC_eq, if_neg (by rw [hnew]; simp)]; exact hc1⟩
    | true =>
      refine i_ite (fun z => nomatch z) (fun _ => ?_)
      repeat walk_at "g"
      refine ⟨(by decide : 2 ≤ sizeLine), fun u hu => ?_⟩
      have s2 : Stp [] H1 (upd H1 u (.tup [s, v])) := .new hu
      repeat walk_at "g"
      refine ⟨x, C, dx, _, .ref d, rfl, s2.keep _ _ x1 (by simp), CL_State, NA, rfl, ?_⟩
      repeat walk_at "g"
      refine ⟨(by decide : 2 ≤ sizeLine), fun t ht => ?_⟩
      have s3 : Stp [] (upd H1 u (.tup [s, v])) (upd (upd H1 u (.tup [s, v])) t (.tup [n, .str c.fd])) := .new ht
      have s23 := s2.trans s3
      have s123 := s1.trans s23
      refine ⟨d, t, kvs, keyC (c.nm, c.fd), rfl, rfl, d1.stp s23 (by simp), key_mk (.inl upd_same) (DtAt.stp s123 _ _ rfl hn), ?_, fun H5 n5 s5 _ => ?_⟩
      · rw [hc.len, toD_len]; exact Nat.lt_of_le_of_lt hl (by decide)
      · repeat walk_at "g"
        rw [← hnew]
        refine q H5 ((s123.mono (by simp)).trans s5) ⟨s5.keep _ _ (s23.keep _ _ x1 (by simp)) (by simpa using xd), _, n5, ?_⟩
        rw [stpC_eq, if_pos hnew, toD_put]
        refine ((hc1.stp s23).stp s5).put (DtAt.stp s5 _ _ (datC_flat (c.st, c.va)) (.tup (.inl (s3.tups _ _ upd_same)) (.cons (DtAt.stp s123 _ _ rfl hs) (.cons (DtAt.stp s123 _ _ (vaD_flat c.va) hv) .nil)))) (datC_flat _) (Nat.le_trans (datC_depth _) (by decide))
def spEqual (P : Program) (w : World) (K : PySem.W.Frag) (C : Addr) : Sp := fun vs H Q _ => ∃ (x dx d y dy e : Addr) (a b : List Cel), vs = [.ref x, .ref y] ∧ StA P w K C H x dx d a ∧ StA P w K C H y dy e b ∧
  (((toD a).map (·.1)).Nodup → ((toD b).map (·.1)).Nodup → Q (.bl (dEq (toD a) (toD b))) H)
end

/-! ### the greatest stamp -/
section
variable {P : Program} {w : World} {K : PySem.W.Frag} {mg : Str → Option Value} {base : Heap}
/-- the greatest of some stamps -/
def Top (ss : List Nm) : Option Nm → Prop
  | none => ss = []
  | some b => b ∈ ss ∧ ∀ c ∈ ss, ltP2 b c = false
theorem i_CKw {r : List V → List V → Hp → VK → Prop} {t tk : TA} {σ : L2.St} {H : Hp} {Q : VK} (q : t σ H fun vs H1 => tk σ H1 fun zs H2 => r vs zs H2 Q) : tCKw r t tk σ H Q := q
theorem nm_py (a : Nm) : (nmD a).py = .tuple [.int a.1, .int a.2] := rfl
theorem ltNm (a b : Nm) : PySem.W.dataLt (nmD a).py (nmD b).py = ltP2 a b := PySem.W.dataLt_ii a.1 a.2 b.1 b.2
theorem top_of : ∀ (as : List Nm) (a : Nm), ∃ b, PySem.W.maxD (nmD a).py (as.map fun n => (nmD n).py) = (nmD b).py ∧ b ∈ a :: as ∧ ∀ c ∈ a :: as, ltP2 b c = false
  | [], a => ⟨a, rfl, by simp, fun c hc => by rw [List.mem_singleton.mp hc]; exact ltP2_irr a⟩
  | y :: ys, a => by
    have e : PySem.W.maxD (nmD a).py ((y :: ys).map fun n => (nmD n).py) = PySem.W.maxD (if PySem.W.dataLt (nmD a).py (nmD y).py then (nmD y).py else (nmD a).py) (ys.map fun n => (nmD n).py) := rfl
    rw [e, ltNm]
    cases h : ltP2 a y with
    | true =>
      obtain ⟨b, h1, h2, h3⟩ := top_of ys y
      refine ⟨b, by simpa using h1, List.mem_cons_of_mem _ h2, fun c hc => ?_⟩
      rcases List.mem_cons.mp hc with z | hc
      · have h4 := h3 y List.mem_cons_self
        rw [z]
        simp only [ltP2, decide_eq_false_iff_not, decide_eq_true_eq] at h h4 ⊢
        omega
      · exact h3 c hc
    | false =>
      obtain ⟨b, h1, h2, h3⟩ := top_of ys a
      refine ⟨b, by simpa using h1, ?_, fun c hc => ?_⟩
      · rcases List.mem_cons.mp h2 with z | z
        · rw [z]; exact List.mem_cons_self
        · exact List.mem_cons_of_mem _ (List.mem_cons_of_mem _ z)
      · rcases List.mem_cons.mp hc with z | hc
        · exact h3 c (by rw [z]; exact List.mem_cons_self)
        · rcases List.mem_cons.mp hc with z | hc
          · have h4 := h3 a List.mem_cons_self
            rw [z]
            simp only [ltP2, decide_eq_false_iff_not] at h h4 ⊢
            omega
          · exact h3 c (List.mem_cons_of_mem _ hc)
theorem nms_map {ss : List Nm} {c : Nm} {vs : List V} {v : V} {H : Hp} (h : DtsAt K H vs (ss.map nmD)) (k : DtAt K H v (nmD c)) : DtsAt K H (vs ++ [v]) ((ss ++ [c]).map nmD) := by
  rw [List.map_append]; exact h.append (.cons k .nil)
theorem nms_flat : ∀ ss : List Nm, Dt.flatAll (ss.map nmD) = true
  | [] => rfl
  | s :: ss => by rw [List.map_cons, Dt.flatAll, nms_flat ss]; rfl
theorem nms_depth : ∀ ss : List Nm, Dt.depthAll (ss.map nmD) ≤ 1
  | [] => Nat.zero_le _
  | s :: ss => by
    have := nms_depth ss
    rw [List.map_cons, Dt.depthAll]
    have : (nmD s).depth = 1 := rfl
    omega
theorem nms_alike (ss : List Nm) : PySem.W.AllAlike ((ss.map nmD).map Dt.py) := fun d hd e he => by
  rw [List.map_map] at hd he
  obtain ⟨a, _, rfl⟩ := List.mem_map.mp hd
  obtain ⟨b, _, rfl⟩ := List.mem_map.mp he
  rfl
theorem nms_sortable (ss : List Nm) : PySem.W.Sortable ((ss.map nmD).map Dt.py) := .inl fun d hd => by
  rw [List.map_map] at hd
  obtain ⟨a, _, rfl⟩ := List.mem_map.mp hd
  exact ⟨_, _, rfl⟩
def spGreatest (K : PySem.W.Frag) : Sp := fun vs H Q _ => ∃ (r : Addr) (ws : List V) (cs : List Ch), vs = [.ref r] ∧ SqL K H r ws ∧ DtsAt K H ws (cs.map chD) ∧ ws.length ≤ 1000 ∧
  ∀ (v : V) (x : Option Nm) (H1 : Hp), Stp [] H H1 → stOf K H1 v x → Top (cs.map Ch.st) x → Q v H1
end
/-! ### sorted stamps -/
theorem leD_nm (a b : Nm) : leD (nmD a) (nmD b) = !ltP2 b a := by
  unfold leD
  rw [PySem.W.dataLe_eq]
  show (!PySem.W.dataLt (nmD b).py (nmD a).py) = _
  rw [ltNm]
theorem one_sorted {α : Type} {r : α → α → Prop} : ∀ (l m : List α), l.Perm m → l.Pairwise r → m.Pairwise r → (∀ a ∈ l, ∀ b ∈ l, r a b → r b a → a = b) → l = m
  | [], m, p, _, _, _ => by rw [List.nil_perm.mp p]
  | a :: l, [], p, _, _, _ => by have := p.length_eq; cases this
  | a :: l, b :: m, p, hl, hm, anti => by
    rw [List.pairwise_cons] at hl hm
    have ab : a = b := by
      rcases List.mem_cons.mp (p.mem_iff.mp List.mem_cons_self) with e | ha
      · exact e
      · have hb : b ∈ a :: l := p.mem_iff.mpr List.mem_cons_self
        rcases List.mem_cons.mp hb with e | hb'
        · exact e.symm
        · exact anti a List.mem_cons_self b hb (hl.1 b hb') (hm.1 a ha)
    subst ab
    rw [one_sorted l m (List.perm_cons a |>.mp p) hl.2 hm.2 fun x hx y hy => anti x (List.mem_cons_of_mem _ hx) y (List.mem_cons_of_mem _ hy)]
/-- sorted(stamps) -/
theorem nm_sorted {ss ts : List Nm} (p : ts.Perm ss) (o : ts.Pairwise fun a b => ltP2 b a = false) : (ss.map nmD).mergeSort leD = ts.map nmD := by
  have tot : PySem.W.TotalLe leD := by
    have h : PySem.W.TotalLe (PySem.W.dataLe false Dt.py) := by
      unfold PySem.W.dataLe
      exact PySem.W.sortLe_total _ _ _
    exact h
  have s1 := PySem.W.sort_pairwise tot (ss.map nmD)
  have p1 : ((ss.map nmD).mergeSort leD).Perm (ts.map nmD) := (List.mergeSort_perm _ _).trans (p.map nmD).symm
  have s2 : (ts.map nmD).Pairwise fun a b => leD a b = true := by
    rw [List.pairwise_map]
    exact o.imp fun {a b} h => by rw [leD_nm, h]; rfl
  refine one_sorted _ _ p1 s1 s2 fun x hx y hy h1 h2 => ?_
  obtain ⟨a, _, rfl⟩ := List.mem_map.mp (p1.mem_iff.mp hx)
  obtain ⟨b, _, rfl⟩ := List.mem_map.mp (p1.mem_iff.mp hy)
  rw [leD_nm] at h1 h2
  rw [ltP2_tri (a := a) (b := b) (by simpa using h2) (by simpa using h1)]

/-! ### the changes by ascending stamps, each once -/
open PySem.W in
theorem lt_first {x y : PyData} (h : alike x y = true) (l : dataLt x y = true) (xs ys : List PyData) : dataLt (.tuple (x :: xs)) (.tuple (y :: ys)) = true := by
  have ne : PyData.eqv x y = false := by
    cases e : PyData.eqv x y with
    | false => rfl
    | true =>
      have q : keyToks x = keyToks y := (toks_eqv x y h).1 e
      unfold dataLt at l
      rw [q] at l
      have z : dataLt y y = false := by unfold dataLt; exact PyProof.Rows.lex_irrefl _
      unfold dataLt at z
      rw [z] at l
      cases l
  rw [dataLt_tuple, dataLt_all_no h ne]
  exact l
theorem key3_ch (c : Ch) : key3 (chD c) = .tuple [(nmD c.st).py, (nmD c.nm).py, .str c.fd] := rfl
theorem le_st {a b : Ch} (h : PySem.W.dataLe false key3 (chD a) (chD b) = true) : ltP2 b.st a.st = false := by
  cases q : ltP2 b.st a.st with
  | false => rfl
  | true =>
    rw [PySem.W.dataLe_eq] at h
    have h1 : (!PySem.W.dataLt (key3 (chD b)) (key3 (chD a))) = true := h
    rw [key3_ch, key3_ch, lt_first rfl (by rw [ltNm]; exact q)] at h1
    cases h1
theorem of_perm_map {α β : Type} {f : α → β} {l m : List β} (p : l.Perm m) : ∀ {as : List α}, m = as.map f → ∃ bs : List α, bs.Perm as ∧ l = bs.map f := by
  induction p with
  | nil => intro as h; exact ⟨as, .refl _, h⟩
  | cons x _ ih =>
    intro as h
    cases as with
    | nil => cases h
    | cons a as =>
      injection h with h1 h2
      obtain ⟨bs, p1, p2⟩ := ih h2
      exact ⟨a :: bs, p1.cons a, by rw [h1, p2]; rfl⟩
  | swap x y l =>
    intro as h
    match as, h with
    | [], h => cases h
    | [_], h => cases h
    | a :: b :: as, h =>
      injection h with h1 h2
      injection h2 with h2 h3
      exact ⟨b :: a :: as, List.Perm.swap .., by rw [h1, h2, h3]; rfl⟩
  | trans _ _ ih1 ih2 =>
    intro as h
    obtain ⟨bs, p1, h1⟩ := ih2 h
    obtain ⟨cs, p2, h2⟩ := ih1 h1
    exact ⟨cs, p2.trans p1, h2⟩
/-- es: the changes cs, each once, by ascending stamps -/
structure Ranked (cs es : List Ch) : Prop where
  once : es.Nodup
  mem : ∀ c, c ∈ es ↔ c ∈ cs
  asc : es.Pairwise fun a b => ltP2 b.st a.st = false
abbrev lamQ : Str := (envOfC d_sorted_changes.qual d_sorted_changes.scope 0 0 .none).qual ++ "<lambda>"
/-- a def whose code object is told -/
def DfC (K : PySem.W.Frag) (mg : Str → Option Value) (d : He.DefD) (c : Addr) : Prop :=
  ∃ (f : Addr) (fd : FuncData), FunD K d.name d.qual d.params d.body d.scope [] [] f fd ∧ mg d.name = some (.ref f) ∧ fd.code = .ref c
section
variable {P : Program} {w : World} {K : PySem.W.Frag} {mg : Str → Option Value} {base : Heap} {c T : Addr}
def spSorted (K : PySem.W.Frag) (T : Addr) : Sp := fun vs H Q _ => ∃ (r : Addr) (ws : List V) (cs : List Ch) (L : List Addr), vs = [.ref r] ∧ SqL K H r ws ∧ DtsAt K H ws (cs.map chD) ∧ ws.length ≤ 1000 ∧ Tab H T lamQ L ∧
  ∀ (p : Addr) (ys : List V) (es : List Ch) (H1 : Hp) (L1 : List Addr), Tab H1 T lamQ L1 → (∀ c ∈ L1, c ∈ L ∨ H c = none) → Stp [T] H H1 → H p = none → H1 p = some (.lst ys) → DtsAt K H1 ys (es.map chD) → Ranked cs es → Q (.ref p) H1
theorem chKey_inj {a b : Ch} (h : (chD a).key = (chD b).key) : a = b := chD_inj (Dt.key_inj _ _ (chD_flat a) (chD_flat b) h)
theorem cal_sorted_changes (F : DfC K mg d_sorted_changes c) (B : Blt mg) (TB : LamX.TabB base mg c T) : Cal P w K mg base lv_sorted_changes "sorted_changes" ["changes"] (spSorted K T) := by
  obtain ⟨f, fd, F, g, ec⟩ := F
  refine ⟨f, fd, GT.FunD.okC F ec sc_sorted_changes (fun vs H Q E h => ?_) (fun A outer s H vs Q E hr h => ⟨_, PSs.nox
    (pss_cons (ps_setDn (P := P) (w := w) (K := K) (i := 1) (own := [("change", 2)]) (g := gName 2) rfl rfl rfl hr (by rfl) sc_sorted_changes.nd rfl rfl (sw_dict rfl rfl rfl (by decide +kernel)) (pi_list (pv 0)) (blkOk_by (N := ["changes", "once", "change"]) (own := [("change", 2)]) (sc := defScope s_sorted_changes) (by decide +kernel)) (fun _ _ _ _ _ => (pg_name (i := 2) sc_sorted_changes.nd rfl (Or.inl rfl))) (fun _ _ _ _ _ => pts_nil) (fun _ _ _ _ _ => (pv 2)) (fun _ _ _ _ _ => pe_bl))
    (pss_one (ps_ret (pe_sortL (P := P) (w := w) (K := K) (k := 0) rfl rfl rfl hr (by rfl) TB rfl (by rfl) B.sorted (pv 1))))), ?_⟩), g, F.kp, F.bindsN fun _ _ _ _ _ _ us hl => match us, hl with | [_], _ => rfl⟩
  · obtain ⟨r, ws, cs, L, rfl, _⟩ := h
    rfl
  · obtain ⟨r, ws, cs, L, rfl, hr1, hd, hl, hT, q⟩ := h
    repeat walk_at "g"
    refine i_Dn ?_
    repeat walk_at "g"
    refine ⟨r, rfl, ⟨ws, hr1⟩, fun D H2 hD nd0 s0 => ?_⟩
    have wl : ws.length = cs.length := by have := hd.length; rwa [List.length_map] at this
    refine dn_list (P := P) (w := w) (K := K) (xs := ws) (fun i H' => Stp [] H H' ∧ ∃ kvs es, ND P w K H' D kvs ∧ kvs.map (·.1) = (es.map chD).map Dt.key ∧ es.Nodup ∧ ∀ c : Ch, c ∈ es ↔ c ∈ cs.take i)
      ⟨s0, [], [], nd0, rfl, List.nodup_nil, by simp⟩ (fun i H' _ ⟨h, _⟩ => h.seq hr1 (by simp)) ?_ ?_
    · rintro i x H1 hx ⟨s1, kvs, es, nd1, hk1, hn1, hm1⟩
      obtain ⟨e, he, de⟩ := ch_get (chs_stp hd s1) hx
      obtain ⟨a, sv, n, v, rfl, _⟩ := chAt de
      have hi : i < ws.length := (List.getElem?_eq_some_iff.mp hx).1
      have len1 : kvs.length ≤ 1000 := by
        have h1 := congrArg List.length hk1
        have h2 := len_sub es (cs.take i) hn1 fun z hz => (hm1 z).mp hz
        rw [List.length_take] at h2
        simp only [List.length_map] at h1
        omega
      repeat walk_at "g"
      refine ⟨rfl, i_Yes ?_⟩
      refine i_ite (fun _ => ?_) (fun z => nomatch z)
      repeat walk_at "g"
      refine ⟨a, kvs, (chD e).key, rfl, nd1, KyAt.of de (chD_flat e) (Nat.le_trans (chD_depth e) (by decide)), Nat.lt_of_le_of_lt len1 (by decide), fun H6 nd6 st6 => ⟨s1.into hD st6, _, if e ∈ es then es else es ++ [e], nd6, ?_, ?_, fun z => ?_⟩⟩
      · have iff1 : (kvs.any fun kv => decide (kv.1 = (chD e).key)) = true ↔ e ∈ es := by
          rw [List.any_eq_true]
          constructor
          · rintro ⟨kv, h1, h2⟩
            have h3 : kv.1 ∈ (es.map chD).map Dt.key := by rw [← hk1]; exact List.mem_map.mpr ⟨kv, h1, rfl⟩
            rw [List.map_map] at h3
            obtain ⟨z, hz, e2⟩ := List.mem_map.mp h3
            rw [← chKey_inj (show (chD z).key = (chD e).key from e2.trans (of_decide_eq_true h2))]
            exact hz
          · intro h1
            have h3 : (chD e).key ∈ kvs.map (·.1) := by rw [hk1, List.map_map]; exact List.mem_map.mpr ⟨e, h1, rfl⟩
            obtain ⟨kv, h4, h5⟩ := List.mem_map.mp h3
            exact ⟨kv, h4, decide_eq_true h5⟩
        rw [putK_keys]
        by_cases h1 : e ∈ es
        · rw [if_pos (iff1.mpr h1), if_pos h1]; exact hk1
        · rw [if_neg (fun z => h1 (iff1.mp z)), if_neg h1, hk1]; simp
      · by_cases h1 : e ∈ es
        · rw [if_pos h1]; exact hn1
        · rw [if_neg h1, List.nodup_append]
          exact ⟨hn1, by simp, fun x hx y hy z => h1 (by rw [← List.mem_singleton.mp hy, ← z]; exact hx)⟩
      · have tk : cs.take (i + 1) = cs.take i ++ [e] := by rw [List.take_add_one, he]; rfl
        rw [tk]
        by_cases h1 : e ∈ es
        · rw [if_pos h1, List.mem_append, List.mem_singleton, hm1]
          exact ⟨.inl, fun h => h.elim id fun h => by rw [h]; exact (hm1 e).mp h1⟩
        · rw [if_neg h1, List.mem_append, List.mem_append, hm1]
    · rintro H1 ⟨s1, kvs, es, nd1, hk1, hn1, hm1⟩
      rw [wl, List.take_length] at hm1
      repeat walk_at "g"
      have fl : Dt.flatAll (es.map chD) = true := flat_all fun z hz => by
        obtain ⟨c, _, rfl⟩ := List.mem_map.mp hz
        exact chD_flat c
      have dp : ∀ l : List Ch, Dt.depthAll (l.map chD) ≤ 3 := fun l => by
        induction l with
        | nil => exact Nat.zero_le _
        | cons c l ih => rw [List.map_cons, Dt.depthAll]; have := chD_depth c; omega
      refine ⟨_, rfl, L, hT.grow s1, D, kvs, es.map chD, rfl, nd1, hk1, fl, Nat.le_trans (dp es) (by decide), fun z hz => ?_, fun a ha b hb => ?_, .inl fun d hd => ?_, fun p ys H3 L3 t3 fresh st np hp dy => ?_⟩
      · obtain ⟨c, _, rfl⟩ := List.mem_map.mp hz
        exact ⟨_, _, _, _, rfl⟩
      · rw [List.map_map] at ha hb
        obtain ⟨_, _, rfl⟩ := List.mem_map.mp ha
        obtain ⟨_, _, rfl⟩ := List.mem_map.mp hb
        rfl
      · rw [List.map_map] at hd
        obtain ⟨_, _, rfl⟩ := List.mem_map.mp hd
        exact ⟨_, _, rfl⟩
      · have tot : PySem.W.TotalLe (PySem.W.dataLe false key3) := by
          unfold PySem.W.dataLe
          exact PySem.W.sortLe_total _ _ _
        have asc := PySem.W.sort_pairwise tot (es.map chD)
        obtain ⟨fs, pf, ef⟩ := of_perm_map (List.mergeSort_perm (es.map chD) (PySem.W.dataLe false key3)) rfl
        rw [ef] at asc dy
        rw [List.pairwise_map] at asc
        refine q p ys fs H3 L3 t3 (fun c hc => (fresh c hc).imp_right fun z => s1.free z (by simp)) ((s1.mono (by simp)).trans st) (s1.free np (by simp)) hp dy ⟨pf.nodup_iff.mpr hn1, fun c => (pf.mem_iff).trans (hm1 c), asc.imp fun {a b} h => le_st h⟩
end

/-! ### the changes that make a state, its copy -/
section
variable {P : Program} {w : World} {K : PySem.W.Frag} {mg : Str → Option Value} {base : Heap} {C c T : Addr}
def chOf (p : Cel) : Ch := ⟨p.2.1, p.1.1, p.1.2, p.2.2⟩
def chsOf (cl : List Cel) : List Ch := cl.map chOf
theorem ky_cel {H : Hp} {a : Addr} {k : Nm × Str} (h : KyAt K H (.ref a) (keyC k)) : ∃ n, TupAt K H a [n, .str k.2] ∧ DtAt K H n (nmD k.1) := by
  obtain ⟨d, f, e, _, h⟩ := h
  have e2 : d = .tup [nmD k.1, .txt k.2] := Dt.key_inj _ _ f rfl e
  subst e2
  cases h with
  | tup h1 h2 =>
    cases h2 with
    | cons a1 h2 =>
      cases h2 with
      | cons a2 h2 =>
        cases h2
        obtain rfl := txtAt a2
        exact ⟨_, h1, a1⟩
theorem cel_get {H : Hp} {xs : List (NestedKey × Addr × V)} {cl : List Cel} {i : Nat} {x : NestedKey × Addr × V} (dd : DD K H (plainX xs) (toD cl)) (hx : xs[i]? = some x) : ∃ p, cl[i]? = some p ∧ x.1 = keyC p.1 ∧ DtAt K H x.2.2 (datC p.2) := by
  obtain ⟨y, hy, e1, e2, _⟩ := paired_get dd (plainX_at hx)
  unfold toD at hy
  rw [List.getElem?_map] at hy
  obtain ⟨p, hp, rfl⟩ := Option.map_eq_some_iff.mp hy
  exact ⟨p, hp, e1, e2⟩
theorem DD.len_cl {H : Hp} {kvs : List NKV} {cl : List Cel} (dd : DD K H kvs (toD cl)) : kvs.length = cl.length := by rw [dd.len, toD_len]
def spChangesS (P : Program) (w : World) (K : PySem.W.Frag) (C T : Addr) : Sp := fun vs H Q _ => ∃ (x dx d : Addr) (cl : List Cel) (L : List Addr), vs = [.ref x] ∧ StA P w K C H x dx d cl ∧ x ≠ d ∧ cl.length ≤ 1000 ∧ Tab H T lamQ L ∧
  ∀ (p : Addr) (ys : List V) (es : List Ch) (H1 : Hp) (L1 : List Addr), Tab H1 T lamQ L1 → (∀ c ∈ L1, c ∈ L ∨ H c = none) → Stp [T] H H1 → H p = none → H1 p = some (.lst ys) → DtsAt K H1 ys (es.map chD) → Ranked (chsOf cl) es → Q (.ref p) H1
theorem mth_State_changes (F : Dfm K C d_State_changes) (CL_State : Cls K C) (NA : NoAttr K C "cells") (C_sorted_changes : Cal P w K mg base lv_sorted_changes "sorted_changes" ["changes"] (spSorted K T)) : Mth P w K mg base lv_State_changes C "changes" ["self"] (spChangesS P w K C T) := by
  obtain ⟨f, fd, F, g⟩ := F
  refine ⟨f, fd, F.ok sc_State_changes (fun vs H Q E h => ?_) (fun cdv A outer s H vs Q E hr h => ⟨_, PSs.nox
    (pss_one (ps_ret (pc_call C_sorted_changes (hr.mono (by decide)) (by rfl) (pa_cons (pe_lock (pe_lc (own := [("name", 1), ("field", 2), ("stamp", 3), ("value", 4)]) (g := gTup _ 2 (gCons (gTup _ 2 (gCons (gName 1) (gCons (gName 2) gNil))) (gCons (gTup _ 2 (gCons (gName 3) (gCons (gName 4) gNil))) gNil))) (by rfl) sc_State_changes.nd (pi_ni (pe_fld (pv 0) rfl)) (blkOk_by (N := ["self", "name", "field", "stamp", "value"]) (own := [("name", 1), ("field", 2), ("stamp", 3), ("value", 4)]) (sc := defScope s_State_changes) (by decide +kernel)) (fun _ _ _ _ _ => (pg_tup (by rfl) (pgs_cons (pg_tup (by rfl) (pgs_cons (pg_name (i := 1) sc_State_changes.nd rfl (Or.inl rfl)) (pgs_cons (pg_name (i := 2) sc_State_changes.nd rfl (Or.inl rfl)) pgs_nil))) (pgs_cons (pg_tup (by rfl) (pgs_cons (pg_name (i := 3) sc_State_changes.nd rfl (Or.inl rfl)) (pgs_cons (pg_name (i := 4) sc_State_changes.nd rfl (Or.inl rfl)) pgs_nil))) pgs_nil)))) (fun _ _ _ _ _ => pts_nil) (fun _ _ _ _ _ => (pe_tup (pa_cons (pv 3) (pa_cons (pv 1) (pa_cons (pv 2) (pa_cons (pv 4) pa_nil)))))))) pa_nil)))), ?_⟩), g, F.kp, F.bindsN fun _ _ _ _ _ _ us hl => match us, hl with | [_], _ => rfl⟩
  · obtain ⟨x, dx, d, cl, L, rfl, _⟩ := h
    rfl
  · obtain ⟨x, dx, d, cl, L, rfl, ⟨hx, kvs, hn, hd⟩, xd, hl, hT, q⟩ := h
    repeat walk_at "h"
    refine lockE_nd hn fun o xs hxs kx ex => ?_
    subst hxs
    have s0 : Stp [d] H (upd H d (.frz o (ndO P w d xs))) := Stp.lock ex ndO_nt
    repeat walk_at "h"
    refine i_Lc (i_Nki ?_)
    repeat walk_at "h"
    have x0 : upd H d (.frz o (ndO P w d xs)) x = some (.ins C dx [(cellsS, .ref d)]) := by rw [upd_ne xd]; exact hx
    have d0 : upd H d (.frz o (ndO P w d xs)) d = some (.frz o (ndO P w d xs)) := upd_same
    have kx0 := kx.stp s0
    have dd0 := hd.stp s0
    refine ⟨x, C, dx, _, .ref d, rfl, x0, CL_State, NA, rfl, d, o, xs, rfl, d0, fun l hl0 => ?_⟩
    have dl : d ≠ l := ne_of_none d0 hl0
    generalize upd H d (.frz o (ndO P w d xs)) = H0 at s0 x0 d0 kx0 dd0 hl0 ⊢
    have xl : xs.length = cl.length := by rw [← plainX_len]; exact hd.len_cl
    refine lc_ni (xs := xs) (fun i H' => Stp [] H0 H' ∧ ∃ acc, H' l = some (.lst acc) ∧ DtsAt K H' acc (((chsOf cl).take i).map chD)) ⟨.new hl0, [], upd_same, .nil⟩ (fun i H' _ h => h.1.keep _ _ d0 (by simp)) ?_ ?_
    · rintro i e H1 T1 he ⟨s1, acc, h1, d1⟩ nT
      obtain ⟨p, hp, ek, dv⟩ := cel_get dd0 he
      have s2 : Stp [] H1 (upd H1 T1 (.tup [.ref e.2.1, e.2.2])) := .new nT
      have tT : TupAt K (upd H1 T1 (.tup [.ref e.2.1, e.2.2])) T1 [.ref e.2.1, e.2.2] := .inl upd_same
      have lT : l ≠ T1 := ne_of_none h1 nT
      have h2 := s2.keep _ _ h1 (by simp)
      have d2 : DtsAt K _ acc (((chsOf cl).take i).map chD) := chs_stp d1 s2
      have ky := (kx0 e (List.mem_of_getElem? he)).stp (s1.trans s2)
      rw [ek] at ky
      obtain ⟨n, kt, dn⟩ := ky_cel ky
      obtain ⟨va, sv, yv, ev, vt, ds, dy⟩ := cel_at (DtAt.stp (s1.trans s2) _ _ (datC_flat p.2) dv)
      have s12 := s1.trans s2
      generalize upd H1 T1 (.tup [.ref e.2.1, e.2.2]) = H2 at s2 tT h2 d2 ky kt dn vt ds dy s12 ⊢
      rw [ev] at tT
      refine i_gTup tT.sqt rfl ?_
      repeat walk_at "h"
      refine i_gTup kt.sqt rfl ?_
      repeat walk_at "h"
      refine i_gTup vt.sqt rfl ?_
      repeat walk_at "h"
      refine ⟨rfl, i_Yes ?_⟩
      refine i_ite (fun _ => ?_) (fun z => nomatch z)
      repeat walk_at "h"
      refine ⟨(by decide : 4 ≤ sizeLine), fun t ht => ?_⟩
      have lt : l ≠ t := ne_of_none h2 ht
      have s3 : Stp [] H2 (upd H2 t (.tup [sv, n, .str p.1.2, yv])) := .new ht
      have dt3 : DtAt K (upd H2 t (.tup [sv, n, .str p.1.2, yv])) (.ref t) (chD (chOf p)) := ch_mk (.inl upd_same) (DtAt.stp s3 _ _ rfl ds) (DtAt.stp s3 _ _ rfl dn) (DtAt.stp s3 _ _ (vaD_flat _) dy)
      have h3 := s3.keep _ _ h2 (by simp)
      have d3 : DtsAt K _ acc (((chsOf cl).take i).map chD) := chs_stp d2 s3
      have s03 := s12.trans s3
      have n0 : H0 l = none := hl0
      generalize upd H2 t (.tup [sv, n, .str p.1.2, yv]) = H3 at s3 dt3 h3 d3 s03 ⊢
      have s4 : Stp [l] H3 (upd H3 l (.lst (acc ++ [.ref t]))) := .wr (by simp) h3 fun _ z => nomatch z
      have al : acc.length ≤ 1000 := by
        have := d3.length
        rw [List.length_map, List.length_take] at this
        have : (chsOf cl).length = cl.length := by simp [chsOf]
        omega
      have tk : (chsOf cl).take (i + 1) = (chsOf cl).take i ++ [chOf p] := by
        unfold chsOf
        rw [List.take_add_one, List.getElem?_map, hp]; rfl
      refine ⟨acc, h3, Nat.lt_of_le_of_lt al (by decide), s03.into n0 s4, _, upd_same, ?_⟩
      rw [tk]
      exact dts_map (chs_stp d3 s4) (DtAt.stp s4 _ _ (chD_flat _) dt3)
    · rintro H1 ⟨s1, acc, h1, d1⟩
      have tk : (chsOf cl).take xs.length = chsOf cl := List.take_of_length_le (by simp [chsOf, xl])
      rw [tk] at d1
      have dd1 := s1.keep _ _ d0 (by simp)
      refine ⟨dd1, ?_⟩
      have off := Stp.off dd1
      have sH : Stp [] H (upd H1 d (ndO P w d xs)) := Stp.unlock (s0.trans (s1.mono (by simp))) ex ndO_nt
      have h2 : upd H1 d (ndO P w d xs) l = some (.lst acc) := by rw [upd_ne dl.symm]; exact h1
      have d2 := chs_stp d1 off
      generalize upd H1 d (ndO P w d xs) = H2 at off sH h2 d2 ⊢
      repeat walk_at "h"
      have acl : acc.length ≤ 1000 := by
        have := d2.length
        rw [List.length_map] at this
        have : (chsOf cl).length = cl.length := by simp [chsOf]
        omega
      exact ⟨l, acc, chsOf cl, L, rfl, SqL.of h2, d2, acl, hT.grow sH, fun p ys es H3 L1 t3 fresh s3 np hp dy R => q p ys es H3 L1 t3 (fun c hc => (fresh c hc).imp_right fun z => sH.free z (by simp)) ((sH.mono (by simp)).trans s3) (sH.free np (by simp)) hp dy R⟩
end

/-! ### a state's copy -/
section
variable {P : Program} {w : World} {K : PySem.W.Frag} {mg : Str → Option Value} {base : Heap} {C : Addr}
/-- over the keys of a locked dict -/
theorem dn_n {g : TG} {tt : TT} {tk tv : TE} {vs : List Nat} {σ : L2.St} {d : Addr} {o : Obj} {xs : List (NestedKey × Addr × V)} {H2 : Hp} {D : Addr} {Qd : Hp → Prop} (Pv : Nat → Hp → Prop) (h0 : Pv 0 H2) (hl : ∀ i H, i ≤ xs.length → Pv i H → H d = some (.frz o (ndO P w d xs)))
    (hs : ∀ i x H, xs[i]? = some x → Pv i H → g (.ref x.2.1) (wipe σ vs) H fun σ2 H2 => wipe σ2 vs = wipe σ vs ∧ tt σ2 H2 fun b H3 =>
      if b = true then tk σ2 H3 fun y H4 => tv σ2 H4 fun z H5 => ∃ a kvs k, y = .ref a ∧ ND P w K H5 D kvs ∧ KyAt K H5 (.ref a) k ∧ kvs.length < sizeLine ∧ ∀ H6, ND P w K H6 D (putK kvs k z) → Stp [D] H5 H6 → Pv (i + 1) H6 else Pv (i + 1) H3) (hd : ∀ H, Pv xs.length H → Qd H) :
    ∃ W : Nat → Nat → Hp → Prop, (∃ m, W 0 m H2) ∧ ∀ i m H, W i m H →
      ((ItN P w d o xs).stop i H ∧ Qd H) ∨ ((ItN P w d o xs).go i H ∧ ∃ Nx : Hp → Prop, (∀ H', Nx H' → ∃ m', m' < m ∧ W (i + 1) m' H') ∧ ∀ x H', (ItN P w d o xs).yld i H x H' → g x (wipe σ vs) H' fun σ2 H2 => wipe σ2 vs = wipe σ vs ∧ tt σ2 H2 fun b H3 =>
        if b = true then tk σ2 H3 fun y H4 => tv σ2 H4 fun z H5 => ∃ a kvs k, y = .ref a ∧ ND P w K H5 D kvs ∧ KyAt K H5 (.ref a) k ∧ kvs.length < sizeLine ∧ ∀ H6, ND P w K H6 D (putK kvs k z) → Stp [D] H5 H6 → Nx H6 else Nx H3) := by
  refine ⟨fun i m H => m + i = xs.length ∧ Pv i H, ⟨xs.length, rfl, h0⟩, fun i m H ⟨em, p⟩ => ?_⟩
  have at_ := hl i H (by omega) p
  match m, em with
  | 0, em =>
    have e : i = xs.length := by omega
    subst e
    exact .inl ⟨⟨at_, Nat.le_refl _⟩, hd H p⟩
  | m + 1, em =>
    have lt : i < xs.length := by omega
    refine .inr ⟨⟨at_, lt⟩, Pv (i + 1), fun H' p' => ⟨m, Nat.lt_succ_self m, by omega, p'⟩, fun x H' ⟨e, z, hz, ex⟩ => ?_⟩
    subst e ex
    exact hs i z _ hz p
/-- a new key goes behind -/
theorem putK_new {kvs : List NKV} {k : NestedKey} {v : V} (h : k ∉ kvs.map (·.1)) : putK kvs k v = kvs ++ [(k, v)] := by
  unfold putK
  rw [if_neg]
  intro z
  obtain ⟨p, hp, e⟩ := List.any_eq_true.mp z
  exact h (List.mem_map.mpr ⟨p, hp, of_decide_eq_true e⟩)
theorem paired_snoc {α β : Type} {R : α → β → Prop} {as : List α} {bs : List β} {a : α} {b : β} (h : Paired R as bs) (r : R a b) : Paired R (as ++ [a]) (bs ++ [b]) := by
  induction h with
  | nil => exact .cons r .nil
  | cons x _ ih => exact .cons x ih
theorem DD.snoc {H : Hp} {kvs : List NKV} {kd : List NKD} {k : NestedKey} {v : V} {d : Dt} (h : DD K H kvs kd) (hv : DtAt K H v d) (f : d.flat = true) (n : d.depth ≤ 8) : DD K H (kvs ++ [(k, v)]) (kd ++ [(k, d)]) :=
  paired_snoc h ⟨rfl, hv, f, n⟩
def keysOf (cl : List Cel) : List (Nm × Str) := cl.map (·.1)
theorem List.Nodup.of_map_keys {cl : List Cel} (h : (keysOf cl).Nodup) : (cl.map ((fun p : NKD => p.1) ∘ fun p : Cel => (keyC p.1, datC p.2))).Nodup := by
  induction cl with
  | nil => exact .nil
  | cons p cl ih =>
    unfold keysOf at h
    rw [List.map_cons, List.nodup_cons] at h ⊢
    refine ⟨fun z => ?_, ih h.2⟩
    obtain ⟨r, hr, er⟩ := List.mem_map.mp z
    exact h.1 (List.mem_map.mpr ⟨r, hr, keyC_inj er⟩)
def spCopy (P : Program) (w : World) (K : PySem.W.Frag) (C : Addr) : Sp := fun vs H Q _ => ∃ (x dx d : Addr) (cl : List Cel), vs = [.ref x] ∧ StA P w K C H x dx d cl ∧ x ≠ d ∧ cl.length ≤ 1000 ∧ (keysOf cl).Nodup ∧
  ∀ (y dy e : Addr) (H1 : Hp), H y = none → H e = none → StA P w K C H1 y dy e cl → y ≠ e → Stp [] H H1 → Q (.ref y) H1
end

/-! ### joins: the later of two -/
abbrev Wo := Option (Nm × Va)
def laterO : Wo → Wo → Wo
  | none, y => y
  | some x, none => some x
  | some x, some y => if ltP2 x.1 y.1 = true then some y else some x
theorem laterO_none (x : Wo) : laterO x none = x := by cases x <;> rfl
theorem laterO_self (x : Wo) : laterO x x = x := by
  cases x with
  | none => rfl
  | some x => simp [laterO]
theorem laterO_assoc (x y z : Wo) : laterO (laterO x y) z = laterO x (laterO y z) := by
  cases x with
  | none => rfl
  | some x =>
    cases y with
    | none => cases z <;> rfl
    | some y =>
      cases z with
      | none => rw [laterO_none, laterO_none]
      | some z =>
        simp only [laterO]
        cases h1 : ltP2 x.1 y.1 <;> cases h2 : ltP2 y.1 z.1 <;> simp only [h1, h2, Bool.false_eq_true, if_false, if_true, laterO]
        · have h3 : ltP2 x.1 z.1 = false := ltP2_trans h2 h1
          rw [h3]; simp
        · cases h3 : ltP2 x.1 z.1 with
          | true => rfl
          | false =>
            simp only [ltP2, decide_eq_true_eq, decide_eq_false_iff_not] at h1 h2 h3
            omega
def keyOf (c : Ch) : Nm × Str := (c.nm, c.fd)
def woOf (c : Ch) : Nm × Va := (c.st, c.va)
theorem getC_stp (cl : List Cel) (c : Ch) (k : Nm × Str) : getC (stpC cl c) k = if k = keyOf c then laterO (getC cl k) (some (woOf c)) else getC cl k := by
  unfold stpC
  by_cases h : k = keyOf c
  · rw [if_pos h]
    have e : (c.nm, c.fd) = k := h.symm
    rw [e]
    cases q : getC cl k with
    | none =>
      simp only
      rw [getC_put, if_pos rfl]; rfl
    | some v =>
      simp only [laterO]
      have e2 : (woOf c).1 = c.st := rfl
      rw [e2]
      cases ltP2 v.1 c.st with
      | true => rw [if_pos rfl, getC_put, if_pos rfl, if_pos rfl]; rfl
      | false => rw [if_neg (by simp), if_neg (by simp)]; exact q
  · rw [if_neg h]
    have h' : k ≠ (c.nm, c.fd) := h
    cases getC cl (c.nm, c.fd) with
    | none => simp only; rw [getC_put, if_neg h']
    | some v =>
      simp only
      cases ltP2 v.1 c.st with
      | true => rw [if_pos rfl, getC_put, if_neg h']
      | false => rw [if_neg (by simp)]
theorem getC_fold (es : List Ch) : ∀ (cl : List Cel) (k : Nm × Str), getC (es.foldl stpC cl) k = es.foldl (fun a c => if k = keyOf c then laterO a (some (woOf c)) else a) (getC cl k) := by
  induction es with
  | nil => intro cl k; rfl
  | cons c es ih =>
    intro cl k
    rw [List.foldl_cons, List.foldl_cons, ih, getC_stp]
/-- the fold as one join -/
theorem fold_later (es : List Ch) (k : Nm × Str) : ∀ a : Wo, es.foldl (fun a c => if k = keyOf c then laterO a (some (woOf c)) else a) a = laterO a (es.foldl (fun a c => if k = keyOf c then laterO a (some (woOf c)) else a) none) := by
  induction es with
  | nil => intro a; rw [List.foldl_nil, List.foldl_nil, laterO_none]
  | cons c es ih =>
    intro a
    rw [List.foldl_cons, List.foldl_cons]
    by_cases h : k = keyOf c
    · rw [if_pos h, if_pos h, ih, ih (laterO none _), ← laterO_assoc]; rfl
    · rw [if_neg h, if_neg h, ih]
theorem getC_fold2 (es : List Ch) (cl : List Cel) (k : Nm × Str) : getC (es.foldl stpC cl) k = laterO (getC cl k) (getC (cellsOf es) k) := by
  rw [getC_fold, fold_later]
  congr 1
  unfold cellsOf
  rw [getC_fold]; rfl
theorem getC_app (as bs : List Ch) (k : Nm × Str) : getC (cellsOf (as ++ bs)) k = laterO (getC (cellsOf as) k) (getC (cellsOf bs) k) := by
  have e : cellsOf (as ++ bs) = bs.foldl stpC (cellsOf as) := by simp [cellsOf]
  rw [e, getC_fold2]
theorem getC_mem {cl : List Cel} {k : Nm × Str} {v : Nm × Va} (h : getC cl k = some v) : (k, v) ∈ cl := by
  unfold getC at h
  obtain ⟨p, hp, rfl⟩ := Option.map_eq_some_iff.mp h
  have h1 := List.find?_some hp
  have h2 := List.mem_of_find?_eq_some hp
  have e : p.1 = k := of_decide_eq_true h1
  rw [← e]; exact h2
theorem getC_of {cl : List Cel} {k : Nm × Str} {v : Nm × Va} (n : (keysOf cl).Nodup) (h : (k, v) ∈ cl) : getC cl k = some v := by
  induction cl with
  | nil => cases h
  | cons p cl ih =>
    unfold keysOf at n
    rw [List.map_cons, List.nodup_cons] at n
    unfold getC
    rw [List.find?_cons]
    rcases List.mem_cons.mp h with e | h
    · rw [← e]; simp
    · have ne : p.1 ≠ k := fun z => n.1 (List.mem_map.mpr ⟨(k, v), h, z.symm⟩)
      rw [decide_eq_false ne]
      exact ih n.2 h
theorem putC_keys (cl : List Cel) (k : Nm × Str) (v : Nm × Va) : keysOf (putC cl k v) = if k ∈ keysOf cl then keysOf cl else keysOf cl ++ [k] := by
  unfold putC keysOf
  by_cases h : k ∈ cl.map (·.1)
  · rw [if_pos h, if_pos]
    · rw [List.map_map]
      refine List.map_congr_left fun p _ => ?_
      simp only [Function.comp]
      split
      · next e => exact e.symm ▸ rfl
      · rfl
    · obtain ⟨p, hp, e⟩ := List.mem_map.mp h
      exact List.any_eq_true.mpr ⟨p, hp, decide_eq_true e⟩
  · rw [if_neg h, if_neg]
    · simp
    · intro z
      obtain ⟨p, hp, e⟩ := List.any_eq_true.mp z
      exact h (List.mem_map.mpr ⟨p, hp, of_decide_eq_true e⟩)
theorem putC_nd {cl : List Cel} (k : Nm × Str) (v : Nm × Va) (n : (keysOf cl).Nodup) : (keysOf (putC cl k v)).Nodup := by
  rw [putC_keys]
  split
  · exact n
  · next h =>
    rw [List.nodup_append]
    exact ⟨n, by simp, fun x hx y hy z => h (by rw [← List.mem_singleton.mp hy, ← z]; exact hx)⟩
theorem stpC_nd {cl : List Cel} (c : Ch) (n : (keysOf cl).Nodup) : (keysOf (stpC cl c)).Nodup := by
  rw [stpC_eq]
  split
  · exact putC_nd _ _ n
  · exact n
theorem fold_nd (es : List Ch) : ∀ {cl : List Cel}, (keysOf cl).Nodup → (keysOf (es.foldl stpC cl)).Nodup := by
  induction es with
  | nil => exact id
  | cons c es ih => intro cl n; exact ih (stpC_nd c n)
theorem cellsOf_nd (cs : List Ch) : (keysOf (cellsOf cs)).Nodup := fold_nd cs List.nodup_nil
theorem fold_len (es : List Ch) : ∀ cl : List Cel, (es.foldl stpC cl).length ≤ cl.length + es.length := by
  induction es with
  | nil => intro cl; simp
  | cons c es ih => intro cl; have h1 := ih (stpC cl c); have h2 := stpC_len cl c; simp only [List.foldl_cons, List.length_cons]; omega
/-- the cells of the changes that make a state are the state's -/
theorem cells_back {cl : List Cel} {es : List Ch} (n : (keysOf cl).Nodup) (m : ∀ c, c ∈ es ↔ c ∈ chsOf cl) (k : Nm × Str) : getC (cellsOf es) k = getC cl k := by
  have hm : ∀ c, c ∈ es ↔ getC cl (keyOf c) = some (woOf c) := fun c => by
    rw [m]
    constructor
    · intro h
      obtain ⟨p, hp, rfl⟩ := List.mem_map.mp h
      exact getC_of n hp
    · intro h
      exact List.mem_map.mpr ⟨_, getC_mem h, rfl⟩
  have b := best_cells es k
  cases q : getC (cellsOf es) k with
  | none =>
    rw [q] at b
    cases h : getC cl k with
    | none => rfl
    | some v => exact absurd rfl (b (chOf (k, v)) ((hm _).mpr h))
  | some v =>
    rw [q] at b
    obtain ⟨⟨c, hc, e1, e2⟩, _⟩ := b
    have h := (hm c).mp hc
    have e3 : keyOf c = k := e1
    rw [e3] at h
    rw [h, e2]; rfl
theorem chsOf_nd {cl : List Cel} (n : (keysOf cl).Nodup) : (chsOf cl).Nodup := by
  induction cl with
  | nil => exact .nil
  | cons p cl ih =>
    unfold keysOf at n
    rw [List.map_cons, List.nodup_cons] at n
    unfold chsOf
    rw [List.map_cons, List.nodup_cons]
    refine ⟨fun z => ?_, ih n.2⟩
    obtain ⟨r, hr, e⟩ := List.mem_map.mp z
    refine n.1 (List.mem_map.mpr ⟨r, hr, ?_⟩)
    injection e with e1 e2 e3 e4
    exact Prod.ext e2 e3
/-- a state below another one -/
def below (a b : List Cel) : Prop := ∀ k v, getC a k = some v → ∃ v', getC b k = some v' ∧ ltP2 v'.1 v.1 = false
noncomputable instance (a b : List Cel) : Decidable (below a b) := Classical.propDecidable _
theorem below_join {a b c : List Cel} (h : ∀ k, getC c k = laterO (getC a k) (getC b k)) : below a c := fun k v hv => by
  rw [h, hv]
  cases q : getC b k with
  | none => exact ⟨v, rfl, ltP2_irr _⟩
  | some y =>
    simp only [laterO]
    cases h1 : ltP2 v.1 y.1 with
    | true =>
      refine ⟨y, by simp, ?_⟩
      cases h2 : ltP2 y.1 v.1 with
      | false => rfl
      | true =>
        simp only [ltP2, decide_eq_true_eq] at h1 h2
        omega
    | false => exact ⟨v, by simp, ltP2_irr _⟩
theorem below_join2 {a b c : List Cel} (h : ∀ k, getC c k = laterO (getC a k) (getC b k)) : below b c := fun k v hv => by
  rw [h, hv]
  cases q : getC a k with
  | none => exact ⟨v, rfl, ltP2_irr _⟩
  | some y =>
    simp only [laterO]
    cases h1 : ltP2 y.1 v.1 with
    | true => exact ⟨v, by simp, ltP2_irr _⟩
    | false => exact ⟨y, by simp, h1⟩
/-- all cells are changes of cs -/
def Among (cs : List Ch) (cl : List Cel) : Prop := ∀ k v, getC cl k = some v → chOf (k, v) ∈ cs
theorem among_cells {as cs : List Ch} (h : ∀ c ∈ as, c ∈ cs) : Among cs (cellsOf as) := fun k v hv => by
  have b := best_cells as k
  rw [hv] at b
  obtain ⟨⟨c, hc, e1, e2⟩, _⟩ := b
  have : chOf (k, v) = c := by rw [e2, ← e1]; rfl
  rw [this]; exact h c hc
theorem among_join {cs : List Ch} {a b c : List Cel} (ha : Among cs a) (hb : Among cs b) (h : ∀ k, getC c k = laterO (getC a k) (getC b k)) : Among cs c := fun k v hv => by
  rw [h] at hv
  cases qa : getC a k with
  | none => rw [qa] at hv; exact hb k v hv
  | some x =>
    cases qb : getC b k with
    | none => rw [qa, qb] at hv; exact ha k v (by rw [qa]; exact hv)
    | some y =>
      rw [qa, qb] at hv
      simp only [laterO] at hv
      split at hv
      · exact hb k v (by rw [qb]; exact hv)
      · exact ha k v (by rw [qa]; exact hv)
/-- one stamp, one value -/
theorem among_one {cs : List Ch} {a b : List Cel} (nd : ∀ c ∈ cs, ∀ d ∈ cs, c.st = d.st → c = d) (ha : Among cs a) (hb : Among cs b) {k : Nm × Str} {v u : Nm × Va} (h1 : getC a k = some v) (h2 : getC b k = some u) (e : v.1 = u.1) : v = u := by
  have h := nd _ (ha k v h1) _ (hb k u h2) e
  injection h with e1 e2 e3 e4
  exact Prod.ext e1 e4
theorem later_comm {cs : List Ch} {a b : List Cel} (nd : ∀ c ∈ cs, ∀ d ∈ cs, c.st = d.st → c = d) (ha : Among cs a) (hb : Among cs b) (k : Nm × Str) : laterO (getC a k) (getC b k) = laterO (getC b k) (getC a k) := by
  cases qa : getC a k with
  | none => rw [laterO_none]; rfl
  | some x =>
    cases qb : getC b k with
    | none => rfl
    | some y =>
      simp only [laterO]
      cases h1 : ltP2 x.1 y.1 <;> cases h2 : ltP2 y.1 x.1
      · simp only [Bool.false_eq_true, if_false]
        rw [among_one nd ha hb qa qb (ltP2_tri h1 h2)]
      · rfl
      · rfl
      · simp only [ltP2, decide_eq_true_eq] at h1 h2
        omega
/-- what is above and below is the same -/
theorem below_same {cs : List Ch} {a b : List Cel} (nd : ∀ c ∈ cs, ∀ d ∈ cs, c.st = d.st → c = d) (ha : Among cs a) (hb : Among cs b) (h1 : below a b) (h2 : below b a) (k : Nm × Str) : getC a k = getC b k := by
  cases qa : getC a k with
  | none =>
    cases qb : getC b k with
    | none => rfl
    | some y =>
      obtain ⟨v, e, _⟩ := h2 k y qb
      rw [qa] at e; cases e
  | some x =>
    obtain ⟨y, qb, l1⟩ := h1 k x qa
    obtain ⟨x', qa', l2⟩ := h2 k y qb
    rw [qa] at qa'
    obtain rfl := Option.some.inj qa'
    rw [qb, among_one nd ha hb qa qb (ltP2_tri l2 l1)]
theorem below_refl_of {a b : List Cel} (h : ∀ k, getC a k = getC b k) : below a b := fun k v hv => ⟨v, by rw [← h]; exact hv, ltP2_irr _⟩

/-! ### joined, is_below, the state of a row -/
theorem iteF {A B : Prop} (h : B) : if false = true then A else B := by rw [if_neg (by simp)]; exact h
theorem iteT {A B : Prop} (h : A) : if true = true then A else B := by rw [if_pos rfl]; exact h
section
variable {P : Program} {w : World} {K : PySem.W.Frag} {mg : Str → Option Value} {base : Heap} {C c T : Addr}
theorem ND.ext {H : Hp} {d : Addr} {kvs : List NKV} (n : ND P w K H d kvs) : ∃ o, H d = some o ∧ ∀ ps, o ≠ .tbl ps := let ⟨_, e, _⟩ := n; ⟨_, e, fun _ z => nomatch z⟩
theorem StA.nT {H : Hp} {x dx d : Addr} {cl : List Cel} {ps : Array Value} (h : StA P w K C H x dx d cl) (hT : H T = some (.tbl ps)) : x ∉ [T] ∧ d ∉ [T] := by
  obtain ⟨kvs, n, _⟩ := h.nd
  obtain ⟨o, e, ne⟩ := n.ext
  have a := h.at_
  unfold SAt at a
  simp only [List.mem_singleton]
  refine ⟨fun z => ?_, fun z => ?_⟩
  · rw [z, hT] at a; cases a
  · rw [z, hT] at e; exact ne _ (Option.some.inj e).symm
theorem StA.new {H : Hp} {x dx d p : Addr} {cl : List Cel} (h : StA P w K C H x dx d cl) (n : H p = none) : x ≠ p ∧ d ≠ p := by
  obtain ⟨kvs, m, _⟩ := h.nd
  obtain ⟨o, e, _⟩ := m.ext
  exact ⟨ne_of_none h.at_ n, ne_of_none e n⟩
def spState (P : Program) (w : World) (K : PySem.W.Frag) (C : Addr) : Sp := fun vs H Q _ => ∃ (r : Addr) (ws : List V) (cs : List Ch), vs = [.ref r] ∧ SqL K H r ws ∧ DtsAt K H ws (cs.map chD) ∧ ws.length ≤ 1000 ∧
  ∀ (y dy e : Addr) (H1 : Hp), H y = none → H e = none → y ≠ e → StA P w K C H1 y dy e (cellsOf cs) → Stp [] H H1 → Q (.ref y) H1
def spJoined (P : Program) (w : World) (K : PySem.W.Frag) (C T : Addr) : Sp := fun vs H Q _ => ∃ (x dx d y dy e : Addr) (a b : List Cel) (L : List Addr), vs = [.ref x, .ref y] ∧ StA P w K C H x dx d a ∧ x ≠ d ∧ StA P w K C H y dy e b ∧ y ≠ e ∧ (keysOf a).Nodup ∧ (keysOf b).Nodup ∧ a.length + b.length ≤ 1000 ∧ Tab H T lamQ L ∧
  ∀ (z dz f : Addr) (cl : List Cel) (H1 : Hp) (L1 : List Addr), Tab H1 T lamQ L1 → (∀ c ∈ L1, c ∈ L ∨ H c = none) → Stp [T] H H1 → H z = none → H f = none → z ≠ f → StA P w K C H1 z dz f cl → (keysOf cl).Nodup → cl.length ≤ a.length + b.length → (∀ k, getC cl k = laterO (getC a k) (getC b k)) → Q (.ref z) H1
theorem ND.locked {H : Hp} {d e : Addr} {u : HO} {o : Obj} {kvs : List NKV} (h : ND P w K H e kvs) (hu : H d = some u) (nt : ∀ xs, u ≠ .tup xs) : NDR P w K (upd H d (.frz o u)) e kvs := by
  obtain ⟨xs, e1, k, q⟩ := h
  have st : Stp [d] H (upd H d (.frz o u)) := .wr (by simp) hu nt
  by_cases z : e = d
  · subst z
    rw [hu] at e1
    obtain rfl := Option.some.inj e1
    exact ⟨xs, .inr ⟨o, upd_same⟩, k.stp st, q⟩
  · exact ⟨xs, .inl (by rw [upd_ne z]; exact e1), k.stp st, q⟩
theorem StA.locked {H : Hp} {x dx e d : Addr} {u : HO} {o : Obj} {cl : List Cel} (h : StA P w K C H x dx e cl) (hu : H d = some u) (nt : ∀ xs, u ≠ .tup xs) (xd : x ≠ d) : StR P w K C (upd H d (.frz o u)) x dx e cl :=
  ⟨by unfold SAt; rw [upd_ne xd]; exact h.at_, let ⟨kvs, a, b⟩ := h.nd; ⟨kvs, a.locked hu nt, b.stp (.wr (M := [d]) (by simp) hu nt)⟩⟩
def spBelow (P : Program) (w : World) (K : PySem.W.Frag) (C : Addr) : Sp := fun vs H Q _ => ∃ (x dx d y dy e : Addr) (a b : List Cel), vs = [.ref x, .ref y] ∧ StA P w K C H x dx d a ∧ x ≠ d ∧ StA P w K C H y dy e b ∧ y ≠ d ∧ (keysOf a).Nodup ∧
  ∀ H1, Stp [] H H1 → Q (.bl (decide (below a b))) H1
end

/-! ### lists made of lists: a copy, the stamps -/
section
variable {K : PySem.W.Frag} {σ : L2.St} {H : Hp} {Q : VK} {i j : Nat} {r : Addr}
theorem wipe_one (σ : L2.St) (j : Nat) (v : Option V) : wipe ((wipe σ [j]).set j v) [j] = wipe σ [j] := by
  show ((σ.set j none).set j v).set j none = σ.set j none
  rw [List.set_set, List.set_set]
theorem wipe_at {σ : L2.St} {j : Nat} (h : ∃ o, σ[j]? = some o) (v : V) : ((wipe σ [j]).set j (some v))[j]? = some (some v) := by
  obtain ⟨o, h⟩ := h
  have : j < (wipe σ [j]).length := by rw [wipe_length]; exact (List.getElem?_eq_some_iff.mp h).1
  rw [List.getElem?_set_self this]
theorem chs_depth : ∀ l : List Ch, Dt.depthAll (l.map chD) ≤ 3
  | [] => Nat.zero_le _
  | c :: l => by
    have h1 := chs_depth l
    have h2 := chD_depth c
    rw [List.map_cons, Dt.depthAll]
    omega
/-- [x for x in list] -/
theorem lc_same {ws : List V} (hi : σ[i]? = some (some (.ref r))) (hj : ∃ o, σ[j]? = some o) (hr : H r = some (.lst ws)) (hl : ws.length ≤ 100000)
    (q : ∀ (p : Addr) (H1 : Hp), H p = none → H1 p = some (.lst ws) → Stp [] H H1 → Q (.ref p) H1) : tLc (iList K (tVar i)) (gName j) tYes (tVar j) [j] σ H Q := by
  refine i_Lc (i_List (i_var hi ⟨r, rfl, ⟨ws, SqL.of hr⟩, fun l hl0 => ?_⟩))
  refine lc_list (xs := ws) (fun i H' => Stp [] H H' ∧ H' l = some (.lst (ws.take i))) ⟨.new hl0, upd_same⟩ (fun i H' _ ⟨h, _⟩ => SqL.of (h.keep _ _ hr (by simp))) ?_ ?_
  · rintro n x H1 hx ⟨s1, h1⟩
    refine i_Name ⟨wipe_one _ _ _, i_Yes (i_ite (fun _ => i_var (wipe_at hj x) ⟨_, h1, ?_, s1.mut hl0, ?_⟩) (fun z => nomatch z))⟩
    · rw [List.length_take]
      exact Nat.lt_of_le_of_lt (show min n ws.length ≤ 100000 by omega) (by decide)
    · rw [upd_same, List.take_add_one, hx]; rfl
  · rintro H1 ⟨s1, h1⟩
    rw [List.take_length] at h1
    exact q l H1 hl0 h1 s1
/-- [x[0] for x in list] of changes -/
theorem lc_st {ws : List V} {cs : List Ch} (hi : σ[i]? = some (some (.ref r))) (hj : ∃ o, σ[j]? = some o) (hr : SqL K H r ws) (hd : DtsAt K H ws (cs.map chD)) (hl : ws.length ≤ 100000)
    (q : ∀ (p : Addr) (ys : List V) (H1 : Hp), H p = none → H1 p = some (.lst ys) → DtsAt K H1 ys ((cs.map Ch.st).map nmD) → Stp [] H H1 → Q (.ref p) H1) : tLc (iList K (tVar i)) (gName j) tYes (tOp (rIxT K) (tVar j) (tC (.int 0))) [j] σ H Q := by
  have wl : ws.length = cs.length := by have := hd.length; rwa [List.length_map] at this
  refine i_Lc (i_List (i_var hi ⟨r, rfl, ⟨ws, hr⟩, fun l hl0 => ?_⟩))
  refine lc_list (xs := ws) (fun i H' => Stp [] H H' ∧ ∃ acc, H' l = some (.lst acc) ∧ DtsAt K H' acc (((cs.take i).map Ch.st).map nmD))
    ⟨.new hl0, [], upd_same, .nil⟩ (fun i H' _ ⟨h, _⟩ => h.seq hr (by simp)) ?_ ?_
  · rintro n x H1 hx ⟨s1, acc, h1, d1⟩
    obtain ⟨c, hc, dc⟩ := ch_get (chs_stp hd s1) hx
    obtain ⟨a, sv, nv, v, rfl, ha, hs, hn, hv⟩ := chAt dc
    refine i_Name ⟨wipe_one _ _ _, i_Yes (i_ite (fun _ => i_Op (i_var (wipe_at hj _) (i_C (i_IxT ha.sqt (at_of (j := 0) rfl rfl) ⟨acc, h1, ?_, s1.mut hl0, _, upd_same, ?_⟩)))) (fun z => nomatch z))⟩
    · have := d1.length
      rw [List.length_map, List.length_map, List.length_take] at this
      exact Nat.lt_of_le_of_lt (show acc.length ≤ 100000 by omega) (by decide)
    · have st : Stp [l] H1 (upd H1 l (.lst (acc ++ [sv]))) := .wr (by simp) h1 fun _ z => nomatch z
      have tk : cs.take (n + 1) = cs.take n ++ [c] := by rw [List.take_add_one, hc]; rfl
      rw [tk, List.map_append]
      exact nms_map (DtsAt.stp st _ _ (nms_flat _) d1) (DtAt.stp st _ _ rfl hs)
  · rintro H1 ⟨s1, acc, h1, d1⟩
    rw [wl, List.take_length] at d1
    exact q l acc H1 hl0 h1 d1 s1
/-- some stamps in order -/
theorem nm_order (ss : List Nm) : ∃ ts : List Nm, ts.Perm ss ∧ (ts.Pairwise fun a b => ltP2 b a = false) ∧ (ss.map nmD).mergeSort leD = ts.map nmD := by
  have tot : PySem.W.TotalLe leD := by
    have h : PySem.W.TotalLe (PySem.W.dataLe false Dt.py) := by
      unfold PySem.W.dataLe
      exact PySem.W.sortLe_total _ _ _
    exact h
  have asc := PySem.W.sort_pairwise tot (ss.map nmD)
  obtain ⟨ts, pt, et⟩ := of_perm_map (List.mergeSort_perm (ss.map nmD) leD) rfl
  rw [et, List.pairwise_map] at asc
  exact ⟨ts, pt, asc.imp fun {a b} h => by rw [leD_nm] at h; simpa using h, et⟩
theorem nd_changes {cs : List Ch} (h : (cs.map Ch.st).Nodup) : cs.Nodup := by
  induction cs with
  | nil => exact .nil
  | cons c cs ih =>
    rw [List.map_cons, List.nodup_cons] at h
    rw [List.nodup_cons]
    exact ⟨fun z => h.1 (List.mem_map.mpr ⟨c, z, rfl⟩), ih h.2⟩
theorem perm_of_mem {α : Type} [DecidableEq α] {l m : List α} (hl : l.Nodup) (hm : m.Nodup) (h : ∀ x, x ∈ l ↔ x ∈ m) : l.Perm m := (List.perm_ext_iff_of_nodup hl hm).mpr h
/-- the stamps of a ranked row are the stamps in order -/
theorem ranked_st {cs es : List Ch} {ts : List Nm} (R : Ranked cs es) (nd : (cs.map Ch.st).Nodup) (pt : ts.Perm (cs.map Ch.st)) (at_ : ts.Pairwise fun a b => ltP2 b a = false) : es.map Ch.st = ts := by
  have p : es.Perm cs := (List.perm_ext_iff_of_nodup R.once (nd_changes nd)).mpr R.mem
  refine one_sorted (r := fun a b => ltP2 b a = false) _ _ ((p.map _).trans pt.symm) ?_ at_ fun a _ b _ h1 h2 => ltP2_tri h2 h1
  rw [List.pairwise_map]
  exact R.asc
theorem Ranked.same {as bs es : List Ch} (R : Ranked as es) (m : ∀ c, c ∈ as ↔ c ∈ bs) : Ranked bs es := ⟨R.once, fun c => (R.mem c).trans (m c), R.asc⟩
/-- the last of the stamps in order is the greatest -/
theorem top_last {ss ts : List Nm} (m : ∀ n, n ∈ ss ↔ n ∈ ts) (asc : ts.Pairwise fun a b => ltP2 b a = false) : ∀ {x : Option Nm}, Top ss x → x = ts.getLast?
  | none, h => by
    have e : ss = [] := h
    cases ts with
    | nil => rfl
    | cons t r =>
      have z := (m t).mpr List.mem_cons_self
      rw [e] at z; cases z
  | some b, h => by
    obtain ⟨h1, h2⟩ := h
    have hb := (m b).mp h1
    cases e : ts.getLast? with
    | none =>
      rw [List.getLast?_eq_none_iff.mp e] at hb; cases hb
    | some l =>
      obtain ⟨us, rfl⟩ := List.getLast?_eq_some_iff.mp e
      have hl : l ∈ us ++ [l] := List.mem_append_right _ List.mem_cons_self
      have h3 := h2 l ((m l).mpr hl)
      have h4 : ltP2 l b = false := by
        rcases List.mem_append.mp hb with z | z
        · exact (List.pairwise_append.mp asc).2.2 b z l List.mem_cons_self
        · rw [List.mem_singleton.mp z]; exact ltP2_irr l
      rw [ltP2_tri h3 h4]
theorem DtsAt.last : ∀ {ds : List Dt} {vs : List V} {d : Dt}, DtsAt K H vs (ds ++ [d]) → ∃ us v, vs = us ++ [v] ∧ DtAt K H v d
  | [], _, _, h => by
    cases h with
    | cons h1 h2 => cases h2; exact ⟨[], _, rfl, h1⟩
  | _ :: _, _, _, h => by
    cases h with
    | cons h1 h2 =>
      obtain ⟨us, v, e, q⟩ := DtsAt.last h2
      exact ⟨_ :: us, v, by rw [e]; rfl, q⟩
theorem DtsAt.take : ∀ {ds : List Dt} {vs : List V} (k : Nat), DtsAt K H vs ds → DtsAt K H (vs.take k) (ds.take k)
  | _, _, 0, _ => .nil
  | [], _, k + 1, h => by cases h; exact .nil
  | _ :: _, _, k + 1, h => by
    cases h with
    | cons h1 h2 => exact .cons h1 (DtsAt.take k h2)
theorem nm_get {ts : List Nm} {vs : List V} {i : Nat} {v : V} (h : DtsAt K H vs (ts.map nmD)) (e : vs[i]? = some v) : ∃ n, ts[i]? = some n ∧ DtAt K H v (nmD n) := by
  obtain ⟨d, h1, h2⟩ := h.getV e
  rw [List.getElem?_map] at h1
  obtain ⟨n, hn, rfl⟩ := Option.map_eq_some_iff.mp h1
  exact ⟨n, hn, h2⟩
def stD : Option Nm → Dt
  | none => .non
  | some b => nmD b
theorem stOf.dt {o : V} {x : Option Nm} (h : stOf K H o x) : DtAt K H o (stD x) := by
  cases x with
  | none =>
    obtain rfl : o = .non := h
    exact .non
  | some b => exact h
theorem stD_depth (x : Option Nm) : (stD x).depth ≤ 60 := by cases x <;> simp [stD, Dt.depth, Dt.depthAll]
theorem stD_flat (x : Option Nm) : (stD x).flat = true := by cases x <;> rfl
end

/-! ### the names that a state mentions -/
section
variable {P : Program} {w : World} {K : PySem.W.Frag} {mg : Str → Option Value} {base : Heap} {C : Addr}
def tgtOf : Va → Option Nm
  | .tg _ n => some n
  | _ => none
def spLinked (K : PySem.W.Frag) : Sp := fun vs H Q _ => ∃ (v : V) (x : Va), vs = [v] ∧ DtAt K H v (vaD x) ∧ ∀ r, stOf K H r (tgtOf x) → Q r H
theorem cal_linked_name (F : Df K mg d_linked_name) (B : Blt mg) : Cal P w K mg base lv_linked_name "linked_name" ["value"] (spLinked K) := by
  obtain ⟨f, fd, F, g⟩ := F
  refine ⟨f, fd, F.ok sc_linked_name (fun vs H Q E h => ?_) (fun cdv A outer s H vs Q E hr h => ⟨_, PSs.nox
    (pss_cons (ps_if (pt_val (pe_callB call_isi (by rfl) B.isinstance (by decide +kernel) (pa_cons (pv 0) (pa_cons (pe_bltn (v := .ty "tuple") (by rfl) B.tuple (by decide +kernel) rfl) pa_nil))))
      (pss_one (ps_ret (pe_ix (ix_tupK (K := K) rfl) (pv 0) pe_int (fun _ _ => rfl))))
      pss_nil)
    (pss_one (ps_ret pe_non))), ?_⟩), g, F.kp, F.bindsN fun _ _ _ _ _ _ us hl => match us, hl with | [_], _ => rfl⟩
  · obtain ⟨v, x, rfl, _⟩ := h
    rfl
  · obtain ⟨v, x, rfl, hx, q⟩ := h
    repeat walk_at "h"
    cases x with
    | tg s n =>
      refine i_Isi "tuple" true hx ?_
      obtain ⟨a, b, rfl, ha, hb⟩ := tgAt hx
      repeat walk_at "h"
      refine iteT ?_
      repeat walk_at "h"
      refine i_IxT ha.sqt (at_of (j := 1) rfl rfl) ?_
      exact q _ hb
    | non =>
      refine i_Isi "NoneType" false hx ?_
      repeat walk_at "h"
      refine iteF ?_
      repeat walk_at "h"
      exact q _ rfl
    | num i =>
      refine i_Isi "int" false hx ?_
      repeat walk_at "h"
      refine iteF ?_
      repeat walk_at "h"
      exact q _ rfl
    | txt z =>
      refine i_Isi "str" false hx ?_
      repeat walk_at "h"
      refine iteF ?_
      repeat walk_at "h"
      exact q _ rfl
/-- the cell p mentions n -/
def Men (p : Cel) (n : Nm) : Prop := p.1.1 = n ∨ tgtOf p.2.2 = some n
/-- names, each once, ascending: those that the cells mention -/
structure NamesR (cl : List Cel) (ns : List Nm) : Prop where
  once : ns.Nodup
  asc : ns.Pairwise fun a b => ltP2 b a = false
  mem : ∀ n, n ∈ ns ↔ ∃ p ∈ cl, Men p n
theorem NamesR.one {cl : List Cel} {ns ms : List Nm} (a : NamesR cl ns) (b : NamesR cl ms) : ns = ms :=
  one_sorted (r := fun a b => ltP2 b a = false) _ _ (perm_of_mem a.once b.once fun x => (a.mem x).trans (b.mem x).symm) a.asc b.asc fun _ _ _ _ h1 h2 => ltP2_tri h2 h1
def addN (ns : List Nm) (n : Nm) : List Nm := if n ∈ ns then ns else ns ++ [n]
theorem addN_nd {ns : List Nm} {n : Nm} (h : ns.Nodup) : (addN ns n).Nodup := by
  unfold addN
  split
  · exact h
  · rename_i hn
    rw [List.nodup_append]
    refine ⟨h, List.pairwise_singleton .., ?_⟩
    intro a ha b hb e
    rw [List.mem_singleton] at hb
    subst hb; subst e
    exact hn ha
theorem addN_mem {ns : List Nm} {n m : Nm} : m ∈ addN ns n ↔ m ∈ ns ∨ m = n := by
  unfold addN
  split
  · rename_i h
    exact ⟨.inl, fun z => z.elim id fun e => by rw [e]; exact h⟩
  · simp
theorem addN_len (ns : List Nm) (n : Nm) : (addN ns n).length ≤ ns.length + 1 := by
  unfold addN; split <;> simp
theorem nmKey_inj {a b : Nm} (h : (nmD a).key = (nmD b).key) : a = b := nmD_inj (Dt.key_inj _ _ rfl rfl h)
theorem keys_addN {kvs : List NKV} {ns : List Nm} (h : kvs.map (·.1) = ns.map fun n => (nmD n).key) (n : Nm) (v : V) : (putK kvs (nmD n).key v).map (·.1) = (addN ns n).map fun n => (nmD n).key := by
  rw [putK_keys]
  have e : (kvs.any fun kv => decide (kv.1 = (nmD n).key)) = decide (n ∈ ns) := by
    have e1 : (kvs.any fun kv => decide (kv.1 = (nmD n).key)) = (kvs.map (·.1)).any fun k => decide (k = (nmD n).key) := by rw [List.any_map]; rfl
    rw [e1, h, List.any_map, Bool.eq_iff_iff, List.any_eq_true, decide_eq_true_eq]
    constructor
    · rintro ⟨m, hm, e⟩
      rw [← nmKey_inj (of_decide_eq_true e)]; exact hm
    · intro hm
      exact ⟨n, hm, by simp⟩
  unfold addN
  rw [e]
  by_cases c : n ∈ ns
  · rw [if_pos (by simpa using c), if_pos c]; exact h
  · rw [if_neg (by simpa using c), if_neg c, List.map_append, h]; rfl
/-- the names of the first cells -/
structure NmsOf (cl : List Cel) (ns : List Nm) : Prop where
  once : ns.Nodup
  mem : ∀ n, n ∈ ns ↔ ∃ p ∈ cl, Men p n
  len : ns.length ≤ 2 * cl.length
theorem NmsOf.snoc {cl : List Cel} {ns : List Nm} {p : Cel} (h : NmsOf cl ns) : NmsOf (cl ++ [p]) (match tgtOf p.2.2 with | none => addN ns p.1.1 | some m => addN (addN ns p.1.1) m) := by
  have e : ∀ n, (∃ r ∈ cl ++ [p], Men r n) ↔ (n ∈ ns ∨ n = p.1.1) ∨ tgtOf p.2.2 = some n := by
    intro n
    constructor
    · rintro ⟨r, hr, m⟩
      rcases List.mem_append.mp hr with z | z
      · exact .inl (.inl ((h.mem n).mpr ⟨r, z, m⟩))
      · rw [List.mem_singleton.mp z] at m
        exact m.elim (fun e => .inl (.inr e.symm)) .inr
    · rintro ((z | z) | z)
      · obtain ⟨r, hr, m⟩ := (h.mem n).mp z
        exact ⟨r, List.mem_append_left _ hr, m⟩
      · exact ⟨p, by simp, .inl z.symm⟩
      · exact ⟨p, by simp, .inr z⟩
  have hl := h.len
  have l1 := addN_len ns p.1.1
  cases q : tgtOf p.2.2 with
  | none =>
    refine ⟨addN_nd h.once, fun n => ?_, by rw [List.length_append, List.length_singleton]; show (addN ns p.1.1).length ≤ _; omega⟩
    rw [e, addN_mem, q]
    simp
  | some m =>
    have l2 := addN_len (addN ns p.1.1) m
    refine ⟨addN_nd (addN_nd h.once), fun n => ?_, by rw [List.length_append, List.length_singleton]; show (addN (addN ns p.1.1) m).length ≤ _; omega⟩
    rw [e, addN_mem, addN_mem, q]
    simp only [Option.some.injEq]
    constructor
    · rintro (z | z)
      · exact .inl z
      · exact .inr z.symm
    · rintro (z | z)
      · exact .inl z
      · exact .inr z.symm
def spNames (P : Program) (w : World) (K : PySem.W.Frag) (C : Addr) : Sp := fun vs H Q _ => ∃ (x dx d : Addr) (cl : List Cel), vs = [.ref x] ∧ StA P w K C H x dx d cl ∧ x ≠ d ∧ cl.length ≤ 1000 ∧
  ∀ (p : Addr) (ys : List V) (ns : List Nm) (H1 : Hp), H p = none → H1 p = some (.lst ys) → DtsAt K H1 ys (ns.map nmD) → NamesR cl ns → Stp [] H H1 → Q (.ref p) H1
theorem mth_State_names (F : Dfm K C d_State_names) (B : Blt mg) (CL_State : Cls K C) (NA : NoAttr K C "cells") (C_linked_name : Cal P w K mg base lv_linked_name "linked_name" ["value"] (spLinked K)) : Mth P w K mg base lv_State_names C "names" ["self"] (spNames P w K C) := by
  obtain ⟨f, fd, F, g⟩ := F
  refine ⟨f, fd, F.ok sc_State_names (fun vs H Q E h => ?_) (fun cdv A outer s H vs Q E hr h => ⟨_, PSs.nox
    (pss_cons (ps_set (i := 1) sc_State_names.nd rfl (Or.inl rfl) pe_dnewN)
    (pss_cons (ps_lock (ps_for PassesOwn.never rfl (pi_ni (pe_fld (pv 0) rfl)) (pg_tup (by rfl) (pgs_cons (pg_tup (by rfl) (pgs_cons (pg_name (i := 2) sc_State_names.nd rfl (Or.inl rfl)) (pgs_cons (pg_name (i := 3) sc_State_names.nd rfl (Or.inl rfl)) pgs_nil))) (pgs_cons (pg_tup (by rfl) (pgs_cons (pg_name (i := 3) sc_State_names.nd rfl (Or.inl rfl)) (pgs_cons (pg_name (i := 4) sc_State_names.nd rfl (Or.inl rfl)) pgs_nil))) pgs_nil)))
      (pss_cons (ps_nput hr (pv 1) (pv 2) pe_bl rfl)
        (pss_cons (ps_set (i := 5) sc_State_names.nd rfl (Or.inl rfl) (pc_call C_linked_name (hr.mono (by decide)) (by rfl) (pa_cons (pv 4) pa_nil)))
        (pss_one (ps_if (pt_cmpR op_notN (pv 5) pe_non (nomark _))
          (pss_one (ps_nput hr (pv 1) (pv 5) pe_bl rfl))
          pss_nil))))))
    (pss_one (ps_ret (pe_callB (cr_sortK (P := P) (w := w) (K := K) rfl rfl rfl rfl hr.units) (by rfl) B.sorted (by decide +kernel) (pa_cons (pv 1) pa_nil)))))), ?_⟩), g, F.kp, F.bindsN fun _ _ _ _ _ _ us hl => match us, hl with | [_], _ => rfl⟩
  · obtain ⟨x, dx, d, cl, rfl, _⟩ := h
    rfl
  · obtain ⟨x, dx, d, cl, rfl, ⟨hx0, kvs0, hn0, hd0⟩, xd, hl, q⟩ := h
    repeat walk_at "h"
    intro t H1 nt n1 s1
    have hx := s1.keep _ _ hx0 (by simp)
    have hn := hn0.stp s1 (by simp)
    have hd := hd0.stp s1
    have dt : d ≠ t := by
      obtain ⟨o, e, _⟩ := hn0.ext
      exact ne_of_none e nt
    have xt : x ≠ t := ne_of_none hx0 nt
    obtain ⟨o0, eo0, _⟩ := hn0.ext
    clear hx0 hn0 hd0
    repeat walk_at "h"
    refine lock_nd hn fun o xs hxs kx ex => ?_
    subst hxs
    have exH : H d = some (ndO P w d xs) := by rw [eo0, ← ex]; exact (s1.keep _ _ eo0 (by simp)).symm
    have s0 : Stp [d] H1 (upd H1 d (.frz o (ndO P w d xs))) := Stp.lock ex ndO_nt
    have x0 : upd H1 d (.frz o (ndO P w d xs)) x = some (.ins C dx [(cellsS, .ref d)]) := by rw [upd_ne xd]; exact hx
    have d0 : upd H1 d (.frz o (ndO P w d xs)) d = some (.frz o (ndO P w d xs)) := upd_same
    have kx0 := kx.stp s0
    have dd0 := hd.stp s0
    have n0 : ND P w K (upd H1 d (.frz o (ndO P w d xs))) t [] := n1.stp s0 (by simpa using dt.symm)
    have xl : xs.length = cl.length := by rw [← plainX_len]; exact hd.len_cl
    repeat walk_at "h"
    refine ⟨x, C, dx, _, .ref d, rfl, x0, CL_State, NA, rfl, d, o, xs, rfl, d0, ?_⟩
    generalize hH0 : upd H1 d (.frz o (ndO P w d xs)) = H0 at s0 x0 d0 kx0 dd0 n0 ⊢
    refine for_ni (xs := xs) (fun i σ H' => ∃ (y2 y3 y4 y5 : Option V) (kv : List NKV) (ns : List Nm), σ = [some (.ref x), some (.ref t), y2, y3, y4, y5] ∧ Stp [t] H0 H' ∧ Stp [d] H H' ∧ ND P w K H' t kv ∧ kv.map (·.1) = (ns.map fun n => (nmD n).key) ∧ NmsOf (cl.take i) ns)
      ⟨_, _, _, _, [], [], rfl, .refl _, (s1.mono (by simp)).trans s0, n0, rfl, .nil, fun n => by simp, Nat.zero_le _⟩ (fun i σ H' _ ⟨_, _, _, _, _, _, _, s, _⟩ => s.keep _ _ d0 (by simpa using dt)) ?_ ?_
    · rintro i e σ H2 T1 he ⟨y2, y3, y4, y5, kv, ns, rfl, s2, sH2, nd2, ek2, N2⟩ nT
      obtain ⟨p, hp, ek, dv⟩ := cel_get dd0 he
      have hi : i < cl.length := (List.getElem?_eq_some_iff.mp hp).1
      have s3 : Stp [] H2 (upd H2 T1 (.tup [.ref e.2.1, e.2.2])) := .new nT
      have tT : TupAt K (upd H2 T1 (.tup [.ref e.2.1, e.2.2])) T1 [.ref e.2.1, e.2.2] := .inl upd_same
      have s23 := s2.trans (s3.mono (by simp))
      have nd3 := nd2.stp s3 (by simp)
      have ky := (kx0 e (List.mem_of_getElem? he)).stp s23
      rw [ek] at ky
      obtain ⟨n, kt, dn⟩ := ky_cel ky
      obtain ⟨va, sv, yv, ev, vt, ds, dy⟩ := cel_at (DtAt.stp s23 _ _ (datC_flat p.2) dv)
      have sH3 := sH2.trans (s3.mono (by simp))
      have nl : ns.length ≤ 2000 := by
        have := N2.len
        rw [List.length_take] at this
        omega
      have kl : kv.length = ns.length := by have := congrArg List.length ek2; simpa using this
      have tk : cl.take (i + 1) = cl.take i ++ [p] := by rw [List.take_add_one, hp]; rfl
      have SN := N2.snoc (p := p)
      generalize upd H2 T1 (.tup [.ref e.2.1, e.2.2]) = H3 at s3 tT s23 nd3 ky kt dn vt ds dy sH3 ⊢
      rw [ev] at tT
      refine i_gTup tT.sqt rfl ?_
      repeat walk_at "h"
      refine i_gTup kt.sqt rfl ?_
      repeat walk_at "h"
      refine i_gTup vt.sqt rfl ?_
      repeat walk_at "h"
      obtain ⟨na, rfl, hna⟩ := nmAt dn
      refine ⟨t, na, kv, (nmD p.1.1).key, rfl, rfl, nd3, KyAt.of dn rfl (by simp [nmD, Dt.depth, Dt.depthAll]), ?_, fun H4 nd4 s4 f4 => ?_⟩
      · exact Nat.lt_of_le_of_lt (show kv.length ≤ 2000 by omega) (by decide)
      have dn4 := DtAt.stp s4 _ _ rfl dn
      have dy4 := DtAt.stp s4 _ _ (vaD_flat _) dy
      have s24 := s23.trans s4
      have sH4 : Stp [d] H H4 := f4 H [d] sH3 nt
      have ek4 := keys_addN ek2 p.1.1 (.bl true)
      clear f4 s4 s3 s23 tT kt vt nd3 hna
      repeat walk_at "h"
      refine ⟨yv, p.2.2, rfl, dy4, fun r hr => ?_⟩
      repeat walk_at "h"
      cases htg : tgtOf p.2.2 with
      | none =>
        rw [htg] at hr SN
        obtain rfl : r = .non := hr
        refine ⟨rfl, ⟨_, rfl, i_ite (fun z => by simp at z) (fun _ => ?_)⟩⟩
        repeat walk_at "h"
        exact ⟨_, _, _, _, _, _, rfl, s24, sH4, nd4, ek4, by rw [tk]; exact SN⟩
      | some m =>
        rw [htg] at hr SN
        have dm : DtAt K H4 r (nmD m) := hr
        obtain ⟨ma, rfl, _⟩ := nmAt dm
        refine ⟨rfl, ⟨_, rfl, i_ite (fun _ => ?_) (fun z => by simp at z)⟩⟩
        repeat walk_at "h"
        refine ⟨t, ma, _, (nmD m).key, rfl, rfl, nd4, KyAt.of dm rfl (by simp [nmD, Dt.depth, Dt.depthAll]), ?_, fun H5 nd5 s5 f5 => ?_⟩
        · have := length_putK kv (nmD p.1.1).key (.bl true)
          exact Nat.lt_of_le_of_lt (show _ ≤ 2001 by omega) (by decide)
        repeat walk_at "h"
        exact ⟨_, _, _, _, _, _, rfl, s24.trans s5, f5 H [d] sH4 nt, nd5, keys_addN ek4 m (.bl true), by rw [tk]; exact SN⟩
    · rintro σ H2 ⟨y2, y3, y4, y5, kv, ns, rfl, s2, sH2, nd2, ek2, N2⟩
      rw [xl, List.take_length] at N2
      have dd2 := s2.keep _ _ d0 (by simpa using dt)
      refine ⟨dd2, ?_⟩
      have off := Stp.off dd2
      have sH : Stp [] H (upd H2 d (ndO P w d xs)) := Stp.unlock sH2 exH ndO_nt
      have nd5 := nd2.stp off (by simpa using dt.symm)
      generalize upd H2 d (ndO P w d xs) = H5 at off sH nd5 ⊢
      repeat walk_at "h"
      obtain ⟨ts, pt, at_, et⟩ := nm_order ns
      refine ⟨t, kv, ns.map nmD, rfl, nd5.r, (by rw [ek2, List.map_map]; rfl), nms_flat _, Nat.le_trans (nms_depth _) (by decide), nms_alike _, ?_, fun p ys np dys => ?_⟩
      · exact nms_sortable _
      · rw [et] at dys
        have s6 : Stp [] H5 (upd H5 p (.lst ys)) := .new np
        exact q p ys ts _ (sH.free np (by simp)) upd_same (DtsAt.stp s6 _ _ (nms_flat _) dys) ⟨pt.nodup_iff.mpr N2.once, at_, fun n => (pt.mem_iff).trans (N2.mem n)⟩ (sH.trans s6)
end

/-! ### the same by repr -/
section
variable {P : Program} {w : World} {K : PySem.W.Frag} {mg : Str → Option Value} {base : Heap}
/-! short data: their repr fits a line -/
mutual
def Dt.brief : Dt → Bool
  | .non => true
  | .bl _ => true
  | .num i => decide (i.natAbs < 10 ^ 12)
  | .txt x => x.cps.toList.all fun c => decide (c < 16 ^ 8)
  | .tup ds => Dt.briefAll ds
  | .lst ds => Dt.briefAll ds
def Dt.briefAll : List Dt → Bool
  | [] => true
  | d :: ds => Dt.brief d && Dt.briefAll ds
end
mutual
theorem Dt.brief_ok : ∀ d : Dt, d.brief = true → d.py.leavesShort 13 = true ∧ d.py.showable = true
  | .non, _ => ⟨rfl, rfl⟩
  | .bl _, _ => ⟨rfl, rfl⟩
  | .num i, h => by
    have h : i.natAbs < 10 ^ 12 := by simpa [Dt.brief] using h
    refine ⟨?_, ?_⟩
    · have e := int_text_length_le10 (a := i) (k := 12) (by decide) h
      show decide ((PyData.shown (.int i)).length ≤ 13) = true
      refine decide_eq_true ?_
      show (Str.ofString (toString i)).length ≤ 13
      rw [PySem.ofString_length]
      omega
    · have : i.natAbs < 2 ^ 70 := Nat.lt_of_lt_of_le h (by decide)
      simp only [Dt.py, PyData.showable, decide_eq_true_eq]
      by_cases z : i.natAbs = 0
      · rw [z]; decide
      · have := (Nat.log2_lt z).mpr this
        omega
  | .txt x, h => ⟨by simpa [Dt.py, PyData.leavesShort, Dt.brief] using h, rfl⟩
  | .tup ds, h => by
    have := Dt.briefAll_ok ds (by simpa [Dt.brief] using h)
    exact ⟨by simpa [Dt.py, PyData.leavesShort] using this.1, by simpa [Dt.py, PyData.showable] using this.2⟩
  | .lst ds, h => by
    have := Dt.briefAll_ok ds (by simpa [Dt.brief] using h)
    exact ⟨by simpa [Dt.py, PyData.leavesShort] using this.1, by simpa [Dt.py, PyData.showable] using this.2⟩
theorem Dt.briefAll_ok : ∀ ds : List Dt, Dt.briefAll ds = true → PyData.leavesShortAll 13 (Dt.pys ds) = true ∧ PyData.showableAll (Dt.pys ds) = true
  | [], _ => ⟨rfl, rfl⟩
  | d :: ds, h => by
    rw [Dt.briefAll, Bool.and_eq_true] at h
    have h1 := Dt.brief_ok d h.1
    have h2 := Dt.briefAll_ok ds h.2
    simp only [Dt.pys, PyData.leavesShortAll, PyData.showableAll, h1.1, h1.2, h2.1, h2.2, Bool.and_self, and_self]
end
mutual
def Dt.mass : Dt → Nat
  | .txt x => x.cps.size
  | .tup ds => Dt.massAll ds
  | .lst ds => Dt.massAll ds
  | .non | .bl _ | .num _ => 0
def Dt.massAll : List Dt → Nat
  | [] => 0
  | d :: ds => Dt.mass d + 1 + Dt.massAll ds
end
mutual
theorem Dt.mass_py : ∀ d : Dt, d.py.bulk = d.mass
  | .non | .bl _ | .num _ | .txt _ => rfl
  | .tup ds => by simp only [Dt.py, PyData.bulk, Dt.mass, Dt.massAll_py ds]
  | .lst ds => by simp only [Dt.py, PyData.bulk, Dt.mass, Dt.massAll_py ds]
theorem Dt.massAll_py : ∀ ds : List Dt, PyData.bulkAll (Dt.pys ds) = Dt.massAll ds
  | [] => rfl
  | d :: ds => by simp only [Dt.pys, PyData.bulkAll, Dt.massAll, Dt.mass_py d, Dt.massAll_py ds]
end
theorem Dt.shows_of {d : Dt} (h : d.brief = true) (m : d.mass ≤ 2 ^ 20) (dp : d.depth ≤ 60) : d.Shows := by
  obtain ⟨h1, h2⟩ := Dt.brief_ok d h
  exact ⟨h2, PyData.shown_fits_bulk (B := 13) (by decide) (by decide) h1 (by rw [Dt.mass_py]; exact m), dp⟩
theorem massAll_map {α : Type} (f : α → Dt) (n : Nat) : ∀ l : List α, (∀ x ∈ l, (f x).mass ≤ n) → Dt.massAll (l.map f) ≤ (n + 1) * l.length
  | [], _ => Nat.zero_le _
  | x :: l, h => by
    have h1 := h x (by simp)
    have h2 := massAll_map f n l fun y hy => h y (by simp [hy])
    rw [List.map_cons, Dt.massAll, List.length_cons, Nat.mul_add, Nat.mul_one]
    omega
theorem briefAll_map {α : Type} (f : α → Dt) : ∀ l : List α, (∀ x ∈ l, (f x).brief = true) → Dt.briefAll (l.map f) = true
  | [], _ => rfl
  | x :: l, h => by
    rw [List.map_cons, Dt.briefAll, h x (by simp), briefAll_map f l fun y hy => h y (by simp [hy])]; rfl
theorem depthAll_map {α : Type} (f : α → Dt) (n : Nat) : ∀ l : List α, (∀ x ∈ l, (f x).depth ≤ n) → Dt.depthAll (l.map f) ≤ n
  | [], _ => Nat.zero_le _
  | x :: l, h => by
    have h1 := h x (by simp)
    have h2 := depthAll_map f n l fun y hy => h y (by simp [hy])
    rw [List.map_cons, Dt.depthAll]
    omega
def spSame (K : PySem.W.Frag) : Sp := fun vs H Q _ => ∃ (v y : V) (d : Dt), vs = [v, y] ∧ DtAt K H v d ∧ DtAt K H y d ∧ d.Shows ∧ Q (.bl true) H
theorem cal_law_same (F : Df K mg d_law_same) (B : Blt mg) (B_repr : mg "repr" = none) : CalG P w K mg base lv_law_same "_law_same" ["one", "other"] (spSame K) := by
  obtain ⟨f, fd, F, g⟩ := F
  refine ⟨f, fd, GT.FunD.okG F sc_law_same (fun vs H Q E h => ?_) (fun cdv A outer s H vs Q E hr hG h => ⟨_, PSs.nox
    (pss_one (ps_ret (pe_cmpR op_eq (pe_callB (call_repr (K := K) rfl hG hr.units) (by rfl) B_repr (by decide +kernel) (pa_cons (pv 0) pa_nil)) (pe_callB (call_repr (K := K) rfl hG hr.units) (by rfl) B_repr (by decide +kernel) (pa_cons (pv 1) pa_nil)) (nomark _)))), ?_⟩), g, F.kp, F.bindsN fun _ _ _ _ _ _ us hl => match us, hl with | [_, _], _ => rfl⟩
  · obtain ⟨v, y, d, rfl, _⟩ := h
    rfl
  · obtain ⟨v, y, d, rfl, hv, hy, hs, q⟩ := h
    repeat walk_at "h"
    refine ⟨v, d, rfl, hv, hs, ?_⟩
    repeat walk_at "h"
    refine ⟨y, d, rfl, hy, hs, ?_⟩
    refine i_Eq rfl ?_
    rw [decide_eq_true rfl]
    exact q
end

/-! ### names in lists: in, index -/
section
variable {P : Program} {w : World} {K : PySem.W.Frag} {mg : Str → Option Value} {base : Heap} {C : Addr}
mutual
theorem DtAt.grow {H H1 : Hp} (s : Stp [] H H1) : ∀ (d : Dt) (v : V), DtAt K H v d → DtAt K H1 v d
  | .non, _, h => by cases h; exact .non
  | .bl _, _, h => by cases h; exact .bl _
  | .num _, _, h => by cases h; exact .num _
  | .txt _, _, h => by cases h; exact .txt _
  | .tup ds, _, h => by
    cases h with
    | tup h1 h2 => exact .tup (h1.stp s) (DtsAt.grow s ds _ h2)
  | .lst ds, _, h => by
    cases h with
    | lst h1 h2 => exact .lst (s.seq h1 (by simp)) (DtsAt.grow s ds _ h2)
theorem DtsAt.grow {H H1 : Hp} (s : Stp [] H H1) : ∀ (ds : List Dt) (vs : List V), DtsAt K H vs ds → DtsAt K H1 vs ds
  | [], _, h => by cases h; exact .nil
  | d :: ds, _, h => by
    cases h with
    | cons h1 h2 => exact .cons (DtAt.grow s d _ h1) (DtsAt.grow s ds _ h2)
end
mutual
/-- no list within -/
def Dt.firm : Dt → Bool
  | .non => true
  | .bl _ => true
  | .num _ => true
  | .txt _ => true
  | .tup ks => Dt.firmAll ks
  | .lst _ => false
def Dt.firmAll : List Dt → Bool
  | [] => true
  | k :: ks => Dt.firm k && Dt.firmAll ks
end
mutual
theorem DtAt.stpF {M : List Addr} {H H1 : Hp} (s : Stp M H H1) : ∀ (d : Dt) (v : V), d.firm = true → DtAt K H v d → DtAt K H1 v d
  | .non, _, _, h => by cases h; exact .non
  | .bl _, _, _, h => by cases h; exact .bl _
  | .num _, _, _, h => by cases h; exact .num _
  | .txt _, _, _, h => by cases h; exact .txt _
  | .tup ds, _, f, h => by
    cases h with
    | tup h1 h2 => exact .tup (h1.stp s) (DtsAt.stpF s ds _ (by simpa [Dt.firm] using f) h2)
  | .lst ds, _, f, _ => by simp [Dt.firm] at f
theorem DtsAt.stpF {M : List Addr} {H H1 : Hp} (s : Stp M H H1) : ∀ (ds : List Dt) (vs : List V), Dt.firmAll ds = true → DtsAt K H vs ds → DtsAt K H1 vs ds
  | [], _, _, h => by cases h; exact .nil
  | d :: ds, _, f, h => by
    rw [Dt.firmAll, Bool.and_eq_true] at f
    cases h with
    | cons h1 h2 => exact .cons (DtAt.stpF s d _ f.1 h1) (DtsAt.stpF s ds _ f.2 h2)
end
theorem any_nm (ms : List Nm) (n : Nm) : ((ms.map nmD).any fun z => Dt.beq z (nmD n)) = decide (n ∈ ms) := by
  rw [List.any_map, Bool.eq_iff_iff, List.any_eq_true, decide_eq_true_eq]
  constructor
  · rintro ⟨m, hm, e⟩
    rw [← nmD_inj (Dt.eq_of_beq _ _ rfl rfl e)]; exact hm
  · intro hm
    exact ⟨n, hm, Dt.beq_self _⟩
theorem addN_in {ns : List Nm} {n : Nm} (h : n ∈ ns) : addN ns n = ns := by unfold addN; rw [if_pos h]
theorem addN_out {ns : List Nm} {n : Nm} (h : n ∉ ns) : addN ns n = ns ++ [n] := by unfold addN; rw [if_neg h]
theorem nm_dep (n : Nm) : (nmD n).depth ≤ 60 := by simp [nmD, Dt.depth, Dt.depthAll]
theorem nms_dep60 (ns : List Nm) : Dt.depthAll (ns.map nmD) ≤ 60 := Nat.le_trans (nms_depth ns) (by decide)
def CelAt (P : Program) (w : World) (K : PySem.W.Frag) (H : Hp) (d : Addr) (cl : List Cel) : Prop := ∃ kvs, ND P w K H d kvs ∧ DD K H kvs (toD cl)
theorem CelAt.stp {H H1 : Hp} {M : List Addr} {d : Addr} {cl : List Cel} (h : CelAt P w K H d cl) (s : Stp M H H1) (n : d ∉ M) : CelAt P w K H1 d cl := let ⟨kvs, a, b⟩ := h; ⟨kvs, a.stp s n, b.stp s⟩
theorem eq_same {H : Hp} {d e : Addr} {a b : List Cel} {Q : VK} (A : CelAt P w K H d a) (B : CelAt P w K H e b) (h : ∀ k, getC a k = getC b k) (q : Q (.bl true) H) : rEqN P w K (.ref d) (.ref e) H Q := by
  obtain ⟨ka, na, da⟩ := A
  obtain ⟨kb, nb, db⟩ := B
  refine ⟨d, e, ka, kb, _, _, rfl, rfl, na.r, nb.r, da, db, fun n1 n2 => ?_⟩
  rw [(dEq_toD n1 n2).mpr h]
  exact q
end

/-! ### octets of numbers and words -/
structure ConW (mg : Str → Option Value) : Prop where
  GREATEST_PEER : ∃ t, mg "GREATEST_PEER" = some (.int 7 t)
  GREATEST_COUNT : ∃ t, mg "GREATEST_COUNT" = some (.int 4294967295 t)
  LONGEST_FIELD : ∃ t, mg "LONGEST_FIELD" = some (.int 8 t)
  LONGEST_TEXT : ∃ t, mg "LONGEST_TEXT" = some (.int 20 t)
  LEAST_INTEGER : ∃ t, mg "LEAST_INTEGER" = some (.int (-1000000) t)
  GREATEST_INTEGER : ∃ t, mg "GREATEST_INTEGER" = some (.int 1000000 t)
  GREATEST_CLOCK : ∃ t, mg "GREATEST_CLOCK" = some (.int 4294967295 t)
  NOTHING : ∃ t, mg "NOTHING" = some (.int 0 t)
  INTEGER : ∃ t, mg "INTEGER" = some (.int 1 t)
  TEXT : ∃ t, mg "TEXT" = some (.int 2 t)
  OBJECT : ∃ t, mg "OBJECT" = some (.int 3 t)
  FIRST_CODE : ∃ t, mg "FIRST_CODE" = some (.int 97 t)
  LAST_CODE : ∃ t, mg "LAST_CODE" = some (.int 122 t)
  GREATEST_NUMBER : ∃ t, mg "GREATEST_NUMBER" = some (.int 4294967295 t)
  MOST_CHANGES : ∃ t, mg "MOST_CHANGES" = some (.int 65535 t)
  LETTERS : ∃ t, mg "LETTERS" = some (.str (Str.ofString "abcdefghijklmnopqrstuvwxyz") t)
/-- so many octets of a number, the greatest first -/
def octs (n : Int) : Nat → List Int
  | 0 => []
  | k + 1 => octs (n / 256) k ++ [n % 256]
theorem octs_len (n : Int) : ∀ k, (octs n k).length = k := by
  intro k
  induction k generalizing n with
  | zero => rfl
  | succ k ih => rw [octs, List.length_append, ih]; rfl
theorem div_pow (n : Int) (k : Nat) : n / 256 / 256 ^ k = n / 256 ^ (k + 1) := by
  rw [Int.ediv_ediv_of_nonneg (by decide), Int.pow_succ, Int.mul_comm]
theorem div_pow' (n : Int) (k : Nat) : n / 256 ^ k / 256 = n / 256 ^ (k + 1) := by
  rw [Int.ediv_ediv_of_nonneg (Int.pow_nonneg (by decide)), Int.pow_succ]
theorem octs_cons (n : Int) (k : Nat) : octs n (k + 1) = (n / 256 ^ k % 256) :: octs n k := by
  induction k generalizing n with
  | zero => simp [octs]
  | succ k ih =>
    rw [octs, ih (n / 256), octs, div_pow]; rfl
/-- the codes of a text -/
def codes (z : Str) : List Int := z.cps.toList.map fun c => ((c : Nat) : Int)
def wordO (z : Str) : List Int := octs (z.length : Nat) 1 ++ codes z
theorem wordO_len (z : Str) : (wordO z).length = 1 + z.length := by
  unfold wordO codes
  rw [List.length_append, octs_len, List.length_map]
  rfl
section
variable {P : Program} {w : World} {K : PySem.W.Frag} {mg : Str → Option Value} {base : Heap}
/-- a new list of octets -/
def NewI (H : Hp) (os : List Int) (Q : VK) : Prop := ∀ (p : Addr) (H1 : Hp), H p = none → H1 p = some (.lst (os.map V.int)) → Stp [] H H1 → Q (.ref p) H1
def spNum (K : PySem.W.Frag) : Sp := fun vs H Q _ => ∃ (n : Int) (k : Nat), vs = [.int n, .int k] ∧ k ≤ 1000 ∧ NewI H (octs n k) Q
theorem cal_number_octets (F : Df K mg d_number_octets) (B : Blt mg) : Cal P w K mg base lv_number_octets "number_octets" ["number", "many"] (spNum K) := by
  obtain ⟨f, fd, F, g⟩ := F
  refine ⟨f, fd, F.ok sc_number_octets (fun vs H Q E h => ?_) (fun cdv A outer s H vs Q E hr h => ⟨_, PSs.nox
    (pss_cons (ps_set (i := 2) sc_number_octets.nd rfl (Or.inl rfl) (pe_lst pa_nil))
    (pss_cons (ps_set (i := 3) sc_number_octets.nd rfl (Or.inl rfl) (pv 0))
    (pss_cons (ps_for PassesOwn.never rfl (pi_range1 rfl B.range (pa_cons (pv 1) pa_nil)) (pg_name (i := 4) sc_number_octets.nd rfl (Or.inl rfl))
      (pss_cons (ps_expr (pe_bm PySem.F.plainAttrs_list PySem.F.slot_list_append PySem.F.type_list_append mt_append (pv 2) (pa_cons (pe_op op_mod (pv 3) pe_int) pa_nil)))
        (pss_one (ps_set (i := 3) sc_number_octets.nd rfl (Or.inl rfl) (pe_op op_fdiv (pv 3) pe_int)))))
    (pss_cons (ps_expr (pe_bm0 PySem.F.plainAttrs_list PySem.F.slot_list_reverse PySem.F.type_list_reverse mt_reverse (pv 2)))
    (pss_one (ps_ret (pv 2))))))), ?_⟩), g, F.kp, F.bindsN fun _ _ _ _ _ _ us hl => match us, hl with | [_, _], _ => rfl⟩
  · obtain ⟨n, k, rfl, _⟩ := h
    rfl
  · obtain ⟨n, k, rfl, hk, q⟩ := h
    repeat walk_at "h"
    refine ⟨Nat.zero_le _, fun p hp => ?_⟩
    have s1 : Stp [] H (upd H p (.lst [])) := .new hp
    have p1 : (upd H p (.lst [])) p = some (.lst []) := upd_same
    generalize upd H p (.lst []) = H1 at s1 p1 ⊢
    repeat walk_at "h"
    refine ⟨k, rfl, by omega, by omega, ?_⟩
    refine for_range (lo := 0) (n := (k : Int).toNat) (fun i σ H' => ∃ (y4 : Option V) (ls : List Int), σ = [some (.int n), some (.int k), some (.ref p), some (.int (n / 256 ^ i)), y4] ∧ Stp [] H H' ∧ H' p = some (.lst (ls.map V.int)) ∧ ls.reverse = octs n i)
      ⟨_, [], by simp; rfl, s1, p1, rfl⟩ ?_ ?_
    · rintro i σ H2 hi ⟨y4, ls, rfl, s2, p2, e2⟩
      have ll : ls.length = i := by rw [← List.length_reverse, e2, octs_len]
      repeat walk_at "h"
      refine ⟨.inl ⟨rfl, _, SqL.of p2⟩, ?_⟩
      repeat walk_at "h"
      refine ⟨p, _, _, rfl, rfl, p2, by rw [List.length_map]; exact Nat.lt_of_le_of_lt (show ls.length ≤ 1000 by omega) (by decide), ?_⟩
      have s3 : Stp [p] H2 (upd H2 p (.lst (ls.map V.int ++ [.int (n / 256 ^ i % 256)]))) := .wr (by simp) p2 fun _ z => nomatch z
      repeat walk_at "h"
      refine ⟨_, ls ++ [n / 256 ^ i % 256], by rw [← div_pow']; rfl, s2.into hp s3, by rw [upd_same, List.map_append]; rfl, ?_⟩
      rw [List.reverse_append, e2, octs_cons]; rfl
    · rintro σ H2 ⟨y4, ls, rfl, s2, p2, e2⟩
      repeat walk_at "h"
      refine ⟨.inl ⟨rfl, _, SqL.of p2⟩, p, _, rfl, rfl, p2, ?_⟩
      have s3 : Stp [p] H2 (upd H2 p (.lst (ls.map V.int).reverse)) := .wr (by simp) p2 fun _ z => nomatch z
      repeat walk_at "h"
      refine q p _ hp ?_ (s2.into hp s3)
      rw [upd_same, ← List.map_reverse, e2, Int.toNat_natCast]
theorem ints_at {H : Hp} {p : Addr} {os : List Int} (h : H p = some (.lst (os.map V.int))) : DtAt K H (.ref p) (.lst (os.map Dt.num)) := by
  refine .lst (SqL.of h) ?_
  clear h
  induction os with
  | nil => exact .nil
  | cons o os ih => exact .cons (.num _) ih
/-- [ord(letter) for letter in word] and the like -/
theorem lc_codes {σ : L2.St} {H : Hp} {Q : VK} {i j : Nat} {z : Str} {te : TE} (hi : σ[i]? = some (some (.str z))) (hz : z.length ≤ 1000) (ht : ∀ (c : Nat) (σ2 : L2.St) (H2 : Hp) (Q2 : VK), c ∈ z.cps.toList → σ2 = (wipe σ [j]).set j (some (.str ⟨#[c]⟩)) → Q2 (.int ((c : Nat) : Int)) H2 → te σ2 H2 Q2)
    (q : NewI H (codes z) Q) : tLc (iStr (tVar i)) (gName j) tYes te [j] σ H Q := by
  refine i_Lc (i_Str (i_var hi ⟨z, rfl, fun p hp0 => ?_⟩))
  have zl : z.cps.toList.length = z.cps.size := by simp
  refine lc_it walk_str (fun m H' => Stp [] H H' ∧ H' p = some (.lst (((codes z).take m).map V.int))) ⟨.new hp0, by rw [upd_same]; rfl⟩ (fun _ _ _ _ => trivial) ?_ ?_
  · rintro m x H1 H2 hm ⟨s1, h1⟩ ⟨rfl, c, hc, rfl⟩
    have hc2 : z.cps.toList[m]? = some c := by rw [← hc]; simp
    refine i_Name ⟨by show ((σ.set j none).set j _).set j none = σ.set j none; rw [List.set_set, List.set_set], i_Yes (i_ite (fun _ => ht c _ _ _ (List.mem_of_getElem? hc2) rfl ⟨_, h1, ?_, s1.mut hp0, ?_⟩) (fun z => nomatch z))⟩
    · have hl : z.cps.size ≤ 1000 := hz
      rw [List.length_map, List.length_take]
      exact Nat.lt_of_le_of_lt (show _ ≤ 1000 by omega) (by decide)
    · rw [upd_same]
      have : (codes z).take (m + 1) = (codes z).take m ++ [((c : Nat) : Int)] := by
        unfold codes
        rw [List.take_add_one, List.getElem?_map, hc2]; rfl
      rw [this, List.map_append]; rfl
  · rintro H1 ⟨s1, h1⟩
    rw [List.take_of_length_le (by unfold codes; rw [List.length_map]; omega)] at h1
    exact q p H1 hp0 h1 s1
def spWordO (K : PySem.W.Frag) : Sp := fun vs H Q _ => ∃ (z : Str), vs = [.str z] ∧ z.length ≤ 1000 ∧ NewI H (wordO z) Q
theorem cal_word_octets (F : Df K mg d_word_octets) (B : Blt mg) (C_number_octets : Cal P w K mg base lv_number_octets "number_octets" ["number", "many"] (spNum K)) : Cal P w K mg base lv_word_octets "word_octets" ["word"] (spWordO K) := by
  obtain ⟨f, fd, F, g⟩ := F
  refine ⟨f, fd, F.ok sc_word_octets (fun vs H Q E h => ?_) (fun cdv A outer s H vs Q E hr h => ⟨_, PSs.nox
    (pss_one (ps_ret (pe_op op_cat (pc_call C_number_octets (hr.mono (by decide)) (by rfl) (pa_cons (pe_callB call_len_str (by rfl) B.len boot_len (pa_cons (pv 0) pa_nil)) (pa_cons pe_int pa_nil))) (pe_lc (own := [("letter", 1)]) (g := gName 1) (by rfl) sc_word_octets.nd (pi_str (pv 0)) (blkOk_by (N := ["word", "letter"]) (own := [("letter", 1)]) (sc := defScope s_word_octets) (by decide +kernel)) (fun _ _ _ _ _ => (pg_name (i := 1) sc_word_octets.nd rfl (Or.inl rfl))) (fun _ _ _ _ _ => pts_nil) (fun _ _ _ _ _ => (pe_callB call_ord (by rfl) B.ord (by decide +kernel) (pa_cons (pv 1) pa_nil))))))), ?_⟩), g, F.kp, F.bindsN fun _ _ _ _ _ _ us hl => match us, hl with | [_], _ => rfl⟩
  · obtain ⟨z, rfl, _⟩ := h
    rfl
  · obtain ⟨z, rfl, hz, q⟩ := h
    repeat walk_at "h"
    refine ⟨z, rfl, Nat.le_trans hz (by decide), ?_⟩
    repeat walk_at "h"
    refine ⟨(z.length : Nat), 1, rfl, by decide, fun p H1 hp p1 s1 => ?_⟩
    refine lc_codes (i := 0) (j := 1) rfl hz (fun c σ2 H2 Q2 hc e q2 => ?_) fun p2 H2 hp2 p2' s2 => ?_
    · subst e
      repeat walk_at "h"
      exact ⟨_, rfl, rfl, q2⟩
    · have p1' := s2.keep _ _ p1 (by simp)
      refine ⟨p, p2, _, _, rfl, rfl, p1', p2', ?_, fun p3 hp3 => ?_⟩
      · rw [List.length_map, List.length_map, octs_len]
        unfold codes
        rw [List.length_map]
        have : z.cps.toList.length = z.length := rfl
        exact Nat.le_trans (show _ ≤ 2000 by omega) (by decide)
      · have s3 : Stp [] H2 (upd H2 p3 (.lst ((octs (z.length : Nat) 1).map V.int ++ (codes z).map V.int))) := .new hp3
        refine q p3 _ ((s1.trans s2).free hp3 (by simp)) ?_ ((s1.trans s2).trans s3)
        rw [upd_same, ← List.map_append]; rfl
end

/-! ### octets of messages -/
def nameO (n : Nm) : List Int := octs n.1 1 ++ octs n.2 4
def valO : Va → List Int
  | .non => [0]
  | .num i => [1] ++ octs (i + 1000000) 3
  | .txt z => [2] ++ wordO z
  | .tg _ n => [3] ++ nameO n
def chO (c : Ch) : List Int := octs c.st.1 4 ++ octs c.st.2 1 ++ nameO c.nm ++ wordO c.fd ++ valO c.va
def sumS (p : Int × Int) (o : Int) : Int × Int := ((p.1 + o) % 256, (p.2 + (p.1 + o) % 256) % 256)
def chkO (os : List Int) : List Int := let p := os.foldl sumS (0, 0); [p.2, p.1]
def msgB (s n : Int) (cs : List Ch) : List Int := octs s 1 ++ octs n 4 ++ octs (cs.length : Nat) 2 ++ (cs.map chO).flatten
def msgO (s n : Int) (cs : List Ch) : List Int := msgB s n cs ++ chkO (msgB s n cs)
def shortVa : Va → Prop
  | .txt z => z.length ≤ 100
  | _ => True
def shortCh (c : Ch) : Prop := c.fd.length ≤ 100 ∧ shortVa c.va
theorem valO_len {x : Va} (h : shortVa x) : (valO x).length ≤ 200 := by
  cases x with
  | non => simp [valO]
  | num i => simp [valO, octs_len]
  | txt z =>
    have h : z.length ≤ 100 := h
    simp only [valO, List.length_append, List.length_singleton, wordO_len]; omega
  | tg s n => simp [valO, nameO, octs_len]
theorem chO_len {c : Ch} (h : shortCh c) : (chO c).length ≤ 500 := by
  have h1 := valO_len h.2
  have h2 := h.1
  unfold chO nameO
  simp only [List.length_append, octs_len, wordO_len]
  omega
theorem chOs_len : ∀ {cs : List Ch}, (∀ c ∈ cs, shortCh c) → ((cs.map chO).flatten).length ≤ 500 * cs.length
  | [], _ => by simp
  | c :: cs, h => by
    have h1 := chO_len (h c List.mem_cons_self)
    have h2 := chOs_len fun c hc => h c (List.mem_cons_of_mem _ hc)
    rw [List.map_cons, List.flatten_cons, List.length_append, List.length_cons]
    omega
section
variable {P : Program} {w : World} {K : PySem.W.Frag} {mg : Str → Option Value} {base : Heap}
/-- two such lists, one behind the other -/
theorem cat_i {H : Hp} {Q : VK} {p p2 : Addr} {a b : List Int} (h1 : H p = some (.lst (a.map V.int))) (h2 : H p2 = some (.lst (b.map V.int))) (l : a.length + b.length ≤ 1000000) (q : NewI H (a ++ b) Q) : rCat (.ref p) (.ref p2) H Q := by
  refine ⟨p, p2, _, _, rfl, rfl, h1, h2, ?_, fun p3 hp3 => ?_⟩
  · rw [List.length_map, List.length_map]
    exact Nat.le_trans l (by decide)
  · have s3 : Stp [] H (upd H p3 (.lst (a.map V.int ++ b.map V.int))) := .new hp3
    exact q p3 _ hp3 (by rw [upd_same, ← List.map_append]) s3
theorem NewI.from {H H1 : Hp} {os : List Int} {Q : VK} (q : NewI H os Q) (s : Stp [] H H1) : NewI H1 os Q := fun p H2 hp h s2 => q p H2 (s.free hp (by simp)) h (s.trans s2)
/-- [x, ..] -/
theorem lit_i {H : Hp} {Q : VK} {os : List Int} (q : NewI H os Q) (l : os.length ≤ 1000) : (os.map V.int).length ≤ sizeLine ∧ ∀ p, H p = none → Q (.ref p) (upd H p (.lst (os.map V.int))) :=
  ⟨by rw [List.length_map]; exact Nat.le_trans l (by decide), fun p hp => q p _ hp upd_same (.new hp)⟩
def spPlainO (K : PySem.W.Frag) : Sp := fun vs H Q _ => ∃ (v : V) (x : Va), vs = [v] ∧ DtAt K H v (vaD x) ∧ shortVa x ∧ x ≠ .non ∧ (∀ s n, x ≠ .tg s n) ∧ NewI H (valO x) Q
theorem cal_plain_octets (F : Df K mg d_plain_octets) (B : Blt mg) (N : ConW mg) (C_number_octets : Cal P w K mg base lv_number_octets "number_octets" ["number", "many"] (spNum K)) (C_word_octets : Cal P w K mg base lv_word_octets "word_octets" ["word"] (spWordO K)) : Cal P w K mg base lv_plain_octets "plain_octets" ["value"] (spPlainO K) := by
  obtain ⟨f, fd, F, g⟩ := F
  refine ⟨f, fd, F.ok sc_plain_octets (fun vs H Q E h => ?_) (fun cdv A outer s H vs Q E hr h => ⟨_, PSs.nox
    (pss_cons (ps_if (pt_val (pe_callB call_isi (by rfl) B.isinstance (by decide +kernel) (pa_cons (pv 0) (pa_cons (pe_bltn (v := .ty "str") (by rfl) B.str (by decide +kernel) rfl) pa_nil))))
      (pss_one (ps_ret (pe_op op_cat (pe_lst (pa_cons (pe_gi rfl N.TEXT) pa_nil)) (pc_call C_word_octets (hr.mono (by decide)) (by rfl) (pa_cons (pv 0) pa_nil)))))
      pss_nil)
    (pss_one (ps_ret (pe_op op_cat (pe_lst (pa_cons (pe_gi rfl N.INTEGER) pa_nil)) (pc_call C_number_octets (hr.mono (by decide)) (by rfl) (pa_cons (pe_op op_sub (pv 0) (pe_gi rfl N.LEAST_INTEGER)) (pa_cons pe_int pa_nil))))))), ?_⟩), g, F.kp, F.bindsN fun _ _ _ _ _ _ us hl => match us, hl with | [_], _ => rfl⟩
  · obtain ⟨v, x, rfl, _⟩ := h
    rfl
  · obtain ⟨v, x, rfl, hv, sh, h1, h2, q⟩ := h
    repeat walk_at "h"
    cases x with
    | non => exact absurd rfl h1
    | tg s n => exact absurd rfl (h2 s n)
    | txt z =>
      refine i_Isi "str" true hv ?_
      obtain rfl := txtAt hv
      have sh : z.length ≤ 100 := sh
      repeat walk_at "h"
      refine iteT ?_
      repeat walk_at "h"
      refine ⟨(by decide : 1 ≤ sizeLine), fun p hp => ?_⟩
      have s1 : Stp [] H (upd H p (.lst [.int 2])) := .new hp
      have p1 : (upd H p (.lst [.int 2])) p = some (.lst (([2] : List Int).map V.int)) := upd_same
      generalize upd H p (.lst [.int 2]) = H1 at s1 p1 ⊢
      repeat walk_at "h"
      refine ⟨z, rfl, by omega, fun p2 H2 hp2 p2' s2 => ?_⟩
      refine cat_i (s2.keep _ _ p1 (by simp)) p2' (by rw [wordO_len]; simp; omega) (q.from (s1.trans s2))
    | num i =>
      refine i_Isi "int" false hv ?_
      obtain rfl := numAt hv
      repeat walk_at "h"
      refine iteF ?_
      repeat walk_at "h"
      refine ⟨(by decide : 1 ≤ sizeLine), fun p hp => ?_⟩
      have s1 : Stp [] H (upd H p (.lst [.int 1])) := .new hp
      have p1 : (upd H p (.lst [.int 1])) p = some (.lst (([1] : List Int).map V.int)) := upd_same
      generalize upd H p (.lst [.int 1]) = H1 at s1 p1 ⊢
      repeat walk_at "h"
      refine ⟨i + 1000000, 3, by rw [Int.sub_neg]; rfl, by decide, fun p2 H2 hp2 p2' s2 => ?_⟩
      refine cat_i (s2.keep _ _ p1 (by simp)) p2' (by rw [octs_len]; decide) (q.from (s1.trans s2))
def spNameO (K : PySem.W.Frag) : Sp := fun vs H Q _ => ∃ (v : V) (n : Nm), vs = [v] ∧ DtAt K H v (nmD n) ∧ NewI H (nameO n) Q
theorem cal_name_octets (F : Df K mg d_name_octets) (C_number_octets : Cal P w K mg base lv_number_octets "number_octets" ["number", "many"] (spNum K)) : Cal P w K mg base lv_name_octets "_name_octets" ["name"] (spNameO K) := by
  obtain ⟨f, fd, F, g⟩ := F
  refine ⟨f, fd, F.ok sc_name_octets (fun vs H Q E h => ?_) (fun cdv A outer s H vs Q E hr h => ⟨_, PSs.nox
    (pss_cons (ps_asg (pv 0) (pg_tup (by rfl) (pgs_cons (pg_name (i := 1) sc_name_octets.nd rfl (Or.inl rfl)) (pgs_cons (pg_name (i := 2) sc_name_octets.nd rfl (Or.inl rfl)) pgs_nil))))
    (pss_one (ps_ret (pe_op op_cat (pc_call C_number_octets (hr.mono (by decide)) (by rfl) (pa_cons (pv 1) (pa_cons pe_int pa_nil))) (pc_call C_number_octets (hr.mono (by decide)) (by rfl) (pa_cons (pv 2) (pa_cons pe_int pa_nil))))))), ?_⟩), g, F.kp, F.bindsN fun _ _ _ _ _ _ us hl => match us, hl with | [_], _ => rfl⟩
  · obtain ⟨v, n, rfl, _⟩ := h
    rfl
  · obtain ⟨v, n, rfl, hv, q⟩ := h
    obtain ⟨a, rfl, ha⟩ := nmAt hv
    repeat walk_at "h"
    refine i_gTup ha.sqt rfl ?_
    repeat walk_at "h"
    refine ⟨n.1, 1, rfl, by decide, fun p H1 hp p1 s1 => ?_⟩
    repeat walk_at "h"
    refine ⟨n.2, 4, rfl, by decide, fun p2 H2 hp2 p2' s2 => ?_⟩
    exact cat_i (s2.keep _ _ p1 (by simp)) p2' (by rw [octs_len, octs_len]; decide) (q.from (s1.trans s2))
def spValO (K : PySem.W.Frag) : Sp := fun vs H Q _ => ∃ (v : V) (x : Va), vs = [v] ∧ DtAt K H v (vaD x) ∧ shortVa x ∧ NewI H (valO x) Q
theorem cal_value_octets (F : Df K mg d_value_octets) (B : Blt mg) (N : ConW mg) (C_name_octets : Cal P w K mg base lv_name_octets "_name_octets" ["name"] (spNameO K)) (C_plain_octets : Cal P w K mg base lv_plain_octets "plain_octets" ["value"] (spPlainO K)) : Cal P w K mg base lv_value_octets "_value_octets" ["value"] (spValO K) := by
  obtain ⟨f, fd, F, g⟩ := F
  refine ⟨f, fd, F.ok sc_value_octets (fun vs H Q E h => ?_) (fun cdv A outer s H vs Q E hr h => ⟨_, PSs.nox
    (pss_cons (ps_if (pt_cmpR op_isN (pv 0) pe_non (nomark _))
      (pss_one (ps_ret (pe_lst (pa_cons (pe_gi rfl N.NOTHING) pa_nil))))
      pss_nil)
    (pss_cons (ps_if (pt_val (pe_callB call_isi (by rfl) B.isinstance (by decide +kernel) (pa_cons (pv 0) (pa_cons (pe_bltn (v := .ty "tuple") (by rfl) B.tuple (by decide +kernel) rfl) pa_nil))))
      (pss_one (ps_ret (pe_op op_cat (pe_lst (pa_cons (pe_gi rfl N.OBJECT) pa_nil)) (pc_call C_name_octets (hr.mono (by decide)) (by rfl) (pa_cons (pe_ix (ix_tupK (K := K) rfl) (pv 0) pe_int (fun _ _ => rfl)) pa_nil)))))
      pss_nil)
    (pss_one (ps_ret (pc_call C_plain_octets (hr.mono (by decide)) (by rfl) (pa_cons (pv 0) pa_nil)))))), ?_⟩), g, F.kp, F.bindsN fun _ _ _ _ _ _ us hl => match us, hl with | [_], _ => rfl⟩
  · obtain ⟨v, x, rfl, _⟩ := h
    rfl
  · obtain ⟨v, x, rfl, hv, sh, q⟩ := h
    repeat walk_at "h"
    refine ⟨rfl, ⟨_, rfl, ?_⟩⟩
    cases x with
    | non =>
      cases hv
      refine i_ite (fun _ => ?_) (fun z => by simp at z)
      repeat walk_at "h"
      exact lit_i (os := [0]) q (by decide)
    | num i =>
      have hv0 := hv
      obtain rfl := numAt hv
      refine i_ite (fun z => by simp at z) (fun _ => ?_)
      repeat walk_at "h"
      refine i_Isi "int" false hv0 ?_
      repeat walk_at "h"
      refine iteF ?_
      repeat walk_at "h"
      exact ⟨_, _, rfl, hv0, sh, (fun z => nomatch z), (fun _ _ z => nomatch z), q⟩
    | txt z =>
      have hv0 := hv
      obtain rfl := txtAt hv
      refine i_ite (fun z => by simp at z) (fun _ => ?_)
      repeat walk_at "h"
      refine i_Isi "str" false hv0 ?_
      repeat walk_at "h"
      refine iteF ?_
      repeat walk_at "h"
      exact ⟨_, _, rfl, hv0, sh, (fun z => nomatch z), (fun _ _ z => nomatch z), q⟩
    | tg s n =>
      have hv0 := hv
      obtain ⟨a, b, rfl, ha, hb⟩ := tgAt hv
      refine i_ite (fun z => by simp at z) (fun _ => ?_)
      repeat walk_at "h"
      refine i_Isi "tuple" true hv0 ?_
      repeat walk_at "h"
      refine iteT ?_
      repeat walk_at "h"
      refine ⟨(by decide : 1 ≤ sizeLine), fun p hp => ?_⟩
      have s1 : Stp [] H (upd H p (.lst [.int 3])) := .new hp
      have p1 : (upd H p (.lst [.int 3])) p = some (.lst (([3] : List Int).map V.int)) := upd_same
      generalize upd H p (.lst [.int 3]) = H1 at s1 p1 ⊢
      repeat walk_at "h"
      refine i_IxT (ha.stp s1).sqt (at_of (j := 1) rfl rfl) ?_
      repeat walk_at "h"
      refine ⟨_, n, rfl, DtAt.stp s1 _ _ rfl hb, fun p2 H2 hp2 p2' s2 => ?_⟩
      exact cat_i (s2.keep _ _ p1 (by simp)) p2' (by simp [nameO, octs_len]) (q.from (s1.trans s2))
def spChO (K : PySem.W.Frag) : Sp := fun vs H Q _ => ∃ (v : V) (c : Ch), vs = [v] ∧ DtAt K H v (chD c) ∧ shortCh c ∧ NewI H (chO c) Q
theorem cal_change_octets (F : Df K mg d_change_octets) (C_number_octets : Cal P w K mg base lv_number_octets "number_octets" ["number", "many"] (spNum K)) (C_name_octets : Cal P w K mg base lv_name_octets "_name_octets" ["name"] (spNameO K)) (C_word_octets : Cal P w K mg base lv_word_octets "word_octets" ["word"] (spWordO K)) (C_value_octets : Cal P w K mg base lv_value_octets "_value_octets" ["value"] (spValO K)) : Cal P w K mg base lv_change_octets "_change_octets" ["change"] (spChO K) := by
  obtain ⟨f, fd, F, g⟩ := F
  refine ⟨f, fd, F.ok sc_change_octets (fun vs H Q E h => ?_) (fun cdv A outer s H vs Q E hr h => ⟨_, PSs.nox
    (pss_cons (ps_asg (pv 0) (pg_tup (by rfl) (pgs_cons (pg_tup (by rfl) (pgs_cons (pg_name (i := 1) sc_change_octets.nd rfl (Or.inl rfl)) (pgs_cons (pg_name (i := 2) sc_change_octets.nd rfl (Or.inl rfl)) pgs_nil))) (pgs_cons (pg_name (i := 3) sc_change_octets.nd rfl (Or.inl rfl)) (pgs_cons (pg_name (i := 4) sc_change_octets.nd rfl (Or.inl rfl)) (pgs_cons (pg_name (i := 5) sc_change_octets.nd rfl (Or.inl rfl)) pgs_nil))))))
    (pss_cons (ps_set (i := 6) sc_change_octets.nd rfl (Or.inl rfl) (pe_op op_cat (pc_call C_number_octets (hr.mono (by decide)) (by rfl) (pa_cons (pv 1) (pa_cons pe_int pa_nil))) (pc_call C_number_octets (hr.mono (by decide)) (by rfl) (pa_cons (pv 2) (pa_cons pe_int pa_nil)))))
    (pss_one (ps_ret (pe_op op_cat (pe_op op_cat (pe_op op_cat (pv 6) (pc_call C_name_octets (hr.mono (by decide)) (by rfl) (pa_cons (pv 3) pa_nil))) (pc_call C_word_octets (hr.mono (by decide)) (by rfl) (pa_cons (pv 4) pa_nil))) (pc_call C_value_octets (hr.mono (by decide)) (by rfl) (pa_cons (pv 5) pa_nil))))))), ?_⟩), g, F.kp, F.bindsN fun _ _ _ _ _ _ us hl => match us, hl with | [_], _ => rfl⟩
  · obtain ⟨v, c, rfl, _⟩ := h
    rfl
  · obtain ⟨v, c, rfl, hv, sh, q⟩ := h
    obtain ⟨a, s, n, x, rfl, ha, hs, hn, hx⟩ := chAt hv
    obtain ⟨sa, rfl, hsa⟩ := nmAt hs
    have l1 := valO_len sh.2
    have l2 := sh.1
    repeat walk_at "h"
    refine i_gTup ha.sqt rfl ?_
    repeat walk_at "h"
    refine i_gTup hsa.sqt rfl ?_
    repeat walk_at "h"
    refine ⟨c.st.1, 4, rfl, by decide, fun p1 H1 n1 e1 s1 => ?_⟩
    repeat walk_at "h"
    refine ⟨c.st.2, 1, rfl, by decide, fun p2 H2 n2 e2 s2 => ?_⟩
    refine cat_i (s2.keep _ _ e1 (by simp)) e2 (by rw [octs_len, octs_len]; decide) fun p3 H3 n3 e3 s3 => ?_
    have s03 := (s1.trans s2).trans s3
    repeat walk_at "h"
    refine ⟨_, c.nm, rfl, DtAt.stp s03 _ _ rfl hn, fun p4 H4 n4 e4 s4 => ?_⟩
    refine cat_i (s4.keep _ _ e3 (by simp)) e4 (by simp only [List.length_append, nameO, octs_len]; decide) fun p5 H5 n5 e5 s5 => ?_
    repeat walk_at "h"
    refine ⟨c.fd, rfl, by omega, fun p6 H6 n6 e6 s6 => ?_⟩
    refine cat_i (s6.keep _ _ e5 (by simp)) e6 (by simp only [List.length_append, nameO, octs_len, wordO_len]; omega) fun p7 H7 n7 e7 s7 => ?_
    have s07 := (((s03.trans s4).trans s5).trans s6).trans s7
    repeat walk_at "h"
    refine ⟨_, c.va, rfl, DtAt.stp s07 _ _ (vaD_flat _) hx, sh.2, fun p8 H8 n8 e8 s8 => ?_⟩
    exact cat_i (s8.keep _ _ e7 (by simp)) e8 (by simp only [List.length_append, nameO, octs_len, wordO_len]; omega) (q.from (s07.trans s8))
def spChk (K : PySem.W.Frag) : Sp := fun vs H Q _ => ∃ (p : Addr) (os : List Int), vs = [.ref p] ∧ H p = some (.lst (os.map V.int)) ∧ NewI H (chkO os) Q
theorem cal_check_of (F : Df K mg d_check_of) : Cal P w K mg base lv_check_of "check_of" ["octets"] (spChk K) := by
  obtain ⟨f, fd, F, g⟩ := F
  refine ⟨f, fd, F.ok sc_check_of (fun vs H Q E h => ?_) (fun cdv A outer s H vs Q E hr h => ⟨_, PSs.nox
    (pss_cons (ps_set (i := 1) sc_check_of.nd rfl (Or.inl rfl) pe_int)
    (pss_cons (ps_set (i := 2) sc_check_of.nd rfl (Or.inl rfl) pe_int)
    (pss_cons (ps_for PassesOwn.never rfl (pi_list (pv 0)) (pg_name (i := 3) sc_check_of.nd rfl (Or.inl rfl))
      (pss_cons (ps_set (i := 1) sc_check_of.nd rfl (Or.inl rfl) (pe_op op_mod (pe_op op_add (pv 1) (pv 3)) pe_int))
        (pss_one (ps_set (i := 2) sc_check_of.nd rfl (Or.inl rfl) (pe_op op_mod (pe_op op_add (pv 2) (pv 1)) pe_int)))))
    (pss_one (ps_ret (pe_lst (pa_cons (pv 2) (pa_cons (pv 1) pa_nil)))))))), ?_⟩), g, F.kp, F.bindsN fun _ _ _ _ _ _ us hl => match us, hl with | [_], _ => rfl⟩
  · obtain ⟨p, os, rfl, _⟩ := h
    rfl
  · obtain ⟨p, os, rfl, hp, q⟩ := h
    repeat walk_at "h"
    refine ⟨p, rfl, ⟨_, SqL.of hp⟩, ?_⟩
    refine for_list (xs := os.map V.int) (fun i σ H' => H' = H ∧ ∃ (y3 : Option V), σ = [some (.ref p), some (.int ((os.take i).foldl sumS (0, 0)).1), some (.int ((os.take i).foldl sumS (0, 0)).2), y3])
      ⟨rfl, _, rfl⟩ (fun i σ H' _ ⟨e, _⟩ => by rw [e]; exact SqL.of hp) ?_ ?_
    · rintro i v σ H' hv ⟨rfl, y3, rfl⟩
      rw [List.getElem?_map] at hv
      obtain ⟨o, ho, rfl⟩ := Option.map_eq_some_iff.mp hv
      have tk : os.take (i + 1) = os.take i ++ [o] := by rw [List.take_add_one, ho]; rfl
      repeat walk_at "h"
      refine ⟨rfl, some (.int o), ?_⟩
      rw [tk, List.foldl_append]; rfl
    · rintro σ H' ⟨rfl, y3, rfl⟩
      rw [List.length_map, List.take_length]
      repeat walk_at "h"
      exact lit_i (os := chkO os) q (by simp [chkO])
end

section
variable {P : Program} {w : World} {K : PySem.W.Frag} {mg : Str → Option Value} {base : Heap}
theorem chO_snoc (cs : List Ch) (c : Ch) : ((cs ++ [c]).map chO).flatten = (cs.map chO).flatten ++ chO c := by simp
/-- a list's octets, more behind them -/
theorem ext_i {H : Hp} {Q : VK} {p p2 : Addr} {a b : List Int} (h1 : H p = some (.lst (a.map V.int))) (h2 : H p2 = some (.lst (b.map V.int))) (l : a.length + b.length ≤ 1000000)
    (q : ∀ H1, H1 p = some (.lst ((a ++ b).map V.int)) → Stp [p] H H1 → Q .non H1) : rExtend (.ref p) [.ref p2] H Q := by
  refine ⟨p, p2, _, _, rfl, rfl, h1, h2, ?_, ?_⟩
  · rw [List.length_map, List.length_map]
    exact Nat.le_trans l (by decide)
  · exact q _ (by rw [upd_same, List.map_append]) (.wr (by simp) h1 fun _ z => nomatch z)
def spMsgO (K : PySem.W.Frag) : Sp := fun vs H Q _ => ∃ (sd n : Int) (r : Addr) (ws : List V) (cs : List Ch), vs = [.int sd, .int n, .ref r] ∧ H r = some (.lst ws) ∧ DtsAt K H ws (cs.map chD) ∧ cs.length ≤ 100 ∧ (∀ c ∈ cs, shortCh c) ∧ NewI H (msgO sd n cs) Q
theorem cal_message_octets (F : Df K mg d_message_octets) (B : Blt mg) (C_number_octets : Cal P w K mg base lv_number_octets "number_octets" ["number", "many"] (spNum K)) (C_change_octets : Cal P w K mg base lv_change_octets "_change_octets" ["change"] (spChO K)) (C_check_of : Cal P w K mg base lv_check_of "check_of" ["octets"] (spChk K)) : Cal P w K mg base lv_message_octets "message_octets" ["sender", "number", "changes"] (spMsgO K) := by
  obtain ⟨f, fd, F, g⟩ := F
  refine ⟨f, fd, F.ok sc_message_octets (fun vs H Q E h => ?_) (fun cdv A outer s H vs Q E hr h => ⟨_, PSs.nox
    (pss_cons (ps_set (i := 3) sc_message_octets.nd rfl (Or.inl rfl) (pe_op op_cat (pe_op op_cat (pc_call C_number_octets (hr.mono (by decide)) (by rfl) (pa_cons (pv 0) (pa_cons pe_int pa_nil))) (pc_call C_number_octets (hr.mono (by decide)) (by rfl) (pa_cons (pv 1) (pa_cons pe_int pa_nil)))) (pc_call C_number_octets (hr.mono (by decide)) (by rfl) (pa_cons (pe_callB call_len_seq (by rfl) B.len boot_len (pa_cons (pv 2) pa_nil)) (pa_cons pe_int pa_nil)))))
    (pss_cons (ps_for PassesOwn.never rfl (pi_list (pv 2)) (pg_name (i := 4) sc_message_octets.nd rfl (Or.inl rfl))
      (pss_one (ps_expr (pe_bm PySem.F.plainAttrs_list PySem.F.slot_list_extend PySem.F.type_list_extend mt_extend (pv 3) (pa_cons (pc_call C_change_octets (hr.mono (by decide)) (by rfl) (pa_cons (pv 4) pa_nil)) pa_nil)))))
    (pss_one (ps_ret (pe_op op_cat (pv 3) (pc_call C_check_of (hr.mono (by decide)) (by rfl) (pa_cons (pv 3) pa_nil))))))), ?_⟩), g, F.kp, F.bindsN fun _ _ _ _ _ _ us hl => match us, hl with | [_, _, _], _ => rfl⟩
  · obtain ⟨sd, n, r, ws, cs, rfl, _⟩ := h
    rfl
  · obtain ⟨sd, n, r, ws, cs, rfl, hr, hd, hl, sh, q⟩ := h
    have wl : ws.length = cs.length := by have := hd.length; rwa [List.length_map] at this
    repeat walk_at "h"
    refine ⟨sd, 1, rfl, by decide, fun p1 H1 n1 e1 s1 => ?_⟩
    repeat walk_at "h"
    refine ⟨n, 4, rfl, by decide, fun p2 H2 n2 e2 s2 => ?_⟩
    refine cat_i (s2.keep _ _ e1 (by simp)) e2 (by rw [octs_len, octs_len]; decide) fun p3 H3 n3 e3 s3 => ?_
    have s03 := (s1.trans s2).trans s3
    repeat walk_at "h"
    refine ⟨r, ws, rfl, .inl (SqL.of (s03.keep _ _ hr (by simp))), ?_⟩
    repeat walk_at "h"
    refine ⟨(ws.length : Nat), 2, rfl, by decide, fun p4 H4 n4 e4 s4 => ?_⟩
    rw [wl] at e4
    refine cat_i (s4.keep _ _ e3 (by simp)) e4 (by simp only [List.length_append, octs_len]; decide) fun p5 H5 n5 e5 s5 => ?_
    have s05 := (s03.trans s4).trans s5
    have n5H : H p5 = none := (s03.trans s4).free n5 (by simp)
    have rp : r ≠ p5 := ne_of_none hr n5H
    clear s1 s2 s3 s4 s5 e1 e2 e3 e4 s03 n1 n2 n3 n4 n5
    repeat walk_at "h"
    refine ⟨r, rfl, ⟨ws, SqL.of (s05.keep _ _ hr (by simp))⟩, ?_⟩
    refine for_list (xs := ws) (fun i σ H' => ∃ (y4 : Option V), σ = [some (.int sd), some (.int n), some (.ref r), some (.ref p5), y4] ∧ Stp [] H H' ∧ H' p5 = some (.lst ((octs sd 1 ++ octs n 4 ++ octs (cs.length : Nat) 2 ++ ((cs.take i).map chO).flatten).map V.int)))
      ⟨_, rfl, s05, by simpa using e5⟩ (fun i σ H' _ ⟨_, _, s, _⟩ => SqL.of (s.keep _ _ hr (by simp))) ?_ ?_
    · rintro i v σ H6 hv ⟨y4, rfl, s6, e6⟩
      obtain ⟨c, hc, dc⟩ := ch_get (chs_stp hd s6) hv
      have tk : cs.take (i + 1) = cs.take i ++ [c] := by rw [List.take_add_one, hc]; rfl
      have cl := chOs_len (cs := cs.take i) fun c hc => sh c (List.mem_of_mem_take hc)
      rw [List.length_take] at cl
      have c1 := chO_len (sh c (List.mem_of_getElem? hc))
      repeat walk_at "h"
      refine ⟨.inl ⟨rfl, _, SqL.of e6⟩, ?_⟩
      repeat walk_at "h"
      refine ⟨v, c, rfl, dc, sh c (List.mem_of_getElem? hc), fun p7 H7 n7 e7 s7 => ?_⟩
      refine i_Nil (ext_i (s7.keep _ _ e6 (by simp)) e7 (by simp only [List.length_append, octs_len]; omega) fun H8 e8 s8 => ?_)
      repeat walk_at "h"
      refine ⟨_, rfl, (s6.trans s7).into n5H s8, ?_⟩
      rw [tk, chO_snoc, ← List.append_assoc]; exact e8
    · rintro σ H6 ⟨y4, rfl, s6, e6⟩
      rw [wl, List.take_length] at e6
      have cl := chOs_len sh
      repeat walk_at "h"
      refine ⟨p5, msgB sd n cs, rfl, e6, fun p7 H7 n7 e7 s7 => ?_⟩
      refine cat_i (s7.keep _ _ e6 (by simp)) e7 ?_ (q.from (s6.trans s7))
      simp only [List.length_append, octs_len, chkO, List.length_cons, List.length_nil]; omega
/-! ### the law's own writer -/
def spDigO (K : PySem.W.Frag) : Sp := spNum K
/-- a to z -/
def azZ (z : Str) : Prop := ∀ c ∈ z.cps.toList, 97 ≤ c ∧ c ≤ 122
theorem az_index {c : Nat} (h : 97 ≤ c ∧ c ≤ 122) : ∃ rest, Builtin.Str.occurrences (Str.ofString "abcdefghijklmnopqrstuvwxyz") ⟨#[c]⟩ 0 (Str.ofString "abcdefghijklmnopqrstuvwxyz").length 1 = (c - 97) :: rest := by
  obtain ⟨k, rfl⟩ : ∃ k, c = 97 + k := ⟨c - 97, by omega⟩
  have hk : k < 26 := by omega
  have all : ∀ k : Fin 26, (Builtin.Str.occurrences (Str.ofString "abcdefghijklmnopqrstuvwxyz") ⟨#[97 + k.val]⟩ 0 (Str.ofString "abcdefghijklmnopqrstuvwxyz").length 1).head? = some (97 + k.val - 97) := by decide +kernel
  have h2 := all ⟨k, hk⟩
  cases e : Builtin.Str.occurrences (Str.ofString "abcdefghijklmnopqrstuvwxyz") ⟨#[97 + k]⟩ 0 (Str.ofString "abcdefghijklmnopqrstuvwxyz").length 1 with
  | nil => rw [e] at h2; cases h2
  | cons a rest =>
    rw [e] at h2
    simp only [List.head?_cons, Option.some.injEq] at h2
    exact ⟨rest, by rw [h2]⟩
def spLetters (K : PySem.W.Frag) : Sp := fun vs H Q _ => ∃ (z : Str), vs = [.str z] ∧ z.length ≤ 100 ∧ azZ z ∧ NewI H (wordO z) Q
def spSums (K : PySem.W.Frag) : Sp := spChk K
end

/-! ### the reader -/
section
variable {P : Program} {w : World} {K : PySem.W.Frag} {mg : Str → Option Value} {base : Heap} {C : Addr}
abbrev octetsS : Str := Str.ofString "octets"
abbrev placeS : Str := Str.ofString "place"
/-- a reader at r of the octets os at o, so far -/
structure RdAt (C : Addr) (H : Hp) (r dx o : Addr) (os : List Int) (n : Nat) : Prop where
  at_ : H r = some (.ins C dx [(octetsS, .ref o), (placeS, .int (n : Nat))])
  os_ : H o = some (.lst (os.map V.int))
theorem RdAt.grow {H H1 : Hp} {r dx o : Addr} {os : List Int} {n : Nat} (h : RdAt C H r dx o os n) (s : Stp [] H H1) : RdAt C H1 r dx o os n := ⟨s.keep _ _ h.at_ (by simp), s.keep _ _ h.os_ (by simp)⟩
theorem RdAt.ne {H : Hp} {r dx o : Addr} {os : List Int} {n : Nat} (h : RdAt C H r dx o os n) : o ≠ r := by
  rintro rfl
  have h1 := h.at_
  rw [h.os_] at h1
  cases h1
structure RdC (K : PySem.W.Frag) (C : Addr) : Prop where
  cls : Cls K C
  oc : NoAttr K C "octets"
  pl : NoAttr K C "place"
def spRInit (C : Addr) : Sp := fun vs H Q _ => ∃ (r dx o : Addr) (os : List Int), vs = [.ref r, .ref o] ∧ H r = some (.ins C dx []) ∧ H o = some (.lst (os.map V.int)) ∧ ∀ H1, RdAt C H1 r dx o os 0 → Stp [r] H H1 → Q .non H1
theorem mki_Reader_init (F : Dfi K mg C "Reader" d_Reader_init) (R : RdC K C) : Mki P w K mg base lv_Reader_init C "Reader" ["self", "octets"] (spRInit C) := by
  obtain ⟨f, fd, F, g⟩ := F
  refine ⟨f, fd, F.ok sc_Reader_init (fun vs H Q E h => ?_) (fun cdv A outer s H vs Q E hr h => ⟨_, PSs.nox
    (pss_cons (ps_fld (pv 0) (pv 1) rfl)
    (pss_one (ps_fld (pv 0) pe_int rfl))), ?_⟩), g, F.kp, F.bindsN fun _ _ _ _ _ _ us hl => match us, hl with | [_, _], _ => rfl⟩
  · obtain ⟨r, dx, o, os, rfl, _⟩ := h
    rfl
  · obtain ⟨r, dx, o, os, rfl, hr, ho, q⟩ := h
    repeat walk_at "h"
    refine ⟨r, C, dx, [], rfl, hr, R.cls, R.oc, by decide, ?_⟩
    have s1 : Stp [r] H (upd H r (.ins C dx (putF "octets" (.ref o) []))) := .wr (by simp) hr fun _ z => nomatch z
    have r1 : (upd H r (.ins C dx (putF "octets" (.ref o) []))) r = some (.ins C dx [(octetsS, .ref o)]) := upd_same
    have or : o ≠ r := by
      rintro rfl
      rw [ho] at hr; cases hr
    have o1 := s1.keep _ _ ho (by simpa using or)
    generalize upd H r (.ins C dx (putF "octets" (.ref o) [])) = H1 at s1 r1 o1 ⊢
    repeat walk_at "h"
    refine ⟨r, C, dx, _, rfl, r1, R.cls, R.pl, (show 1 < 1000 by decide), ?_⟩
    have s2 : Stp [r] H1 (upd H1 r (.ins C dx (putF "place" (.int 0) [(octetsS, .ref o)]))) := .wr (by simp) r1 fun _ z => nomatch z
    exact q _ ⟨upd_same, s2.keep _ _ o1 (by simpa using or)⟩ (s1.trans s2)
theorem pow_2_256 (m : Nat) : (2 : Int) ^ (8 * m) = 256 ^ m := by
  rw [Int.pow_mul]; rfl
end
section
def strOf (l : List Nat) : Str := ⟨l.toArray⟩
theorem strOf_len (l : List Nat) : (strOf l).length = l.length := by
  show l.toArray.size = l.length
  simp
theorem strOf_snoc (l : List Nat) (c : Nat) : strOf l ++ (⟨#[c]⟩ : Str) = strOf (l ++ [c]) := by
  show (⟨l.toArray ++ #[c]⟩ : Str) = ⟨(l ++ [c]).toArray⟩
  simp
end

/-! ### the error of octets -/
abbrev placeE : Str := Str.ofString "place"
/-- a number that can be written -/
def SmallI (v : V) : Prop := ∃ i : Int, v = .int i ∧ i.natAbs < 2 ^ 70
def Dfe (K : PySem.W.Frag) (C : Addr) (d : He.DefD) : Prop := ∃ (fI : Addr) (fd : FuncData), FunD K d.name d.qual d.params d.body d.scope [] [] fI fd ∧ PySem.W.findIn K (.ref C) "__init__" = some (some (.ref fI)) ∧ PySem.W.typeIn K (.ref fI) = some (.type "function")
section
variable {P : Program} {w : World} {K : PySem.W.Frag} {mg : Str → Option Value} {base : Heap} {CE GE : Addr}
theorem log2_small {n : Nat} (h : n < 2 ^ 70) : n.log2 < 1920 := by
  by_cases z : n = 0
  · subst z; decide
  · have := (Nat.log2_lt z).mpr h
    omega
theorem int_text_small {i : Int} (h : i.natAbs < 2 ^ 70) : (Str.ofString (toString i)).length ≤ 100 := by
  have e := int_text_length_le10 (a := i) (k := 22) (by decide) (Nat.lt_of_lt_of_le h (by decide))
  rw [PySem.ofString_length]
  omega
theorem err_CodeError (F : Dfe K CE d_CodeError_init) (T : ErrC K CE) (nf : PySem.W.findIn K (.ref CE) "place" = some none) (hm : mg "CodeError" = some (.ref CE)) (G_GraphtwinsError : mg "GraphtwinsError" = some (.ref GE)) (BC_GraphtwinsError : BasC K GE) :
    Err P w K mg base lv_CodeError_init CE "CodeError" "place" SmallI "place" := by
  obtain ⟨fI, fd, F, hi, hty⟩ := F
  refine ⟨T, nf, hm, fI, fd, ?_, hi, hty, F.bindsN fun _ _ _ _ _ _ us hl => match us, hl with | [_, _], _ => rfl⟩
  refine F.ok sc_CodeError_init (fun vs H Q E h => ?_) (fun cdv A outer s H vs Q E hr h => ⟨_, PSs.nox
    (pss_cons (ps_expr (pe_binit BC_GraphtwinsError (by rfl) G_GraphtwinsError (pa_cons (pv 0) (pa_cons (pe_joinedT (PJ.cons pe_str (PJ.cons (pe_fmt (pv 1)) PJ.nil))) pa_nil))))
    (pss_one (ps_ost (pv 0) (pv 1)))), ?_⟩)
  · obtain ⟨a, v, rfl, _⟩ := h
    rfl
  · obtain ⟨a, v, rfl, ⟨i, rfl, hi⟩, ha, q⟩ := h
    repeat walk_at "h"
    refine i_VeI ?_
    repeat walk_at "h"
    refine i_Join ?_
    have l1 : (Str.empty ++ Str.ofString "the octets are wrong at the place ").length = 34 := by decide
    have l2 := int_text_small hi
    refine i_Js ⟨_, rfl, by rw [l1]; decide, i_Js (i_Fmt ⟨_, rfl, .inr ⟨i, rfl, log2_small hi, ?_⟩⟩)⟩
    refine ⟨_, rfl, ?_, i_Js0 ?_⟩
    · rw [strLen_append, l1]
      refine Nat.le_trans (show 34 + _ ≤ 200 by omega) (by decide)
    · refine ⟨a, CE, _, rfl, by simp, T.ox, ha, ?_⟩
      exact ⟨_, rfl, _, rfl, a, CE, rfl, T.ox, nf, .inl ⟨ha, fun dx hd ne => q dx hd ne⟩⟩
end

/-! ### reading octets that may be wrong: what is read and the place behind it, or the first wrong place -/
section
inductive Rs (α : Type) where
  | bad (p : Nat)
  | good (a : α) (n : Nat)
abbrev Rd (α : Type) := List Int → Nat → Rs α
def Rd.andThen {α β : Type} (m : Rd α) (f : α → Rd β) : Rd β := fun os n => match m os n with
  | .bad p => .bad p
  | .good a k => f a os k
def Rd.ret {α : Type} (a : α) : Rd α := fun _ n => .good a n
def rOct (a b : Int) : Rd Int := fun os n => match os[n]? with
  | none => .bad n
  | some x => if x < a ∨ b < x then .bad n else .good x (n + 1)
def rNum (a b : Int) : Nat → Int → Rd Int
  | 0, v => Rd.ret v
  | m + 1, v => (rOct (max (a / 256 ^ m - 256 * v) 0) (min (b / 256 ^ m - 256 * v) 255)).andThen fun x => rNum a b m (256 * v + x)
/-- what has been read of a word of m letters can still come behind bf -/
def rOrd (m : Nat) (bf z : List Nat) : Rd Unit := fun _ n => if 0 < m ∧ ¬ bf < z ++ List.replicate (m - z.length) 122 then .bad (n - 1) else .good () n
def rLet (m : Nat) (bf : List Nat) : Nat → List Nat → Rd (List Nat)
  | 0, z => Rd.ret z
  | k + 1, z => (rOct 97 122).andThen fun x => (rOrd m bf (z ++ [x.toNat])).andThen fun _ => rLet m bf k (z ++ [x.toNat])
def rWord (a b : Int) (bf : Str) : Rd Str := (rOct a b).andThen fun m => (rOrd m.toNat bf.cps.toList []).andThen fun _ => (rLet m.toNat bf.cps.toList m.toNat []).andThen fun z => Rd.ret (strOf z)
def rEnd : Rd Unit := fun os n => if n < os.length then .bad n else .good () n
/-- the next steps of a reader: on, or out with the error -/
def GoR (C CE : Addr) (H : Hp) (r dx o : Addr) (os : List Int) {α : Type} (R : Rs α) (Q : α → Nat → Hp → Prop) (E : XK) : Prop := match R with
  | .good a k => ∀ H1, RdAt C H1 r dx o os k → Stp [r] H H1 → Q a k H1
  | .bad p => ∀ H1 d, Stp [r] H H1 → H1 d = some (.xd [(placeE, .int (p : Nat))]) → E (.ref CE) (some d) H1
variable {C CE : Addr} {H H1 : Hp} {r dx o : Addr} {os : List Int} {n : Nat} {E : XK}
theorem GoR.grow {α : Type} {R : Rs α} {Q : α → Nat → Hp → Prop} (h : GoR C CE H r dx o os R Q E) (s : Stp [r] H H1) : GoR C CE H1 r dx o os R Q E := by
  cases R with
  | bad p => exact fun H2 d s2 e => h H2 d (s.trans s2) e
  | good a k => exact fun H2 r2 s2 => h H2 r2 (s.trans s2)
theorem GoR.mono {α : Type} {R : Rs α} {Q Q' : α → Nat → Hp → Prop} (h : GoR C CE H r dx o os R Q E) (m : ∀ a k H1, R = .good a k → RdAt C H1 r dx o os k → Stp [r] H H1 → Q a k H1 → Q' a k H1) : GoR C CE H r dx o os R Q' E := by
  cases R with
  | bad p => exact h
  | good a k => exact fun H2 r2 s2 => m a k H2 rfl r2 s2 (h H2 r2 s2)
/-- one step of more to come -/
theorem GoR.step {α β : Type} {m : Rd α} {f : α → Rd β} {Q' : β → Nat → Hp → Prop} {Q : α → Nat → Hp → Prop} (h : GoR C CE H r dx o os (m.andThen f os n) Q' E)
    (q : ∀ a k H1, m os n = .good a k → RdAt C H1 r dx o os k → Stp [r] H H1 → GoR C CE H1 r dx o os (f a os k) Q' E → Q a k H1) : GoR C CE H r dx o os (m os n) Q E := by
  unfold Rd.andThen at h
  generalize hR : m os n = R at h q
  cases R with
  | bad p => exact h
  | good a k => exact fun H2 r2 s2 => q a k H2 rfl r2 s2 (h.grow s2)
theorem GoR.done {α : Type} {a : α} {k : Nat} {Q : α → Nat → Hp → Prop} (h : GoR C CE H r dx o os (.good a k) Q E) (hr : RdAt C H r dx o os k) : Q a k H := h H hr (.refl _)
/-- out, with an error that is made now -/
theorem GoR.out {α : Type} {p : Nat} {Q : α → Nat → Hp → Prop} (h : GoR C CE H r dx o os (.bad p) Q E) : ∀ d, H d = none → E (.ref CE) (some d) (upd H d (.xd [(placeE, .int (p : Nat))])) :=
  fun d hd => h _ d (.new hd) upd_same
end
section
variable {P : Program} {w : World} {K : PySem.W.Frag} {mg : Str → Option Value} {base : Heap} {C CE : Addr}
abbrev ECode (P : Program) (w : World) (K : PySem.W.Frag) (mg : Str → Option Value) (base : Heap) (CE : Addr) : Prop := Err P w K mg base lv_CodeError_init CE "CodeError" "place" SmallI "place"
def spOctetX (C CE : Addr) : Sp := fun vs H Q E => ∃ (r dx o : Addr) (os : List Int) (n : Nat) (a b : Int), vs = [.ref r, .int a, .int b] ∧ RdAt C H r dx o os n ∧ n ≤ 10 ^ 9 ∧ GoR C CE H r dx o os (rOct a b os n) (fun x _ H1 => Q (.int x) H1) E
theorem mth_Reader_next_octet (F : Dfm K C d_Reader_next_octet) (B : Blt mg) (R : RdC K C) (E_CodeError : ECode P w K mg base CE) : MthX P w K mg base lv_Reader_next_octet C "next_octet" ["self", "least", "greatest"] (spOctetX C CE) := by
  have CL_Reader := R.cls
  obtain ⟨f, fd, F, g⟩ := F
  refine ⟨f, fd, F.ok sc_Reader_next_octet (fun vs H Q E h => ?_) (fun cdv A outer s H vs Q E hr h => ⟨_,
    (pss_cons (ps_if (pt_cmpR op_ge (pe_fld (pv 0) rfl) (pe_callB call_len_seq (by rfl) B.len boot_len (pa_cons (pe_fld (pv 0) rfl) pa_nil)) (nomark _))
      (pss_one (ps_raise rfl (takes_of rfl rfl rfl rfl) (pmk_err E_CodeError (hr.mono (by decide)) (by rfl) (pa_cons (pe_fld (pv 0) rfl) pa_nil))))
      pss_nil)
    (pss_cons (ps_set (i := 3) sc_Reader_next_octet.nd rfl (Or.inl rfl) (pe_ix (ix_listK (K := K) rfl) (pe_fld (pv 0) rfl) (pe_fld (pv 0) rfl) (fun _ _ => rfl)))
    (pss_cons (ps_if (PW.pt (pw_or (pt_cmpR op_lt (pv 3) (pv 1) (nomark _)) (pw_or1 (pt_cmpR op_gt (pv 3) (pv 2) (nomark _)))))
      (pss_one (ps_raise rfl (takes_of rfl rfl rfl rfl) (pmk_err E_CodeError (hr.mono (by decide)) (by rfl) (pa_cons (pe_fld (pv 0) rfl) pa_nil))))
      pss_nil)
    (pss_cons (ps_fldaug (pv 0) pe_int in_add)
    (pss_one (ps_ret (pv 3))))))), ?_⟩), g, F.kp, F.bindsN fun _ _ _ _ _ _ us hl => match us, hl with | [_, _, _], _ => rfl⟩
  · obtain ⟨r, dx, o, os, n, a, b, rfl, _⟩ := h
    rfl
  · obtain ⟨r, dx, o, os, n, a, b, rfl, hR, hn9, h⟩ := h
    have or : o ≠ r := hR.ne
    obtain ⟨hr, ho⟩ := hR
    repeat walk_at "h"
    refine ⟨r, C, dx, _, _, rfl, hr, R.cls, R.pl, rfl, ?_⟩
    repeat walk_at "h"
    refine ⟨r, C, dx, _, _, rfl, hr, R.cls, R.oc, rfl, ?_⟩
    repeat walk_at "h"
    refine ⟨o, _, rfl, .inl (SqL.of ho), ?_⟩
    rw [List.length_map]
    unfold rOct at h
    refine i_I0 ⟨_, rfl, i_iteD (fun c => ?_) (fun c => ?_)⟩
    · rw [List.getElem?_eq_none (show os.length ≤ n by omega)] at h
      repeat walk_at "h"
      refine i_MkE ?_
      repeat walk_at "h"
      refine ⟨r, C, dx, _, _, rfl, hr, R.cls, R.pl, rfl, ?_⟩
      repeat walk_at "h"
      exact ⟨_, rfl, ⟨_, rfl, by omega⟩, h.out⟩
    · obtain ⟨x, hx⟩ : ∃ x, os[n]? = some x := ⟨_, List.getElem?_eq_getElem (show n < os.length by omega)⟩
      rw [hx] at h
      repeat walk_at "h"
      refine ⟨r, C, dx, _, _, rfl, hr, R.cls, R.oc, rfl, ?_⟩
      repeat walk_at "h"
      refine ⟨r, C, dx, _, _, rfl, hr, R.cls, R.pl, rfl, ?_⟩
      refine i_IxL (SqL.of ho) (at_of (j := n) rfl (by rw [List.getElem?_map, hx]; rfl)) ?_
      repeat walk_at "h"
      by_cases cb : x < a ∨ b < x
      · rw [show (decide (x < a) || decide (b < x)) = true by simpa using cb]
        have h : GoR C CE H r dx o os (if x < a ∨ b < x then Rs.bad n else Rs.good x (n + 1)) (fun x _ H1 => Q (.int x) H1) E := h
        rw [if_pos cb] at h
        refine iteT ?_
        repeat walk_at "h"
        refine i_MkE ?_
        repeat walk_at "h"
        refine ⟨r, C, dx, _, _, rfl, hr, R.cls, R.pl, rfl, ?_⟩
        repeat walk_at "h"
        exact ⟨_, rfl, ⟨_, rfl, by omega⟩, h.out⟩
      · rw [show (decide (x < a) || decide (b < x)) = false by simpa using cb]
        have h : GoR C CE H r dx o os (if x < a ∨ b < x then Rs.bad n else Rs.good x (n + 1)) (fun x _ H1 => Q (.int x) H1) E := h
        rw [if_neg cb] at h
        refine iteF ?_
        repeat walk_at "h"
        refine ⟨_, rfl, r, C, dx, _, _, rfl, hr, R.cls, R.pl, rfl, ?_⟩
        repeat walk_at "h"
        refine ⟨_, _, rfl, rfl, dx, _, hr, (show 2 < 1000 by decide), ?_⟩
        have s1 : Stp [r] H (upd H r (.ins C dx (putF "place" (.int ((n : Nat) + 1)) [(octetsS, .ref o), (placeS, .int (n : Nat))]))) := .wr (by simp) hr fun _ z => nomatch z
        repeat walk_at "h"
        exact h _ ⟨upd_same, s1.keep _ _ ho (by simpa using or)⟩ s1
def spRNumX (C CE : Addr) : Sp := fun vs H Q E => ∃ (r dx o : Addr) (os : List Int) (n k : Nat) (a b : Int), vs = [.ref r, .int k, .int a, .int b] ∧ RdAt C H r dx o os n ∧ os.length ≤ 10 ^ 8 ∧ n ≤ os.length ∧ k ≤ 8 ∧ GoR C CE H r dx o os (rNum a b k 0 os n) (fun x _ H1 => Q (.int x) H1) E
theorem rOct_le {a b x : Int} {os : List Int} {n k : Nat} (h : rOct a b os n = .good x k) : k = n + 1 ∧ k ≤ os.length ∧ os[n]? = some x ∧ a ≤ x ∧ x ≤ b := by
  unfold rOct at h
  cases e : os[n]? with
  | none => rw [e] at h; cases h
  | some y =>
    rw [e] at h
    have h : (if y < a ∨ b < y then Rs.bad n else Rs.good y (n + 1)) = Rs.good x k := h
    have l := (List.getElem?_eq_some_iff.mp e).1
    split at h
    · cases h
    · cases h
      exact ⟨rfl, l, rfl, by omega, by omega⟩
theorem mth_Reader_next_number (F : Dfm K C d_Reader_next_number) (B : Blt mg) (CL_Reader : Cls K C) (M_Reader_next_octet : MthX P w K mg base lv_Reader_next_octet C "next_octet" ["self", "least", "greatest"] (spOctetX C CE)) : MthX P w K mg base lv_Reader_next_number C "next_number" ["self", "many", "least", "greatest"] (spRNumX C CE) := by
  obtain ⟨f, fd, F, g⟩ := F
  refine ⟨f, fd, F.ok sc_Reader_next_number (fun vs H Q E h => ?_) (fun cdv A outer s H vs Q E hr h => ⟨_,
    (pss_cons (ps_set (i := 4) sc_Reader_next_number.nd rfl (Or.inl rfl) pe_int)
    (pss_cons (ps_for (passes_of rfl) rfl (pi_range1 rfl B.range (pa_cons (pv 1) pa_nil)) (pg_name (i := 5) sc_Reader_next_number.nd rfl (Or.inl rfl))
      (pss_cons (ps_set (i := 6) sc_Reader_next_number.nd rfl (Or.inl rfl) (pe_op op_mul pe_int (pe_op op_sub (pe_op op_sub (pv 1) pe_int) (pv 5))))
        (pss_cons (ps_set (i := 7) sc_Reader_next_number.nd rfl (Or.inl rfl) (pe_op op_sub (pe_op op_shr (pv 2) (pv 6)) (pe_op op_mul pe_int (pv 4))))
        (pss_cons (ps_set (i := 8) sc_Reader_next_number.nd rfl (Or.inl rfl) (pe_op op_sub (pe_op op_shr (pv 3) (pv 6)) (pe_op op_mul pe_int (pv 4))))
        (pss_one (ps_set (i := 4) sc_Reader_next_number.nd rfl (Or.inl rfl) (pe_op op_add (pe_op op_mul pe_int (pv 4)) (pc_methT (pv 0) CL_Reader M_Reader_next_octet (takes_of rfl rfl rfl rfl) (hr.mono (by decide)) (pa_cons (pe_callB (call_max2 rfl) (by rfl) B.max (by decide +kernel) (pa_cons (pv 7) (pa_cons pe_int pa_nil))) (pa_cons (pe_callB (call_min2 rfl) (by rfl) B.min (by decide +kernel) (pa_cons (pv 8) (pa_cons pe_int pa_nil))) pa_nil))))))))))
    (pss_one (ps_ret (pv 4))))), ?_⟩), g, F.kp, F.bindsN fun _ _ _ _ _ _ us hl => match us, hl with | [_, _, _, _], _ => rfl⟩
  · obtain ⟨r, dx, o, os, n, k, a, b, rfl, _⟩ := h
    rfl
  · obtain ⟨r, dx, o, os, n, k, a, b, rfl, hr, hos, hn, k8, h⟩ := h
    repeat walk_at "h"
    refine ⟨k, rfl, by omega, by omega, ?_⟩
    refine for_range (lo := 0) (n := (k : Int).toNat) (fun i σ H' => ∃ (y5 y6 y7 y8 : Option V) (v : Int) (j : Nat), σ = [some (.ref r), some (.int k), some (.int a), some (.int b), some (.int v), y5, y6, y7, y8] ∧ RdAt C H' r dx o os j ∧ j ≤ os.length ∧ GoR C CE H' r dx o os (rNum a b (k - i) v os j) (fun x _ H1 => Q (.int x) H1) E)
      ⟨_, _, _, _, 0, n, rfl, hr, hn, h⟩ ?_ ?_
    · rintro i σ H2 hi ⟨y5, y6, y7, y8, v, j, rfl, r2, hj, h2⟩
      rw [Int.toNat_natCast] at hi
      obtain ⟨m, hm⟩ : ∃ m : Nat, k = i + (m + 1) := ⟨k - i - 1, by omega⟩
      have e1 : k - i = m + 1 := by omega
      have e2 : k - (i + 1) = m := by omega
      rw [e1] at h2
      rw [e2]
      repeat walk_at "h"
      have eb : (8 * ((k : Int) - 1 - (0 + (i : Int)))).toNat = 8 * m := by omega
      refine i_I (show (0 : Int) ≤ 8 * ((k : Int) - 1 - (0 + (i : Int))) by omega) ?_
      rw [eb, pow_2_256]
      repeat walk_at "h"
      refine i_I (show (0 : Int) ≤ 8 * ((k : Int) - 1 - (0 + (i : Int))) by omega) ?_
      rw [eb, pow_2_256]
      repeat walk_at "h"
      refine i_MethT ?_
      repeat walk_at "h"
      refine ⟨r, dx, _, rfl, r2.at_, rfl, ?_⟩
      repeat walk_at "h"
      refine ⟨_, _, rfl, ?_⟩
      repeat walk_at "h"
      refine ⟨_, _, rfl, ?_⟩
      repeat walk_at "h"
      have h2 : GoR C CE H2 r dx o os ((rOct (max (a / 256 ^ m - 256 * v) 0) (min (b / 256 ^ m - 256 * v) 255)).andThen (fun x => rNum a b m (256 * v + x)) os j) (fun x _ H1 => Q (.int x) H1) E := h2
      refine ⟨r, dx, o, os, j, _, _, rfl, r2, by omega, ?_⟩
      rw [show ∀ X : Int, (if 0 > X then 0 else X) = max X 0 from fun X => by split <;> omega, show ∀ X : Int, (if 255 < X then 255 else X) = min X 255 from fun X => by split <;> omega]
      refine h2.step fun x k3 H3 e3 r3 s3 h3 => ?_
      repeat walk_at "h"
      exact ⟨_, _, _, _, _, _, rfl, r3, (rOct_le e3).2.1, h3⟩
    · rintro σ H2 ⟨y5, y6, y7, y8, v, j, rfl, r2, hj, h2⟩
      rw [Int.toNat_natCast, Nat.sub_self] at h2
      repeat walk_at "h"
      exact h2.done r2
end

section
variable {P : Program} {w : World} {K : PySem.W.Frag} {mg : Str → Option Value} {base : Heap} {C CE : Addr}
theorem str_app_cps (a b : Str) : (a ++ b).cps.toList = a.cps.toList ++ b.cps.toList := by
  show (a.cps ++ b.cps).toList = _
  simp
theorem strOf_self (z : Str) : strOf z.cps.toList = z := by
  obtain ⟨c⟩ := z
  simp [strOf]
theorem mul_z {n : Int} (h0 : 0 ≤ n) (h1 : n ≤ 100) : (Txt.mul (Str.ofString "z") n).cps.toList = List.replicate n.toNat 122 := by
  have all : ∀ n : Fin 101, (Txt.mul (Str.ofString "z") (n.val : Int)).cps.toList = List.replicate n.val 122 := by decide +kernel
  obtain ⟨k, rfl⟩ : ∃ k : Nat, n = (k : Int) := ⟨n.toNat, by omega⟩
  rw [Int.toNat_natCast]
  exact all ⟨k, by omega⟩
def spOrderX (C CE : Addr) : Sp := fun vs H Q E => ∃ (r dx o : Addr) (os : List Int) (n : Nat) (z bf : Str) (m : Nat), vs = [.ref r, .str z, .int m, .str bf] ∧ RdAt C H r dx o os n ∧ 1 ≤ n ∧ n ≤ 10 ^ 9 ∧ z.length ≤ m ∧ m ≤ 100 ∧ bf.length ≤ 100 ∧ GoR C CE H r dx o os (rOrd m bf.cps.toList z.cps.toList os n) (fun _ _ H1 => Q .non H1) E
theorem mth_Reader_check_order (F : Dfm K C d_Reader_check_order) (B : Blt mg) (R : RdC K C) (E_CodeError : ECode P w K mg base CE) : MthX P w K mg base lv_Reader_check_order C "_check_order" ["self", "begun", "many", "before"] (spOrderX C CE) := by
  obtain ⟨f, fd, F, g⟩ := F
  refine ⟨f, fd, F.ok sc_Reader_check_order (fun vs H Q E h => ?_) (fun cdv A outer s H vs Q E hr h => ⟨_,
    (pss_cons (ps_set (i := 4) sc_Reader_check_order.nd rfl (Or.inl rfl) (pe_op op_add_str (pv 1) (pe_op op_mul_str pe_str (pe_op op_sub (pv 2) (pe_callB call_len_str (by rfl) B.len boot_len (pa_cons (pv 1) pa_nil))))))
    (pss_one (ps_if (PW.pt (pw_and (pt_cmpR op_gt (pv 2) pe_int (nomark _)) (pw_and1 (pt_cmpR op_le_str (pv 4) (pv 3) (nomark _)))))
      (pss_one (ps_raise rfl (takes_of rfl rfl rfl rfl) (pmk_err E_CodeError (hr.mono (by decide)) (by rfl) (pa_cons (pe_op op_sub (pe_fld (pv 0) rfl) pe_int) pa_nil))))
      pss_nil))), ?_⟩), g, F.kp, F.bindsN fun _ _ _ _ _ _ us hl => match us, hl with | [_, _, _, _], _ => rfl⟩
  · obtain ⟨r, dx, o, os, n, z, bf, m, rfl, _⟩ := h
    rfl
  · obtain ⟨r, dx, o, os, n, z, bf, m, rfl, hR, hn1, hn9, hz, hm, hbf, h⟩ := h
    have hsz := sizeLine_eq
    have hr := hR.at_
    repeat walk_at "h"
    refine ⟨z, rfl, by omega, ?_⟩
    repeat walk_at "h"
    refine ⟨_, _, rfl, rfl, rfl, by omega, by omega, ?_⟩
    have mz := mul_z (n := (m : Int) - (z.length : Nat)) (by omega) (by omega)
    have ml : (Txt.mul (Str.ofString "z") ((m : Int) - (z.length : Nat))).length ≤ 1000 := by
      have e : (Txt.mul (Str.ofString "z") ((m : Int) - (z.length : Nat))).cps.toList.length = (Txt.mul (Str.ofString "z") ((m : Int) - (z.length : Nat))).length := rfl
      rw [← e, mz, List.length_replicate]; omega
    refine ⟨_, _, rfl, rfl, by omega, ?_⟩
    repeat walk_at "h"
    have zl : z.cps.toList.length = z.length := rfl
    have el : (z ++ Txt.mul (Str.ofString "z") ((m : Int) - (z.length : Nat))).cps.toList = z.cps.toList ++ List.replicate (m - z.cps.toList.length) 122 := by
      rw [str_app_cps, mz, show ((m : Int) - (z.length : Nat)).toNat = m - z.length by omega]; rfl
    unfold rOrd at h
    rw [← el] at h
    have fin : (0 < m → bf.cps.toList < (z ++ Txt.mul (Str.ofString "z") ((m : Int) - (z.length : Nat))).cps.toList) → Q .non H := fun q => by
      rw [if_neg (fun z => z.2 (q z.1))] at h
      exact h.done hR
    refine i_iteD (fun h0 => ?_) (fun h0 => ?_)
    · repeat walk_at "h"
      refine ⟨_, _, rfl, rfl, ?_⟩
      by_cases lt : bf.cps.toList < (z ++ Txt.mul (Str.ofString "z") ((m : Int) - (z.length : Nat))).cps.toList
      · rw [decide_eq_true lt]
        refine ⟨_, rfl, iteF ?_⟩
        repeat walk_at "h"
        exact fin fun _ => lt
      · rw [decide_eq_false lt]
        rw [if_pos ⟨by omega, lt⟩] at h
        refine ⟨_, rfl, iteT ?_⟩
        repeat walk_at "h"
        refine i_MkE ?_
        repeat walk_at "h"
        refine ⟨r, C, dx, _, _, rfl, hr, R.cls, R.pl, rfl, ?_⟩
        repeat walk_at "h"
        refine ⟨_, rfl, ⟨_, rfl, by omega⟩, ?_⟩
        have := h.out
        rwa [show ((n - 1 : Nat) : Int) = (n : Int) - 1 by omega] at this
    · refine iteF ?_
      repeat walk_at "h"
      exact fin fun z => absurd z (by omega)
theorem az_letter {c : Nat} (h : 97 ≤ c ∧ c ≤ 122) : (Str.ofString "abcdefghijklmnopqrstuvwxyz").cps.toList[c - 97]? = some c := by
  have all : ∀ k : Fin 26, (Str.ofString "abcdefghijklmnopqrstuvwxyz").cps.toList[k.val]? = some (97 + k.val) := by decide +kernel
  have h2 := all ⟨c - 97, by omega⟩
  rw [h2]
  congr 1
  show 97 + (c - 97) = c
  omega
theorem strOf_cps (l : List Nat) : (strOf l).cps.toList = l := by simp [strOf]
def spRWordX (C CE : Addr) : Sp := fun vs H Q E => ∃ (r dx o : Addr) (os : List Int) (n : Nat) (a b : Int) (bf : Str), vs = [.ref r, .int a, .int b, .str bf] ∧ RdAt C H r dx o os n ∧ os.length ≤ 10 ^ 8 ∧ n ≤ os.length ∧ 0 ≤ a ∧ b ≤ 100 ∧ bf.length ≤ 100 ∧ GoR C CE H r dx o os (rWord a b bf os n) (fun z _ H1 => Q (.str z) H1) E
theorem mth_Reader_next_word (F : Dfm K C d_Reader_next_word) (B : Blt mg) (N : ConW mg) (CL_Reader : Cls K C) (M_Reader_next_octet : MthX P w K mg base lv_Reader_next_octet C "next_octet" ["self", "least", "greatest"] (spOctetX C CE)) (M_Reader_check_order : MthX P w K mg base lv_Reader_check_order C "_check_order" ["self", "begun", "many", "before"] (spOrderX C CE)) : MthX P w K mg base lv_Reader_next_word C "next_word" ["self", "least", "greatest", "before"] (spRWordX C CE) := by
  obtain ⟨f, fd, F, g⟩ := F
  refine ⟨f, fd, F.ok sc_Reader_next_word (fun vs H Q E h => ?_) (fun cdv A outer s H vs Q E hr h => ⟨_,
    (pss_cons (ps_set (i := 4) sc_Reader_next_word.nd rfl (Or.inl rfl) (pc_methT (pv 0) CL_Reader M_Reader_next_octet (takes_of rfl rfl rfl rfl) (hr.mono (by decide)) (pa_cons (pv 1) (pa_cons (pv 2) pa_nil))))
    (pss_cons (ps_set (i := 5) sc_Reader_next_word.nd rfl (Or.inl rfl) pe_str)
    (pss_cons (ps_expr (pc_methT (pv 0) CL_Reader M_Reader_check_order (takes_of rfl rfl rfl rfl) (hr.mono (by decide)) (pa_cons (pv 5) (pa_cons (pv 4) (pa_cons (pv 3) pa_nil)))))
    (pss_cons (ps_while (passes_of rfl) (pt_cmpR op_lt (pe_callB call_len_str (by rfl) B.len boot_len (pa_cons (pv 5) pa_nil)) (pv 4) (nomark _))
      (pss_cons (ps_set (i := 5) sc_Reader_next_word.nd rfl (Or.inl rfl) (pe_op op_add_str (pv 5) (pe_ix ix_str (pe_gs rfl N.LETTERS) (pe_op op_sub (pc_methT (pv 0) CL_Reader M_Reader_next_octet (takes_of rfl rfl rfl rfl) (hr.mono (by decide)) (pa_cons (pe_gi rfl N.FIRST_CODE) (pa_cons (pe_gi rfl N.LAST_CODE) pa_nil))) (pe_gi rfl N.FIRST_CODE)) (fun _ _ => rfl))))
        (pss_one (ps_expr (pc_methT (pv 0) CL_Reader M_Reader_check_order (takes_of rfl rfl rfl rfl) (hr.mono (by decide)) (pa_cons (pv 5) (pa_cons (pv 4) (pa_cons (pv 3) pa_nil))))))))
    (pss_one (ps_ret (pv 5))))))), ?_⟩), g, F.kp, F.bindsN fun _ _ _ _ _ _ us hl => match us, hl with | [_, _, _, _], _ => rfl⟩
  · obtain ⟨r, dx, o, os, n, a, b, bf, rfl, _⟩ := h
    rfl
  · obtain ⟨r, dx, o, os, n, a, b, bf, rfl, hr, hos, hn, ha, hb, hbf, h⟩ := h
    have hsz := sizeLine_eq
    repeat walk_at "h"
    refine i_MethT ?_
    repeat walk_at "h"
    refine ⟨r, dx, _, rfl, hr.at_, rfl, ?_⟩
    repeat walk_at "h"
    refine ⟨r, dx, o, os, n, a, b, rfl, hr, by omega, h.step fun m k1 H1 e1 r1 s1 h1 => ?_⟩
    obtain ⟨rfl, hk1, _, am, bm⟩ := rOct_le e1
    obtain ⟨M, rfl⟩ : ∃ M : Nat, m = (M : Int) := ⟨m.toNat, by omega⟩
    rw [Int.toNat_natCast] at h1
    repeat walk_at "h"
    refine i_MethT ?_
    repeat walk_at "h"
    refine ⟨r, dx, _, rfl, r1.at_, rfl, ?_⟩
    repeat walk_at "h"
    refine ⟨r, dx, o, os, n + 1, Str.ofString "", bf, M, rfl, r1, by omega, by omega, Nat.zero_le _, by omega, hbf, h1.step fun _ k2 H2 e2 r2 s2 h2 => ?_⟩
    have k21 : k2 = n + 1 := by
      unfold rOrd at e2
      split at e2
      · cases e2
      · cases e2; rfl
    subst k21
    repeat walk_at "h"
    refine ⟨fun k σ H' => ∃ (l : List Nat) (j : Nat), k = M - l.length ∧ l.length ≤ M ∧ σ = [some (.ref r), some (.int a), some (.int b), some (.str bf), some (.int M), some (.str (strOf l))] ∧ RdAt C H' r dx o os j ∧ 1 ≤ j ∧ j ≤ os.length ∧ GoR C CE H' r dx o os (((rLet M bf.cps.toList (M - l.length) l).andThen fun z => Rd.ret (strOf z)) os j) (fun z _ H1 => Q (.str z) H1) E, ⟨M, [], n + 1, rfl, Nat.zero_le _, rfl, r2, by omega, hk1, h2⟩, ?_⟩
    rintro k σ H3 ⟨l, j, rfl, hl, rfl, r3, hj1, hj, h3⟩
    have li : (strOf l).length = l.length := strOf_len l
    repeat walk_at "h"
    refine ⟨_, rfl, by omega, ?_⟩
    rw [li]
    repeat walk_at "h"
    refine i_iteD (fun c1 => ?_) (fun c1 => ?_)
    · obtain ⟨q, hq⟩ : ∃ q, M - l.length = q + 1 := ⟨M - l.length - 1, by omega⟩
      rw [hq] at h3
      have h3 : GoR C CE H3 r dx o os ((rOct 97 122).andThen (fun x => (rOrd M bf.cps.toList (l ++ [x.toNat])).andThen fun _ => (rLet M bf.cps.toList q (l ++ [x.toNat])).andThen fun z => Rd.ret (strOf z)) os j) (fun z _ H1 => Q (.str z) H1) E := by
        have e : (((rOct 97 122).andThen fun x => (rOrd M bf.cps.toList (l ++ [x.toNat])).andThen fun _ => rLet M bf.cps.toList q (l ++ [x.toNat])).andThen fun z => Rd.ret (strOf z)) os j = (rOct 97 122).andThen (fun x => (rOrd M bf.cps.toList (l ++ [x.toNat])).andThen fun _ => (rLet M bf.cps.toList q (l ++ [x.toNat])).andThen fun z => Rd.ret (strOf z)) os j := by
          unfold Rd.andThen
          cases rOct 97 122 os j with
          | bad p => rfl
          | good x k =>
            dsimp only
            cases rOrd M bf.cps.toList (l ++ [x.toNat]) os k <;> rfl
        rw [← e]; exact h3
      refine ⟨fun σ' H' => ∃ (x : Nat) (j' : Nat), σ' = [some (.ref r), some (.int a), some (.int b), some (.str bf), some (.int M), some (.str (strOf (l ++ [x])))] ∧ RdAt C H' r dx o os j' ∧ 1 ≤ j' ∧ j' ≤ os.length ∧ GoR C CE H' r dx o os (((rLet M bf.cps.toList q (l ++ [x])).andThen fun z => Rd.ret (strOf z)) os j') (fun z _ H1 => Q (.str z) H1) E, ?_, ?_⟩
      · rintro σ' H' ⟨x, j', e1, e2, e3, e4, e5⟩
        refine ⟨M - (l.length + 1), by omega, l ++ [x], j', by rw [List.length_append]; rfl, by rw [List.length_append, List.length_singleton]; omega, e1, e2, e3, e4, ?_⟩
        rw [List.length_append, List.length_singleton, show M - (l.length + 1) = q by omega]
        exact e5
      · repeat walk_at "h"
        refine i_MethT ?_
        repeat walk_at "h"
        refine ⟨r, dx, _, rfl, r3.at_, rfl, ?_⟩
        repeat walk_at "h"
        refine ⟨r, dx, o, os, j, 97, 122, rfl, r3, by omega, h3.step fun x k4 H4 e4 r4 s4 h4 => ?_⟩
        obtain ⟨rfl, hk4, _, x1, x2⟩ := rOct_le e4
        obtain ⟨c, rfl⟩ : ∃ c : Nat, x = (c : Int) := ⟨x.toNat, by omega⟩
        rw [Int.toNat_natCast] at h4
        repeat walk_at "h"
        have ia : atI (Str.ofString "abcdefghijklmnopqrstuvwxyz").cps.toList (((c : Nat) : Int) - 97) = some c := by
          rw [show ((c : Nat) : Int) - 97 = ((c - 97 : Nat) : Int) by omega]
          exact atI_nat (az_letter ⟨by omega, by omega⟩)
        refine i_IxS (by decide) ia ?_
        refine ⟨_, _, rfl, rfl, ?_, ?_⟩
        · rw [li]
          show l.length + 1 ≤ sizeLine
          omega
        · rw [strOf_snoc]
          repeat walk_at "h"
          refine i_MethT ?_
          repeat walk_at "h"
          refine ⟨r, dx, _, rfl, r4.at_, rfl, ?_⟩
          repeat walk_at "h"
          refine ⟨r, dx, o, os, j + 1, strOf (l ++ [c]), bf, M, rfl, r4, by omega, by omega, by rw [strOf_len, List.length_append, List.length_singleton]; omega, by omega, hbf, ?_⟩
          rw [strOf_cps]
          refine h4.step fun _ k5 H5 e5 r5 s5 h5 => ?_
          have k51 : k5 = j + 1 := by
            unfold rOrd at e5
            split at e5
            · cases e5
            · cases e5; rfl
          subst k51
          repeat walk_at "h"
          exact ⟨c, j + 1, rfl, r5, by omega, hk4, h5⟩
    · have ei : l.length = M := by omega
      rw [ei, Nat.sub_self] at h3
      repeat walk_at "h"
      exact GoR.done (a := strOf l) (k := j) h3 r3
def rPlain (kind : Int) : Rd Va := if kind = 2 then (rWord 0 20 (Str.ofString "")).andThen fun z => Rd.ret (.txt z) else (rNum 0 2000000 3 0).andThen fun i => Rd.ret (.num (-1000000 + i))
def vaV : Va → V
  | .num i => .int i
  | .txt z => .str z
  | _ => .non
def spRPlainX (C CE : Addr) : Sp := fun vs H Q E => ∃ (r dx o : Addr) (os : List Int) (n : Nat) (kind : Int), vs = [.ref r, .int kind] ∧ RdAt C H r dx o os n ∧ os.length ≤ 10 ^ 8 ∧ n ≤ os.length ∧ GoR C CE H r dx o os (rPlain kind os n) (fun x _ H1 => Q (vaV x) H1) E
theorem mth_Reader_next_plain (F : Dfm K C d_Reader_next_plain) (N : ConW mg) (CL_Reader : Cls K C) (M_Reader_next_number : MthX P w K mg base lv_Reader_next_number C "next_number" ["self", "many", "least", "greatest"] (spRNumX C CE)) (M_Reader_next_word : MthX P w K mg base lv_Reader_next_word C "next_word" ["self", "least", "greatest", "before"] (spRWordX C CE)) : MthX P w K mg base lv_Reader_next_plain C "next_plain" ["self", "kind"] (spRPlainX C CE) := by
  obtain ⟨f, fd, F, g⟩ := F
  refine ⟨f, fd, F.ok sc_Reader_next_plain (fun vs H Q E h => ?_) (fun cdv A outer s H vs Q E hr h => ⟨_,
    (pss_cons (ps_if (pt_cmpR op_eq (pv 1) (pe_gi rfl N.TEXT) (nomark _))
      (pss_one (ps_ret (pc_methT (pv 0) CL_Reader M_Reader_next_word (takes_of rfl rfl rfl rfl) (hr.mono (by decide)) (pa_cons pe_int (pa_cons (pe_gi rfl N.LONGEST_TEXT) (pa_cons pe_str pa_nil))))))
      pss_nil)
    (pss_one (ps_ret (pe_op op_add (pe_gi rfl N.LEAST_INTEGER) (pc_methT (pv 0) CL_Reader M_Reader_next_number (takes_of rfl rfl rfl rfl) (hr.mono (by decide)) (pa_cons pe_int (pa_cons pe_int (pa_cons (pe_op op_sub (pe_gi rfl N.GREATEST_INTEGER) (pe_gi rfl N.LEAST_INTEGER)) pa_nil)))))))), ?_⟩), g, F.kp, F.bindsN fun _ _ _ _ _ _ us hl => match us, hl with | [_, _], _ => rfl⟩
  · obtain ⟨r, dx, o, os, n, kind, rfl, _⟩ := h
    rfl
  · obtain ⟨r, dx, o, os, n, kind, rfl, hr, hos, hn, h⟩ := h
    unfold rPlain at h
    repeat walk_at "h"
    by_cases c : kind = 2
    · subst c
      rw [if_pos rfl] at h
      rw [decide_eq_true rfl]
      refine iteT ?_
      repeat walk_at "h"
      refine i_MethT ?_
      repeat walk_at "h"
      refine ⟨r, dx, _, rfl, hr.at_, rfl, ?_⟩
      repeat walk_at "h"
      exact ⟨r, dx, o, os, n, 0, 20, Str.ofString "", rfl, hr, hos, hn, by decide, by decide, by decide, h.step fun z k H1 _ r1 _ h1 => h1.done r1⟩
    · rw [if_neg c] at h
      rw [decide_eq_false (by intro z; exact c (by injection z))]
      refine iteF ?_
      repeat walk_at "h"
      refine i_MethT ?_
      repeat walk_at "h"
      refine ⟨r, dx, _, rfl, hr.at_, rfl, ?_⟩
      repeat walk_at "h"
      refine ⟨r, dx, o, os, n, 3, 0, 2000000, rfl, hr, hos, hn, by decide, h.step fun i k H1 _ r1 _ h1 => ?_⟩
      exact i_I0 (h1.done r1)
def spFinishX (C CE : Addr) : Sp := fun vs H Q E => ∃ (r dx o : Addr) (os : List Int) (n : Nat), vs = [.ref r] ∧ RdAt C H r dx o os n ∧ n ≤ 10 ^ 9 ∧ GoR C CE H r dx o os (rEnd os n) (fun _ _ H1 => Q .non H1) E
theorem mth_Reader_finish (F : Dfm K C d_Reader_finish) (B : Blt mg) (R : RdC K C) (E_CodeError : ECode P w K mg base CE) : MthX P w K mg base lv_Reader_finish C "finish" ["self"] (spFinishX C CE) := by
  obtain ⟨f, fd, F, g⟩ := F
  refine ⟨f, fd, F.ok sc_Reader_finish (fun vs H Q E h => ?_) (fun cdv A outer s H vs Q E hr h => ⟨_,
    (pss_one (ps_if (pt_cmpR op_lt (pe_fld (pv 0) rfl) (pe_callB call_len_seq (by rfl) B.len boot_len (pa_cons (pe_fld (pv 0) rfl) pa_nil)) (nomark _))
      (pss_one (ps_raise rfl (takes_of rfl rfl rfl rfl) (pmk_err E_CodeError (hr.mono (by decide)) (by rfl) (pa_cons (pe_fld (pv 0) rfl) pa_nil))))
      pss_nil)), ?_⟩), g, F.kp, F.bindsN fun _ _ _ _ _ _ us hl => match us, hl with | [_], _ => rfl⟩
  · obtain ⟨r, dx, o, os, n, rfl, _⟩ := h
    rfl
  · obtain ⟨r, dx, o, os, n, rfl, hR, hn9, h⟩ := h
    obtain ⟨hr, ho⟩ := id hR
    unfold rEnd at h
    repeat walk_at "h"
    refine ⟨r, C, dx, _, _, rfl, hr, R.cls, R.pl, rfl, ?_⟩
    repeat walk_at "h"
    refine ⟨r, C, dx, _, _, rfl, hr, R.cls, R.oc, rfl, ?_⟩
    repeat walk_at "h"
    refine ⟨o, _, rfl, .inl (SqL.of ho), ?_⟩
    rw [List.length_map]
    refine i_I0 ⟨_, rfl, i_iteD (fun c => ?_) (fun c => ?_)⟩
    · rw [if_pos (by omega)] at h
      repeat walk_at "h"
      refine i_MkE ?_
      repeat walk_at "h"
      refine ⟨r, C, dx, _, _, rfl, hr, R.cls, R.pl, rfl, ?_⟩
      repeat walk_at "h"
      exact ⟨_, rfl, ⟨_, rfl, by omega⟩, h.out⟩
    · rw [if_neg (by omega)] at h
      repeat walk_at "h"
      exact h.done hR
end

/-! ### reading messages that may be wrong -/
section
theorem Rd.step_ok {α β : Type} {m : Rd α} {f : α → Rd β} {os : List Int} {n : Nat} {b : β} {k : Nat} (h : m.andThen f os n = .good b k) : ∃ a j, m os n = .good a j ∧ f a os j = .good b k := by
  unfold Rd.andThen at h
  cases e : m os n with
  | bad p => rw [e] at h; cases h
  | good a j => rw [e] at h; exact ⟨a, j, rfl, h⟩
/-- what is read lies within the octets, at least so many of them, and the wrong place too -/
def Rd.In {α : Type} (m : Rd α) (c : Nat) : Prop := ∀ os n, n ≤ os.length → (∀ p, m os n = .bad p → p ≤ os.length) ∧ (∀ a k, m os n = .good a k → n + c ≤ k ∧ k ≤ os.length)
theorem Rd.In.andThen {α β : Type} {m : Rd α} {f : α → Rd β} {c d : Nat} (h : m.In c) (g : ∀ a, (f a).In d) : (m.andThen f).In (c + d) := fun os n hn => by
  obtain ⟨h1, h2⟩ := h os n hn
  unfold Rd.andThen
  cases e : m os n with
  | bad p => exact ⟨fun p' z => by cases z; exact h1 p e, fun a k z => by cases z⟩
  | good a k =>
    obtain ⟨l1, l2⟩ := h2 a k e
    obtain ⟨g1, g2⟩ := g a os k l2
    exact ⟨g1, fun b k' z => by obtain ⟨q1, q2⟩ := g2 b k' z; exact ⟨by omega, q2⟩⟩
theorem Rd.In.weak {α : Type} {m : Rd α} {c d : Nat} (h : m.In c) (l : d ≤ c) : m.In d := fun os n hn => ⟨(h os n hn).1, fun a k z => by obtain ⟨q1, q2⟩ := (h os n hn).2 a k z; exact ⟨by omega, q2⟩⟩
theorem Rd.ret_in {α : Type} (a : α) : (Rd.ret a).In 0 := fun os n hn => ⟨fun p z => (nomatch z), fun b k z => by cases z; exact ⟨Nat.le_refl _, hn⟩⟩
theorem rOct_in (a b : Int) : (rOct a b).In 1 := fun os n hn => by
  refine ⟨fun p z => ?_, fun x k z => ?_⟩
  · unfold rOct at z
    cases e : os[n]? with
    | none => rw [e] at z; cases z; exact hn
    | some y =>
      rw [e] at z
      have z : (if y < a ∨ b < y then Rs.bad n else Rs.good y (n + 1)) = Rs.bad p := z
      split at z
      · cases z; exact hn
      · cases z
  · obtain ⟨rfl, h, _⟩ := rOct_le z
    exact ⟨Nat.le_refl _, h⟩
theorem rNum_in (a b : Int) : ∀ m v, (rNum a b m v).In m
  | 0, v => Rd.ret_in v
  | m + 1, v => by
    show ((rOct _ _).andThen fun x => rNum a b m (256 * v + x)).In (m + 1)
    exact ((rOct_in _ _).andThen fun x => rNum_in a b m _).weak (by omega)
theorem rOrd_in (m : Nat) (bf z : List Nat) : (rOrd m bf z).In 0 := fun os n hn => by
  unfold rOrd
  refine ⟨fun p z => ?_, fun x k z => ?_⟩
  · split at z
    · cases z; omega
    · cases z
  · split at z
    · cases z
    · cases z; exact ⟨Nat.le_refl _, hn⟩
theorem rLet_in (m : Nat) (bf : List Nat) : ∀ k z, (rLet m bf k z).In 0
  | 0, z => Rd.ret_in z
  | k + 1, z => ((rOct_in _ _).andThen (d := 0) fun x => (rOrd_in m bf _).andThen (d := 0) fun _ => rLet_in m bf k _).weak (by omega)
theorem rWord_in (a b : Int) (bf : Str) : (rWord a b bf).In 1 := (rOct_in a b).andThen (d := 0) fun m => (rOrd_in _ _ _).andThen (d := 0) fun _ => (rLet_in _ _ _ _).andThen (d := 0) fun z => Rd.ret_in _
theorem rPlain_in (k : Int) : (rPlain k).In 0 := by
  unfold rPlain
  split
  · exact ((rWord_in _ _ _).andThen (d := 0) fun z => Rd.ret_in _).weak (by omega)
  · exact ((rNum_in _ _ _ _).andThen (d := 0) fun z => Rd.ret_in _).weak (by omega)
def rName : Rd Nm := (rOct 0 7).andThen fun p => (rNum 0 4294967295 4 0).andThen fun c => Rd.ret (p, c)
def rVa : Rd Va := (rOct 0 3).andThen fun k => if k = 0 then Rd.ret .non else if k = 3 then rName.andThen fun m => Rd.ret (.tg strRef m) else rPlain k
def rCh : Rd Ch := (rNum 1 4294967295 4 0).andThen fun ck => (rOct 0 7).andThen fun pr => rName.andThen fun nm => (rWord 1 8 (Str.ofString "")).andThen fun fd => rVa.andThen fun va => Rd.ret ⟨(ck, pr), nm, fd, va⟩
def rChs : Nat → List Ch → Rd (List Ch)
  | 0, cs => Rd.ret cs
  | k + 1, cs => rCh.andThen fun c => rChs k (cs ++ [c])
def rSum : Rd Unit := fun os n => ((rOct ((os.take n).foldl sumS (0, 0)).2 ((os.take n).foldl sumS (0, 0)).2).andThen fun _ => (rOct ((os.take n).foldl sumS (0, 0)).1 ((os.take n).foldl sumS (0, 0)).1).andThen fun _ => rEnd) os n
abbrev Msg := Int × Int × List Ch
def rMsg : Rd Msg := (rOct 0 7).andThen fun sd => (rNum 0 4294967295 4 0).andThen fun nr => (rNum 0 65535 2 0).andThen fun many => (rChs many.toNat []).andThen fun cs => rSum.andThen fun _ => Rd.ret (sd, nr, cs)
theorem rName_in : rName.In 5 := (rOct_in _ _).andThen (d := 4) fun p => (rNum_in _ _ _ _).andThen (d := 0) fun c => Rd.ret_in _
theorem rVa_in : rVa.In 1 := (rOct_in _ _).andThen (d := 0) fun k => by
  by_cases c : k = 0
  · rw [if_pos c]; exact Rd.ret_in _
  · rw [if_neg c]
    by_cases c : k = 3
    · rw [if_pos c]; exact (rName_in.andThen (d := 0) fun m => Rd.ret_in _).weak (by omega)
    · rw [if_neg c]; exact rPlain_in k
theorem rCh_in : rCh.In 12 := (rNum_in _ _ _ _).andThen (d := 8) fun ck => (rOct_in _ _).andThen (d := 7) fun pr => rName_in.andThen (d := 2) fun nm => (rWord_in _ _ _).andThen (d := 1) fun fd => rVa_in.andThen (d := 0) fun va => Rd.ret_in _
theorem rChs_in : ∀ k cs, (rChs k cs).In (12 * k)
  | 0, cs => Rd.ret_in cs
  | k + 1, cs => by
    show (rCh.andThen fun c => rChs k (cs ++ [c])).In (12 * (k + 1))
    exact (rCh_in.andThen fun c => rChs_in k _).weak (by omega)
theorem rEnd_in : rEnd.In 0 := fun os n hn => by
  unfold rEnd
  refine ⟨fun p z => ?_, fun x k z => ?_⟩
  · split at z
    · cases z; omega
    · cases z
  · split at z
    · cases z
    · cases z; exact ⟨Nat.le_refl _, hn⟩
theorem rSum_in : rSum.In 2 := fun os n hn => ((rOct_in _ _).andThen (d := 1) fun _ => (rOct_in _ _).andThen (d := 0) fun _ => rEnd_in) os n hn
theorem rMsg_in : rMsg.In 9 := (rOct_in _ _).andThen (d := 8) fun sd => (rNum_in _ _ _ _).andThen (d := 4) fun nr => (rNum_in _ _ _ _).andThen (d := 2) fun many => ((rChs_in _ _).andThen (d := 2) fun cs => rSum_in.andThen (d := 0) fun _ => Rd.ret_in _).weak (by omega)
end
section
variable {P : Program} {w : World} {K : PySem.W.Frag} {mg : Str → Option Value} {base : Heap} {C CE : Addr}
def spRNameX (K : PySem.W.Frag) (C CE : Addr) : Sp := fun vs H Q E => ∃ (r dx o : Addr) (os : List Int) (n : Nat), vs = [.ref r] ∧ RdAt C H r dx o os n ∧ os.length ≤ 10 ^ 8 ∧ n ≤ os.length ∧ GoR C CE H r dx o os (rName os n) (fun m _ H1 => ∀ v, DtAt K H1 v (nmD m) → Q v H1) E
theorem cal_read_name (F : Df K mg d_read_name) (N : ConW mg) (CL_Reader : Cls K C) (M_Reader_next_octet : MthX P w K mg base lv_Reader_next_octet C "next_octet" ["self", "least", "greatest"] (spOctetX C CE)) (M_Reader_next_number : MthX P w K mg base lv_Reader_next_number C "next_number" ["self", "many", "least", "greatest"] (spRNumX C CE)) : CalX P w K mg base lv_read_name "_read_name" ["reader"] (spRNameX K C CE) := by
  obtain ⟨f, fd, F, g⟩ := F
  refine ⟨f, fd, F.ok sc_read_name (fun vs H Q E h => ?_) (fun cdv A outer s H vs Q E hr h => ⟨_,
    (pss_cons (ps_set (i := 1) sc_read_name.nd rfl (Or.inl rfl) (pc_methT (pv 0) CL_Reader M_Reader_next_octet (takes_of rfl rfl rfl rfl) (hr.mono (by decide)) (pa_cons pe_int (pa_cons (pe_gi rfl N.GREATEST_PEER) pa_nil))))
    (pss_one (ps_ret (pe_tup (pa_cons (pv 1) (pa_cons (pc_methT (pv 0) CL_Reader M_Reader_next_number (takes_of rfl rfl rfl rfl) (hr.mono (by decide)) (pa_cons pe_int (pa_cons pe_int (pa_cons (pe_gi rfl N.GREATEST_COUNT) pa_nil)))) pa_nil)))))), ?_⟩), g, F.kp, F.bindsN fun _ _ _ _ _ _ us hl => match us, hl with | [_], _ => rfl⟩
  · obtain ⟨r, dx, o, os, n, rfl, _⟩ := h
    rfl
  · obtain ⟨r, dx, o, os, n, rfl, hr, hos, hn, h⟩ := h
    repeat walk_at "h"
    refine i_MethT ?_
    repeat walk_at "h"
    refine ⟨r, dx, _, rfl, hr.at_, rfl, ?_⟩
    repeat walk_at "h"
    refine ⟨r, dx, o, os, n, 0, 7, rfl, hr, by omega, h.step fun p k1 H1 e1 r1 s1 h1 => ?_⟩
    obtain ⟨_, hk1, _⟩ := rOct_le e1
    repeat walk_at "h"
    refine i_MethT ?_
    repeat walk_at "h"
    refine ⟨r, dx, _, rfl, r1.at_, rfl, ?_⟩
    repeat walk_at "h"
    refine ⟨r, dx, o, os, k1, 4, 0, 4294967295, rfl, r1, hos, hk1, by decide, h1.step fun c k2 H2 e2 r2 s2 h2 => ?_⟩
    repeat walk_at "h"
    refine ⟨(by decide : 2 ≤ sizeLine), fun t ht => ?_⟩
    have s3 : Stp [r] H2 (upd H2 t (.tup [.int p, .int c])) := .new ht
    exact (h2.grow s3).done (r2.grow (.new ht)) _ (nm_mk upd_same)
def spRValX (K : PySem.W.Frag) (C CE : Addr) : Sp := fun vs H Q E => ∃ (r dx o : Addr) (os : List Int) (n : Nat), vs = [.ref r] ∧ RdAt C H r dx o os n ∧ os.length ≤ 10 ^ 8 ∧ n ≤ os.length ∧ GoR C CE H r dx o os (rVa os n) (fun x _ H1 => ∀ v, DtAt K H1 v (vaD x) → Q v H1) E
theorem cal_read_value (F : Df K mg d_read_value) (N : ConW mg) (CL_Reader : Cls K C) (M_Reader_next_octet : MthX P w K mg base lv_Reader_next_octet C "next_octet" ["self", "least", "greatest"] (spOctetX C CE)) (M_Reader_next_plain : MthX P w K mg base lv_Reader_next_plain C "next_plain" ["self", "kind"] (spRPlainX C CE)) (C_read_name : CalX P w K mg base lv_read_name "_read_name" ["reader"] (spRNameX K C CE)) (C_reference : Cal P w K mg base lv_reference "reference" ["name"] (spReference K)) : CalX P w K mg base lv_read_value "_read_value" ["reader"] (spRValX K C CE) := by
  obtain ⟨f, fd, F, g⟩ := F
  refine ⟨f, fd, F.ok sc_read_value (fun vs H Q E h => ?_) (fun cdv A outer s H vs Q E hr h => ⟨_,
    (pss_cons (ps_set (i := 1) sc_read_value.nd rfl (Or.inl rfl) (pc_methT (pv 0) CL_Reader M_Reader_next_octet (takes_of rfl rfl rfl rfl) (hr.mono (by decide)) (pa_cons (pe_gi rfl N.NOTHING) (pa_cons (pe_gi rfl N.OBJECT) pa_nil))))
    (pss_cons (ps_if (pt_cmpR op_eq (pv 1) (pe_gi rfl N.NOTHING) (nomark _))
      (pss_one (ps_ret pe_non))
      pss_nil)
    (pss_cons (ps_if (pt_cmpR op_eq (pv 1) (pe_gi rfl N.OBJECT) (nomark _))
      (pss_one (ps_ret (pc_call C_reference (hr.mono (by decide)) (by rfl) (pa_cons (pc_callT C_read_name (takes_of rfl rfl rfl rfl) (hr.mono (by decide)) (by rfl) (pa_cons (pv 0) pa_nil)) pa_nil))))
      pss_nil)
    (pss_one (ps_ret (pc_methT (pv 0) CL_Reader M_Reader_next_plain (takes_of rfl rfl rfl rfl) (hr.mono (by decide)) (pa_cons (pv 1) pa_nil))))))), ?_⟩), g, F.kp, F.bindsN fun _ _ _ _ _ _ us hl => match us, hl with | [_], _ => rfl⟩
  · obtain ⟨r, dx, o, os, n, rfl, _⟩ := h
    rfl
  · obtain ⟨r, dx, o, os, n, rfl, hr, hos, hn, h⟩ := h
    repeat walk_at "h"
    refine i_MethT ?_
    repeat walk_at "h"
    refine ⟨r, dx, _, rfl, hr.at_, rfl, ?_⟩
    repeat walk_at "h"
    refine ⟨r, dx, o, os, n, 0, 3, rfl, hr, by omega, h.step fun kd k1 H1 e1 r1 s1 h1 => ?_⟩
    obtain ⟨_, hk1, _⟩ := rOct_le e1
    repeat walk_at "h"
    refine i_iteD (fun c => ?_) (fun c => ?_)
    · cases c
      rw [if_pos rfl] at h1
      repeat walk_at "h"
      exact h1.done r1 _ .non
    · have c0 : kd ≠ 0 := fun z => c (by rw [z])
      rw [if_neg c0] at h1
      repeat walk_at "h"
      refine i_iteD (fun c => ?_) (fun c => ?_)
      · cases c
        rw [if_pos rfl] at h1
        repeat walk_at "h"
        refine i_CallT ?_
        repeat walk_at "h"
        refine ⟨r, dx, o, os, k1, rfl, r1, hos, hk1, h1.step fun m k2 H2 e2 r2 s2 h2 => fun v dv => ?_⟩
        repeat walk_at "h"
        refine ⟨v, m, rfl, dv, fun u H3 s3 du => ?_⟩
        exact (h2.grow (s3.mono (by simp))).done (r2.grow s3) u du
      · have c3 : kd ≠ 3 := fun z => c (by rw [z])
        rw [if_neg c3] at h1
        repeat walk_at "h"
        refine i_MethT ?_
        repeat walk_at "h"
        refine ⟨r, dx, _, rfl, r1.at_, rfl, ?_⟩
        repeat walk_at "h"
        refine ⟨r, dx, o, os, k1, kd, rfl, r1, hos, hk1, h1.mono fun x k2 H2 e2 r2 s2 q => q _ ?_⟩
        unfold rPlain at e2
        split at e2
        · obtain ⟨z, j, _, e3⟩ := Rd.step_ok e2
          cases e3; exact .txt z
        · obtain ⟨z, j, _, e3⟩ := Rd.step_ok e2
          cases e3; exact .num _
def spRChX (K : PySem.W.Frag) (C CE : Addr) : Sp := fun vs H Q E => ∃ (r dx o : Addr) (os : List Int) (n : Nat), vs = [.ref r] ∧ RdAt C H r dx o os n ∧ os.length ≤ 10 ^ 8 ∧ n ≤ os.length ∧ GoR C CE H r dx o os (rCh os n) (fun c _ H1 => ∀ v, DtAt K H1 v (chD c) → Q v H1) E
theorem cal_read_change (F : Df K mg d_read_change) (N : ConW mg) (CL_Reader : Cls K C) (M_Reader_next_octet : MthX P w K mg base lv_Reader_next_octet C "next_octet" ["self", "least", "greatest"] (spOctetX C CE)) (M_Reader_next_number : MthX P w K mg base lv_Reader_next_number C "next_number" ["self", "many", "least", "greatest"] (spRNumX C CE)) (M_Reader_next_word : MthX P w K mg base lv_Reader_next_word C "next_word" ["self", "least", "greatest", "before"] (spRWordX C CE)) (C_read_name : CalX P w K mg base lv_read_name "_read_name" ["reader"] (spRNameX K C CE)) (C_read_value : CalX P w K mg base lv_read_value "_read_value" ["reader"] (spRValX K C CE)) : CalX P w K mg base lv_read_change "_read_change" ["reader"] (spRChX K C CE) := by
  obtain ⟨f, fd, F, g⟩ := F
  refine ⟨f, fd, F.ok sc_read_change (fun vs H Q E h => ?_) (fun cdv A outer s H vs Q E hr h => ⟨_,
    (pss_cons (ps_set (i := 1) sc_read_change.nd rfl (Or.inl rfl) (pc_methT (pv 0) CL_Reader M_Reader_next_number (takes_of rfl rfl rfl rfl) (hr.mono (by decide)) (pa_cons pe_int (pa_cons pe_int (pa_cons (pe_gi rfl N.GREATEST_CLOCK) pa_nil)))))
    (pss_cons (ps_set (i := 2) sc_read_change.nd rfl (Or.inl rfl) (pc_methT (pv 0) CL_Reader M_Reader_next_octet (takes_of rfl rfl rfl rfl) (hr.mono (by decide)) (pa_cons pe_int (pa_cons (pe_gi rfl N.GREATEST_PEER) pa_nil))))
    (pss_cons (ps_set (i := 3) sc_read_change.nd rfl (Or.inl rfl) (pc_callT C_read_name (takes_of rfl rfl rfl rfl) (hr.mono (by decide)) (by rfl) (pa_cons (pv 0) pa_nil)))
    (pss_cons (ps_set (i := 4) sc_read_change.nd rfl (Or.inl rfl) (pc_methT (pv 0) CL_Reader M_Reader_next_word (takes_of rfl rfl rfl rfl) (hr.mono (by decide)) (pa_cons pe_int (pa_cons (pe_gi rfl N.LONGEST_FIELD) (pa_cons pe_str pa_nil)))))
    (pss_one (ps_ret (pe_tup (pa_cons (pe_tup (pa_cons (pv 1) (pa_cons (pv 2) pa_nil))) (pa_cons (pv 3) (pa_cons (pv 4) (pa_cons (pc_callT C_read_value (takes_of rfl rfl rfl rfl) (hr.mono (by decide)) (by rfl) (pa_cons (pv 0) pa_nil)) pa_nil))))))))))), ?_⟩), g, F.kp, F.bindsN fun _ _ _ _ _ _ us hl => match us, hl with | [_], _ => rfl⟩
  · obtain ⟨r, dx, o, os, n, rfl, _⟩ := h
    rfl
  · obtain ⟨r, dx, o, os, n, rfl, hr, hos, hn, h⟩ := h
    repeat walk_at "h"
    refine i_MethT ?_
    repeat walk_at "h"
    refine ⟨r, dx, _, rfl, hr.at_, rfl, ?_⟩
    repeat walk_at "h"
    refine ⟨r, dx, o, os, n, 4, 1, 4294967295, rfl, hr, hos, hn, by decide, h.step fun ck k1 H1 e1 r1 s1 h1 => ?_⟩
    have hk1 := ((rNum_in _ _ _ _ os n hn).2 _ _ e1).2
    repeat walk_at "h"
    refine i_MethT ?_
    repeat walk_at "h"
    refine ⟨r, dx, _, rfl, r1.at_, rfl, ?_⟩
    repeat walk_at "h"
    refine ⟨r, dx, o, os, k1, 0, 7, rfl, r1, by omega, h1.step fun pr k2 H2 e2 r2 s2 h2 => ?_⟩
    obtain ⟨_, hk2, _⟩ := rOct_le e2
    repeat walk_at "h"
    refine i_CallT ?_
    repeat walk_at "h"
    refine ⟨r, dx, o, os, k2, rfl, r2, hos, hk2, h2.step fun nm k3 H3 e3 r3 s3 h3 => fun nv dn => ?_⟩
    have hk3 := ((rName_in os k2 hk2).2 _ _ e3).2
    repeat walk_at "h"
    refine i_MethT ?_
    repeat walk_at "h"
    refine ⟨r, dx, _, rfl, r3.at_, rfl, ?_⟩
    repeat walk_at "h"
    refine ⟨r, dx, o, os, k3, 1, 8, Str.ofString "", rfl, r3, hos, hk3, by decide, by decide, by decide, h3.step fun fd k4 H4 e4 r4 s4 h4 => ?_⟩
    have hk4 := ((rWord_in _ _ _ os k3 hk3).2 _ _ e4).2
    have dn4 := DtAt.stp s4 _ _ rfl dn
    repeat walk_at "h"
    refine ⟨(by decide : 2 ≤ sizeLine), fun t ht => ?_⟩
    have s5 : Stp [] H4 (upd H4 t (.tup [.int ck, .int pr])) := .new ht
    have d5 : DtAt K (upd H4 t (.tup [.int ck, .int pr])) (.ref t) (nmD (ck, pr)) := nm_mk upd_same
    have dn5 := DtAt.stp s5 _ _ rfl dn4
    have r5 := r4.grow s5
    have h5 := h4.grow (s5.mono (by simp))
    generalize upd H4 t (.tup [.int ck, .int pr]) = H5 at s5 d5 dn5 r5 h5 ⊢
    repeat walk_at "h"
    refine i_CallT ?_
    repeat walk_at "h"
    refine ⟨r, dx, o, os, k4, rfl, r5, hos, hk4, h5.step fun va k6 H6 e6 r6 s6 h6 => fun v dv => ?_⟩
    have d6 := DtAt.stp s6 _ _ rfl d5
    have dn6 := DtAt.stp s6 _ _ rfl dn5
    repeat walk_at "h"
    refine ⟨(by decide : 4 ≤ sizeLine), fun u hu => ?_⟩
    have s7 : Stp [] H6 (upd H6 u (.tup [.ref t, nv, .str fd, v])) := .new hu
    refine (h6.grow (s7.mono (by simp))).done (r6.grow s7) _ ?_
    exact ch_mk (c := ⟨(ck, pr), nm, fd, va⟩) (.inl upd_same) (DtAt.stp s7 _ _ rfl d6) (DtAt.stp s7 _ _ rfl dn6) (DtAt.stp s7 _ _ (vaD_flat _) dv)
end

section
theorem Rd.assoc {α β γ : Type} (m : Rd α) (f : α → Rd β) (g : β → Rd γ) : (m.andThen f).andThen g = m.andThen fun a => (f a).andThen g := by
  funext os n
  unfold Rd.andThen
  cases m os n <;> rfl
theorem rNum_range : ∀ {m : Nat} {v a b : Int} {os : List Int} {n : Nat} {x : Int} {k : Nat}, rNum a b (m + 1) v os n = .good x k → (a ≤ x ∧ x ≤ b)
  | 0, v, a, b, os, n, x, k, h => by
    obtain ⟨y, j, h1, h2⟩ := Rd.step_ok h
    obtain ⟨_, _, _, l1, l2⟩ := rOct_le h1
    cases h2
    rw [Int.pow_zero, Int.ediv_one] at l1 l2
    omega
  | m + 1, v, a, b, os, n, x, k, h => by
    obtain ⟨y, j, h1, h2⟩ := Rd.step_ok h
    exact rNum_range h2
/-- the same, told at an earlier heap: what is new since then does not matter -/
def BaseR (CE : Addr) (H : Hp) {α : Type} (R : Rs α) (Q : α → Hp → Prop) (E : XK) : Prop := match R with
  | .good a _ => ∀ H1, Stp [] H H1 → Q a H1
  | .bad p => ∀ H1 d, Stp [] H H1 → H1 d = some (.xd [(placeE, .int (p : Nat))]) → E (.ref CE) (some d) H1
variable {C CE : Addr} {H Hc H1 : Hp} {r dx o : Addr} {os : List Int} {n : Nat} {E : XK}
theorem BaseR.step {α β : Type} {m : Rd α} {f : α → Rd β} {Q' : β → Hp → Prop} {Q : α → Nat → Hp → Prop} (h : BaseR CE H (m.andThen f os n) Q' E) (s : Stp [] H Hc) (nr : H r = none)
    (q : ∀ a k H1, m os n = .good a k → RdAt C H1 r dx o os k → Stp [] H H1 → Stp [r] Hc H1 → BaseR CE H (f a os k) Q' E → Q a k H1) : GoR C CE Hc r dx o os (m os n) Q E := by
  unfold Rd.andThen at h
  generalize hR : m os n = R at h q
  cases R with
  | bad p => exact fun H1 d s1 e => h H1 d (s.into nr s1) e
  | good a k => exact fun H2 r2 s2 => q a k H2 rfl r2 (s.into nr s2) s2 h
theorem BaseR.done {α : Type} {a : α} {k : Nat} {Q : α → Hp → Prop} (h : BaseR CE H (.good a k) Q E) (s : Stp [] H Hc) : Q a Hc := h Hc s
theorem BaseR.grow {α : Type} {R : Rs α} {Q : α → Hp → Prop} (h : BaseR CE H R Q E) (s : Stp [] H H1) : BaseR CE H1 R Q E := by
  cases R with
  | bad p => exact fun H2 d s2 e => h H2 d (s.trans s2) e
  | good a k => exact fun H2 s2 => h H2 (s.trans s2)
end
section
variable {P : Program} {w : World} {K : PySem.W.Frag} {mg : Str → Option Value} {base : Heap} {C CE : Addr}
theorem RdAt.stp {H H1 : Hp} {M : List Addr} {r dx o : Addr} {os : List Int} {n : Nat} (h : RdAt C H r dx o os n) (s : Stp M H H1) (a : r ∉ M) (b : o ∉ M) : RdAt C H1 r dx o os n := ⟨s.keep _ _ h.at_ a, s.keep _ _ h.os_ b⟩
theorem cut_takeI (xs : List V) (k : Nat) : cutV xs none (some (k : Int)) = xs.take (min k xs.length) := by
  unfold cutV
  simp only [HT.sIx_none, HT.sIx_nat, List.drop_zero, Nat.sub_zero, Int.toNat_natCast]
def msgD (m : Msg) : Dt := .tup [.num m.1, .num m.2.1, .lst (m.2.2.map chD)]
theorem msgD_at {H : Hp} {t p : Addr} {m : Msg} {ws : List V} (ht : H t = some (.tup [.int m.1, .int m.2.1, .ref p])) (hp : H p = some (.lst ws)) (hd : DtsAt K H ws (m.2.2.map chD)) : DtAt K H (.ref t) (msgD m) :=
  .tup (.inl ht) (.cons (.num _) (.cons (.num _) (.cons (.lst (SqL.of hp) hd) .nil)))
def spRMsgX (K : PySem.W.Frag) (CE : Addr) : Sp := fun vs H Q E => ∃ (o : Addr) (os : List Int), vs = [.ref o] ∧ H o = some (.lst (os.map V.int)) ∧ os.length ≤ 10 ^ 7 ∧
  BaseR CE H (rMsg os 0) (fun m H1 => ∀ (p : Addr) (ws : List V) (t : Addr), H p = none → H1 p = some (.lst ws) → DtsAt K H1 ws (m.2.2.map chD) → H1 t = some (.tup [.int m.1, .int m.2.1, .ref p]) → Q (.ref t) H1) E
theorem cal_read_message (F : Df K mg d_read_message) (B : Blt mg) (N : ConW mg) (R : RdC K C) (I_Reader : Mki P w K mg base lv_Reader_init C "Reader" ["self", "octets"] (spRInit C)) (M_Reader_next_octet : MthX P w K mg base lv_Reader_next_octet C "next_octet" ["self", "least", "greatest"] (spOctetX C CE)) (M_Reader_next_number : MthX P w K mg base lv_Reader_next_number C "next_number" ["self", "many", "least", "greatest"] (spRNumX C CE)) (M_Reader_finish : MthX P w K mg base lv_Reader_finish C "finish" ["self"] (spFinishX C CE)) (C_read_change : CalX P w K mg base lv_read_change "_read_change" ["reader"] (spRChX K C CE)) (C_check_of : Cal P w K mg base lv_check_of "check_of" ["octets"] (spChk K)) : CalX P w K mg base lv_read_message "read_message" ["octets"] (spRMsgX K CE) := by
  have CL_Reader := R.cls
  obtain ⟨f, fd, F, g⟩ := F
  refine ⟨f, fd, F.ok sc_read_message (fun vs H Q E h => ?_) (fun cdv A outer s H vs Q E hr h => ⟨_,
    (pss_cons (ps_set (i := 1) sc_read_message.nd rfl (Or.inl rfl) (pc_make I_Reader (hr.mono (by decide)) (by rfl) (pa_cons (pv 0) pa_nil)))
    (pss_cons (ps_set (i := 2) sc_read_message.nd rfl (Or.inl rfl) (pc_methT (pv 1) CL_Reader M_Reader_next_octet (takes_of rfl rfl rfl rfl) (hr.mono (by decide)) (pa_cons pe_int (pa_cons (pe_gi rfl N.GREATEST_PEER) pa_nil))))
    (pss_cons (ps_set (i := 3) sc_read_message.nd rfl (Or.inl rfl) (pc_methT (pv 1) CL_Reader M_Reader_next_number (takes_of rfl rfl rfl rfl) (hr.mono (by decide)) (pa_cons pe_int (pa_cons pe_int (pa_cons (pe_gi rfl N.GREATEST_NUMBER) pa_nil)))))
    (pss_cons (ps_set (i := 4) sc_read_message.nd rfl (Or.inl rfl) (pc_methT (pv 1) CL_Reader M_Reader_next_number (takes_of rfl rfl rfl rfl) (hr.mono (by decide)) (pa_cons pe_int (pa_cons pe_int (pa_cons (pe_gi rfl N.MOST_CHANGES) pa_nil)))))
    (pss_cons (ps_set (i := 5) sc_read_message.nd rfl (Or.inl rfl) (pe_lst pa_nil))
    (pss_cons (ps_for (passes_of rfl) rfl (pi_range1 rfl B.range (pa_cons (pv 4) pa_nil)) (pg_name (i := 6) sc_read_message.nd rfl (Or.inl rfl))
      (pss_one (ps_expr (pe_bm PySem.F.plainAttrs_list PySem.F.slot_list_append PySem.F.type_list_append mt_append (pv 5) (pa_cons (pc_callT C_read_change (takes_of rfl rfl rfl rfl) (hr.mono (by decide)) (by rfl) (pa_cons (pv 1) pa_nil)) pa_nil)))))
    (pss_cons (ps_asg (pc_call C_check_of (hr.mono (by decide)) (by rfl) (pa_cons (pe_slice sl_list (pv 0) po_none (po_some (pe_fld (pv 1) rfl))) pa_nil)) (pg_lst (by rfl) (pgs_cons (pg_name (i := 7) sc_read_message.nd rfl (Or.inl rfl)) (pgs_cons (pg_name (i := 8) sc_read_message.nd rfl (Or.inl rfl)) pgs_nil))))
    (pss_cons (ps_expr (pc_methT (pv 1) CL_Reader M_Reader_next_octet (takes_of rfl rfl rfl rfl) (hr.mono (by decide)) (pa_cons (pv 7) (pa_cons (pv 7) pa_nil))))
    (pss_cons (ps_expr (pc_methT (pv 1) CL_Reader M_Reader_next_octet (takes_of rfl rfl rfl rfl) (hr.mono (by decide)) (pa_cons (pv 8) (pa_cons (pv 8) pa_nil))))
    (pss_cons (ps_expr (pc_methT0 (pv 1) CL_Reader M_Reader_finish (takes_of rfl rfl rfl rfl) (hr.mono (by decide))))
    (pss_one (ps_ret (pe_tup (pa_cons (pv 2) (pa_cons (pv 3) (pa_cons (pv 5) pa_nil)))))))))))))))), ?_⟩), g, F.kp, F.bindsN fun _ _ _ _ _ _ us hl => match us, hl with | [_], _ => rfl⟩
  · obtain ⟨o, os, rfl, _⟩ := h
    rfl
  · obtain ⟨o, os, rfl, ho, hos, h⟩ := h
    have hsz := sizeLine_eq
    repeat walk_at "h"
    intro r dx nr ndr rdx
    have s4 : Stp [] H (upd (upd H dx (.own r)) r (.ins C dx [])) := (Stp.new ndr).add (by rw [upd_ne rdx.symm]; exact nr)
    refine ⟨r, dx, o, os, rfl, upd_same, s4.keep _ _ ho (by simp), fun H5 r5 s5 => ⟨rfl, ?_⟩⟩
    have s45 := s4.into nr s5
    clear s4 s5
    repeat walk_at "h"
    refine i_MethT ?_
    repeat walk_at "h"
    refine ⟨r, dx, _, rfl, r5.at_, rfl, ?_⟩
    repeat walk_at "h"
    refine ⟨r, dx, o, os, 0, 0, 7, rfl, r5, by omega, h.step s45 nr fun sd k1 H6 e6 r6 s6 _ h6 => ?_⟩
    obtain ⟨_, hk1, _⟩ := rOct_le e6
    repeat walk_at "h"
    refine i_MethT ?_
    repeat walk_at "h"
    refine ⟨r, dx, _, rfl, r6.at_, rfl, ?_⟩
    repeat walk_at "h"
    refine ⟨r, dx, o, os, k1, 4, 0, 4294967295, rfl, r6, by omega, hk1, by decide, h6.step s6 nr fun n k2 H7 e7 r7 s7 _ h7 => ?_⟩
    have hk2 := ((rNum_in _ _ _ _ os k1 hk1).2 _ _ e7).2
    repeat walk_at "h"
    refine i_MethT ?_
    repeat walk_at "h"
    refine ⟨r, dx, _, rfl, r7.at_, rfl, ?_⟩
    repeat walk_at "h"
    refine ⟨r, dx, o, os, k2, 2, 0, 65535, rfl, r7, by omega, hk2, by decide, h7.step s7 nr fun many k3 H8 e8 r8 s8 _ h8 => ?_⟩
    have hk3 := ((rNum_in _ _ _ _ os k2 hk2).2 _ _ e8).2
    obtain ⟨m0, m1⟩ := rNum_range e8
    obtain ⟨M, rfl⟩ : ∃ M : Nat, many = (M : Int) := ⟨many.toNat, by omega⟩
    rw [Int.toNat_natCast] at h8
    repeat walk_at "h"
    refine ⟨Nat.zero_le _, fun p np => ?_⟩
    have s9 : Stp [] H8 (upd H8 p (.lst [])) := .new np
    have p9 : (upd H8 p (.lst [])) p = some (.lst []) := upd_same
    have r9 := r8.grow s9
    have s09 := s8.trans s9
    have npH : H p = none := s8.free np (by simp)
    have op : o ≠ p := ne_of_none ho npH
    have rp : r ≠ p := ne_of_none r8.at_ np
    generalize upd H8 p (.lst []) = H9 at s9 p9 r9 s09 ⊢
    clear s9 s8 r8 s7 s6 s45 r5 r6 r7 h h6 h7
    repeat walk_at "h"
    refine ⟨(M : Nat), rfl, by omega, by omega, ?_⟩
    refine for_range (lo := 0) (n := ((M : Nat) : Int).toNat) (fun i σ H' => ∃ (y6 : Option V) (ac : List V) (cs : List Ch) (j : Nat), σ = [some (.ref o), some (.ref r), some (.int sd), some (.int n), some (.int (M : Nat)), some (.ref p), y6, none, none] ∧ Stp [] H H' ∧ H' p = some (.lst ac) ∧ DtsAt K H' ac (cs.map chD) ∧ RdAt C H' r dx o os j ∧ cs.length ≤ j ∧ j ≤ os.length ∧
        BaseR CE H (((rChs (M - i) cs).andThen fun cs => rSum.andThen fun _ => Rd.ret (sd, n, cs)) os j) (fun m H1 => ∀ (p : Addr) (ws : List V) (t : Addr), H p = none → H1 p = some (.lst ws) → DtsAt K H1 ws (m.2.2.map chD) → H1 t = some (.tup [.int m.1, .int m.2.1, .ref p]) → Q (.ref t) H1) E)
      ⟨_, [], [], k3, rfl, s09, p9, .nil, r9, Nat.zero_le _, hk3, h8⟩ ?_ ?_
    · rintro i σ H10 hi ⟨y6, ac, cs, j, rfl, s10, p10, d10, r10, cj, hj, h10⟩
      rw [Int.toNat_natCast] at hi
      obtain ⟨q, hq⟩ : ∃ q, M - i = q + 1 := ⟨M - i - 1, by omega⟩
      have hq2 : M - (i + 1) = q := by omega
      rw [hq] at h10
      rw [hq2]
      have al : ac.length = cs.length := by have := d10.length; rwa [List.length_map] at this
      have h10 : BaseR CE H ((rCh.andThen fun c => (rChs q (cs ++ [c])).andThen fun cs => rSum.andThen fun _ => Rd.ret (sd, n, cs)) os j) (fun m H1 => ∀ (p : Addr) (ws : List V) (t : Addr), H p = none → H1 p = some (.lst ws) → DtsAt K H1 ws (m.2.2.map chD) → H1 t = some (.tup [.int m.1, .int m.2.1, .ref p]) → Q (.ref t) H1) E := by
        have e := Rd.assoc rCh (fun c => rChs q (cs ++ [c])) fun cs => rSum.andThen fun _ => Rd.ret (sd, n, cs)
        rw [← e]; exact h10
      repeat walk_at "h"
      refine ⟨.inl ⟨rfl, _, SqL.of p10⟩, ?_⟩
      repeat walk_at "h"
      refine i_CallT ?_
      repeat walk_at "h"
      refine ⟨r, dx, o, os, j, rfl, r10, by omega, hj, h10.step s10 nr fun c k11 H11 e11 r11 s11 t11 h11 => fun v dv => ?_⟩
      obtain ⟨kj, kl⟩ := (rCh_in os j hj).2 _ _ e11
      have p11 := t11.keep _ _ p10 (by simpa using rp.symm)
      have d11 := chs_stp d10 t11
      refine i_Nil ⟨p, ac, v, rfl, rfl, p11, by omega, ?_⟩
      have s12 : Stp [p] H11 (upd H11 p (.lst (ac ++ [v]))) := .wr (by simp) p11 fun _ z => nomatch z
      repeat walk_at "h"
      refine ⟨_, ac ++ [v], cs ++ [c], k11, rfl, s11.into npH s12, upd_same, dts_map (chs_stp d11 s12) (DtAt.stp s12 _ _ (chD_flat _) dv), r11.stp s12 (by simpa using rp) (by simpa using op), by rw [List.length_append, List.length_singleton]; omega, kl, h11⟩
    · rintro σ H10 ⟨y6, ac, cs, j, rfl, s10, p10, d10, r10, cj, hj, h10⟩
      rw [Int.toNat_natCast, Nat.sub_self] at h10
      have h10 : BaseR CE H ((rSum.andThen fun _ => Rd.ret (sd, n, cs)) os j) (fun m H1 => ∀ (p : Addr) (ws : List V) (t : Addr), H p = none → H1 p = some (.lst ws) → DtsAt K H1 ws (m.2.2.map chD) → H1 t = some (.tup [.int m.1, .int m.2.1, .ref p]) → Q (.ref t) H1) E := h10
      repeat walk_at "h"
      refine ⟨r, C, dx, _, _, rfl, r10.at_, R.cls, R.pl, rfl, ?_⟩
      repeat walk_at "h"
      refine i_SlL (SqL.of r10.os_) fun p2 np2 => ?_
      rw [cut_takeI, List.length_map, Nat.min_eq_left (by omega), ← List.map_take]
      have s11 : Stp [] H10 (upd H10 p2 (.lst ((os.take j).map V.int))) := .new np2
      have p11 : (upd H10 p2 (.lst ((os.take j).map V.int))) p2 = some (.lst ((os.take j).map V.int)) := upd_same
      generalize upd H10 p2 (.lst ((os.take j).map V.int)) = H11 at s11 p11 ⊢
      repeat walk_at "h"
      refine ⟨p2, os.take j, rfl, p11, fun p3 H12 n12 p12 s12 => ?_⟩
      have s1012 := s11.trans s12
      have r12 := r10.grow s1012
      refine ⟨p3, [.int ((os.take j).foldl sumS (0, 0)).2, .int ((os.take j).foldl sumS (0, 0)).1], rfl, SqL.of p12, rfl, ?_⟩
      have p10' := s1012.keep _ _ p10 (by simp)
      have d12 := chs_stp d10 s1012
      have s012 := s10.trans s1012
      have h12 : BaseR CE H (((rOct ((os.take j).foldl sumS (0, 0)).2 ((os.take j).foldl sumS (0, 0)).2).andThen fun _ => (rOct ((os.take j).foldl sumS (0, 0)).1 ((os.take j).foldl sumS (0, 0)).1).andThen fun _ => rEnd.andThen fun _ => Rd.ret (sd, n, cs)) os j) (fun m H1 => ∀ (p : Addr) (ws : List V) (t : Addr), H p = none → H1 p = some (.lst ws) → DtsAt K H1 ws (m.2.2.map chD) → H1 t = some (.tup [.int m.1, .int m.2.1, .ref p]) → Q (.ref t) H1) E := by
        have e : (rSum.andThen fun _ => Rd.ret (sd, n, cs)) os j = ((rOct ((os.take j).foldl sumS (0, 0)).2 ((os.take j).foldl sumS (0, 0)).2).andThen fun _ => (rOct ((os.take j).foldl sumS (0, 0)).1 ((os.take j).foldl sumS (0, 0)).1).andThen fun _ => rEnd.andThen fun _ => Rd.ret (sd, n, cs)) os j := by
          show (((rOct _ _).andThen fun _ => (rOct _ _).andThen fun _ => rEnd).andThen fun _ => Rd.ret (sd, n, cs)) os j = _
          rw [Rd.assoc]
          congr 1
          funext _
          rw [Rd.assoc]
        rw [← e]; exact h10
      clear h10
      generalize ((os.take j).foldl sumS (0, 0)).2 = hi at h12 ⊢
      generalize ((os.take j).foldl sumS (0, 0)).1 = lo at h12 ⊢
      clear s11 s12 p11 p12 s1012 p10 d10 r10 s10
      repeat walk_at "h"
      refine i_MethT ?_
      repeat walk_at "h"
      refine ⟨r, dx, _, rfl, r12.at_, rfl, ?_⟩
      repeat walk_at "h"
      refine ⟨r, dx, o, os, j, hi, hi, rfl, r12, by omega, h12.step s012 nr fun _ k13 H13 e13 r13 s13 t13 h13 => ?_⟩
      obtain ⟨_, hk13, _⟩ := rOct_le e13
      have p13 := t13.keep _ _ p10' (by simpa using rp.symm)
      have d13 := chs_stp d12 t13
      repeat walk_at "h"
      refine i_MethT ?_
      repeat walk_at "h"
      refine ⟨r, dx, _, rfl, r13.at_, rfl, ?_⟩
      repeat walk_at "h"
      refine ⟨r, dx, o, os, k13, lo, lo, rfl, r13, by omega, h13.step s13 nr fun _ k14 H14 e14 r14 s14 t14 h14 => ?_⟩
      obtain ⟨_, hk14, _⟩ := rOct_le e14
      have p14 := t14.keep _ _ p13 (by simpa using rp.symm)
      have d14 := chs_stp d13 t14
      repeat walk_at "h"
      refine i_MethT0 ?_
      repeat walk_at "h"
      refine ⟨r, dx, _, rfl, r14.at_, rfl, ?_⟩
      refine ⟨r, dx, o, os, k14, rfl, r14, by omega, h14.step s14 nr fun _ k15 H15 e15 r15 s15 t15 h15 => ?_⟩
      have p15 := t15.keep _ _ p14 (by simpa using rp.symm)
      have d15 := chs_stp d14 t15
      repeat walk_at "h"
      refine ⟨(by decide : 3 ≤ sizeLine), fun t ht => ?_⟩
      have s16 : Stp [] H15 (upd H15 t (.tup [.int sd, .int n, .ref p])) := .new ht
      have p16 := s16.keep _ _ p15 (by simp)
      have d16 := chs_stp d15 s16
      exact (h15.done (s15.trans s16)) p ac t npH p16 d16 upd_same
end

/-! ### one octet exchanged is seen -/
section
def azC (z : Str) : Prop := ∀ c ∈ z.cps.toList, c < 256
def inO (xs : List Int) : Prop := ∀ x ∈ xs, 0 ≤ x ∧ x < 256
theorem inO_app {a b : List Int} (h : inO a) (g : inO b) : inO (a ++ b) := fun x hx => (List.mem_append.mp hx).elim (h x) (g x)
theorem octs_inO (n : Int) : ∀ k, inO (octs n k) := by
  intro k
  induction k generalizing n with
  | zero => exact fun x hx => absurd hx (by simp [octs])
  | succ k ih =>
    rw [octs]
    refine inO_app (ih _) fun x hx => ?_
    rw [List.mem_singleton.mp hx]
    exact ⟨Int.emod_nonneg _ (by decide), Int.emod_lt_of_pos _ (by decide)⟩
theorem wordO_inO {z : Str} (h : azC z) : inO (wordO z) := by
  refine inO_app (octs_inO _ _) fun x hx => ?_
  obtain ⟨c, hc, rfl⟩ := List.mem_map.mp hx
  have := h c hc
  exact ⟨by omega, by omega⟩
def shownVa : Va → Prop
  | .txt z => azC z
  | _ => True
theorem nameO_inO (n : Nm) : inO (nameO n) := inO_app (octs_inO _ _) (octs_inO _ _)
theorem one_inO {x : Int} (h : 0 ≤ x ∧ x < 256) : inO [x] := fun y hy => by rw [List.mem_singleton.mp hy]; exact h
theorem valO_inO {x : Va} (h : shownVa x) : inO (valO x) := by
  cases x with
  | non => exact one_inO (by decide)
  | num i => exact inO_app (one_inO (by decide)) (octs_inO _ _)
  | txt z => exact inO_app (one_inO (by decide)) (wordO_inO h)
  | tg s n => exact inO_app (one_inO (by decide)) (nameO_inO n)
theorem chO_inO {c : Ch} (h : azC c.fd) (g : shownVa c.va) : inO (chO c) :=
  inO_app (inO_app (inO_app (inO_app (octs_inO _ _) (octs_inO _ _)) (nameO_inO _)) (wordO_inO h)) (valO_inO g)
theorem chOs_inO {cs : List Ch} (h : ∀ c ∈ cs, azC c.fd ∧ shownVa c.va) : inO ((cs.map chO).flatten) := fun x hx => by
  obtain ⟨l, hl, hx⟩ := List.mem_flatten.mp hx
  obtain ⟨c, hc, rfl⟩ := List.mem_map.mp hl
  exact chO_inO (h c hc).1 (h c hc).2 x hx
theorem sum_low : ∀ (os : List Int) (p : Int × Int), (os.foldl sumS p).1 % 256 = (p.1 + os.sum) % 256
  | [], p => by simp
  | o :: os, p => by
    rw [List.foldl_cons, sum_low os, List.sum_cons]
    show ((p.1 + o) % 256 + os.sum) % 256 = _
    omega
theorem sum_in (os : List Int) : ∀ (p : Int × Int), 0 ≤ p.1 ∧ p.1 < 256 → 0 ≤ p.2 ∧ p.2 < 256 → (0 ≤ (os.foldl sumS p).1 ∧ (os.foldl sumS p).1 < 256) ∧ (0 ≤ (os.foldl sumS p).2 ∧ (os.foldl sumS p).2 < 256) := by
  induction os with
  | nil => exact fun p h1 h2 => ⟨h1, h2⟩
  | cons o os ih =>
    intro p h1 h2
    exact ih _ ⟨Int.emod_nonneg _ (by decide), Int.emod_lt_of_pos _ (by decide)⟩ ⟨Int.emod_nonneg _ (by decide), Int.emod_lt_of_pos _ (by decide)⟩
theorem chkO_inO (os : List Int) : inO (chkO os) := by
  have h := sum_in os (0, 0) (by decide) (by decide)
  intro x hx
  unfold chkO at hx
  simp only [List.mem_cons, List.not_mem_nil, or_false] at hx
  rcases hx with rfl | rfl
  · exact h.2
  · exact h.1
theorem msgO_inO (s n : Int) {cs : List Ch} (h : ∀ c ∈ cs, azC c.fd ∧ shownVa c.va) : inO (msgO s n cs) :=
  inO_app (inO_app (inO_app (inO_app (octs_inO _ _) (octs_inO _ _)) (octs_inO _ _)) (chOs_inO h)) (chkO_inO _)
theorem sum_set : ∀ (os : List Int) (i : Nat) (x y : Int), os[i]? = some y → (os.set i x).sum = os.sum - y + x
  | [], i, x, y, h => by cases i <;> cases h
  | o :: os, 0, x, y, h => by
    simp at h; subst h
    rw [List.set_cons_zero, List.sum_cons, List.sum_cons]; omega
  | o :: os, i + 1, x, y, h => by
    rw [List.set_cons_succ, List.sum_cons, List.sum_cons, sum_set os i x y (by simpa using h)]; omega
/-- one octet exchanged is seen -/
theorem chk_seen {B : List Int} {i : Nat} {x y : Int} (h : (B ++ chkO B)[i]? = some y) (hx : 0 ≤ x ∧ x < 256) (hy : 0 ≤ y ∧ y < 256) (ne : x ≠ y) :
    ¬ ∃ j, (B ++ chkO B).set i x = ((B ++ chkO B).set i x).take j ++ chkO (((B ++ chkO B).set i x).take j) := by
  rintro ⟨j, e⟩
  have hl : (chkO B).length = 2 := rfl
  have hl2 : (chkO (((B ++ chkO B).set i x).take j)).length = 2 := rfl
  have len := congrArg List.length e
  rw [List.length_append, hl2, List.length_set, List.length_append, hl, List.length_take, List.length_set, List.length_append, hl] at len
  have ej : min j (B.length + 2) = B.length := by omega
  have ej : j = B.length := by omega
  subst ej
  by_cases c : i < B.length
  · have e1 : (B ++ chkO B).set i x = B.set i x ++ chkO B := List.set_append_left _ _ c
    rw [e1] at e
    have e2 : (B.set i x ++ chkO B).take B.length = B.set i x := by
      rw [List.take_append_of_le_length (by rw [List.length_set]; omega), List.take_of_length_le (by rw [List.length_set]; omega)]
    rw [e2] at e
    have e3 := List.append_cancel_left e
    unfold chkO at e3
    have e4 : (B.foldl sumS (0, 0)).1 = ((B.set i x).foldl sumS (0, 0)).1 := by
      injection e3 with _ e3
      injection e3
    have hy2 : B[i]? = some y := by rwa [List.getElem?_append_left c] at h
    have s1 := sum_low B (0, 0)
    have s2 := sum_low (B.set i x) (0, 0)
    rw [sum_set B i x y hy2, ← e4, s1] at s2
    simp only at s2
    omega
  · have e1 : (B ++ chkO B).set i x = B ++ (chkO B).set (i - B.length) x := List.set_append_right _ _ (by omega)
    rw [e1] at e
    rw [List.take_append_of_le_length (Nat.le_refl _), List.take_length] at e
    have e3 := List.append_cancel_left e
    have hy2 : (chkO B)[i - B.length]? = some y := by rwa [List.getElem?_append_right (by omega)] at h
    have z : ((chkO B).set (i - B.length) x)[i - B.length]? = some x := List.getElem?_set_self (List.getElem?_eq_some_iff.mp hy2).1
    rw [e3, hy2] at z
    exact ne (Option.some.inj z).symm
theorem rMsg_chk {os : List Int} {m : Msg} {k : Nat} (h : rMsg os 0 = .good m k) : ∃ j, os = os.take j ++ chkO (os.take j) := by
  obtain ⟨_, _, _, h⟩ := Rd.step_ok h
  obtain ⟨_, _, _, h⟩ := Rd.step_ok h
  obtain ⟨_, _, _, h⟩ := Rd.step_ok h
  obtain ⟨cs, j, _, h⟩ := Rd.step_ok h
  obtain ⟨_, k1, h, _⟩ := Rd.step_ok h
  obtain ⟨a, j1, h1, h⟩ := Rd.step_ok h
  obtain ⟨b, j2, h2, h⟩ := Rd.step_ok h
  obtain ⟨rfl, l1, e1, a1, a2⟩ := rOct_le h1
  obtain ⟨rfl, l2, e2, b1, b2⟩ := rOct_le h2
  have ea := Int.le_antisymm a1 a2
  have eb := Int.le_antisymm b1 b2
  have l3 : ¬ j + 1 + 1 < os.length := by
    intro z
    unfold rEnd at h
    rw [if_pos z] at h
    cases h
  refine ⟨j, ?_⟩
  conv => lhs; rw [← List.take_append_drop j os]
  congr 1
  have lj : j < os.length := by omega
  rw [List.drop_eq_getElem_cons lj, List.drop_eq_getElem_cons (by omega), List.drop_of_length_le (by omega)]
  rw [List.getElem?_eq_getElem lj] at e1
  rw [List.getElem?_eq_getElem (by omega)] at e2
  rw [Option.some.inj e1, Option.some.inj e2, ← ea, ← eb]
  rfl
/-- a message's octets with another one at a place: none, and the wrong place lies within -/
theorem msg_seen {s n : Int} {cs : List Ch} (h : ∀ c ∈ cs, azC c.fd ∧ shownVa c.va) {i : Nat} {x y : Int} (hi : (msgO s n cs)[i]? = some y) (hx : 0 ≤ x ∧ x < 256) (ne : x ≠ y) : ∃ p, rMsg ((msgO s n cs).set i x) 0 = .bad p ∧ p ≤ ((msgO s n cs).set i x).length := by
  cases e : rMsg ((msgO s n cs).set i x) 0 with
  | bad p => exact ⟨p, rfl, (rMsg_in _ 0 (Nat.zero_le _)).1 p e⟩
  | good m k =>
    exfalso
    exact chk_seen hi hx (msgO_inO s n h y (List.mem_of_getElem? hi)) ne (rMsg_chk e)
end

/-! ### what is read has the octets that were read; a message's octets are read -/
section
theorem Rd.go {α β : Type} {m : Rd α} {f : α → Rd β} {os : List Int} {n j : Nat} {a : α} (h : m os n = .good a j) : m.andThen f os n = f a os j := by
  unfold Rd.andThen
  rw [h]
/-- at n the octets xs stand -/
def Beg (os : List Int) (n : Nat) (xs : List Int) : Prop := (os.drop n).take xs.length = xs
theorem Beg.app {os a b : List Int} {n : Nat} (h : Beg os n (a ++ b)) : Beg os n a ∧ Beg os (n + a.length) b := by
  unfold Beg at h ⊢
  rw [List.length_append, List.take_add, List.drop_drop] at h
  have hl : ((os.drop n).take a.length).length = a.length := by
    have h2 := congrArg List.length h
    rw [List.length_append, List.length_append, List.length_take, List.length_take] at h2
    rw [List.length_take]
    omega
  exact List.append_inj h hl
theorem Beg.join {os a b : List Int} {n : Nat} (h : Beg os n a) (g : Beg os (n + a.length) b) : Beg os n (a ++ b) := by
  unfold Beg at h g ⊢
  rw [List.length_append, List.take_add, List.drop_drop, h, g]
theorem Beg.nil (os : List Int) (n : Nat) : Beg os n [] := by simp [Beg]
theorem Beg.one_iff {os : List Int} {n : Nat} {x : Int} : Beg os n [x] ↔ os[n]? = some x := by
  unfold Beg
  constructor
  · intro h
    have h2 : ((os.drop n).take 1)[0]? = some x := by
      rw [show ([x] : List Int).length = 1 from rfl] at h
      rw [h]; rfl
    rw [List.getElem?_take, if_pos (by decide), List.getElem?_drop] at h2
    exact h2
  · intro h
    have l := (List.getElem?_eq_some_iff.mp h).1
    rw [List.drop_eq_getElem_cons l]
    rw [List.getElem?_eq_getElem l] at h
    simp [Option.some.inj h]
theorem Beg.cons {os xs : List Int} {n : Nat} {x : Int} (h : os[n]? = some x) (g : Beg os (n + 1) xs) : Beg os n (x :: xs) := Beg.join (a := [x]) (Beg.one_iff.mpr h) g
theorem rNum_back {a b : Int} : ∀ {m : Nat} {v : Int} {os : List Int} {n : Nat} {x : Int} {k : Nat}, rNum a b m v os n = .good x k → k = n + m ∧ x / 256 ^ m = v ∧ Beg os n (octs x m)
  | 0, v, os, n, x, k, h => by
    cases h
    exact ⟨rfl, by simp, Beg.nil _ _⟩
  | m + 1, v, os, n, x, k, h => by
    obtain ⟨y, j, h1, h2⟩ := Rd.step_ok h
    obtain ⟨rfl, _, e, l1, l2⟩ := rOct_le h1
    obtain ⟨rfl, q, g⟩ := rNum_back h2
    have y0 : 0 ≤ y ∧ y ≤ 255 := by omega
    refine ⟨by omega, ?_, ?_⟩
    · rw [← div_pow', q]; omega
    · rw [octs_cons, q]
      have : (256 * v + y) % 256 = y := by omega
      rw [this]
      exact Beg.cons e g
theorem rNum_fwd {a b : Int} : ∀ {m : Nat} {v : Int} {os : List Int} {n : Nat} {x : Int}, Beg os n (octs x m) → x / 256 ^ m = v → a ≤ x → x ≤ b → rNum a b m v os n = .good x (n + m)
  | 0, v, os, n, x, h, e, _, _ => by
    rw [Int.pow_zero, Int.ediv_one] at e
    rw [e]; rfl
  | m + 1, v, os, n, x, h, e, ha, hb => by
    rw [octs_cons] at h
    obtain ⟨h1, h2⟩ := Beg.app (a := [x / 256 ^ m % 256]) h
    have h1 := Beg.one_iff.mp h1
    have pm : (0 : Int) < 256 ^ m := Int.pow_pos (by decide)
    have la : a / 256 ^ m ≤ x / 256 ^ m := Int.ediv_le_ediv pm ha
    have lb : x / 256 ^ m ≤ b / 256 ^ m := Int.ediv_le_ediv pm hb
    rw [← div_pow'] at e
    have dv : 256 * v + x / 256 ^ m % 256 = x / 256 ^ m := by rw [← e]; exact Int.mul_ediv_add_emod _ _
    have x0 : 0 ≤ x / 256 ^ m % 256 := Int.emod_nonneg _ (by decide)
    have x1 : x / 256 ^ m % 256 < 256 := Int.emod_lt_of_pos _ (by decide)
    have ih := rNum_fwd (a := a) (b := b) (m := m) (v := 256 * v + x / 256 ^ m % 256) h2 (by rw [dv]) ha hb
    have e1 : rOct (max (a / 256 ^ m - 256 * v) 0) (min (b / 256 ^ m - 256 * v) 255) os n = .good (x / 256 ^ m % 256) (n + 1) := by
      unfold rOct
      rw [h1]
      exact if_neg (by omega)
    have e0 : rNum a b (m + 1) v os n = ((rOct (max (a / 256 ^ m - 256 * v) 0) (min (b / 256 ^ m - 256 * v) 255)).andThen fun y => rNum a b m (256 * v + y)) os n := rfl
    rw [e0, Rd.go e1]
    rw [show n + 1 = n + [x / 256 ^ m % 256].length from rfl, ih]
    congr 1
    simp only [List.length_singleton]; omega
theorem rLet_back {M : Nat} {bf : List Nat} : ∀ {q : Nat} {l : List Nat} {os : List Int} {n : Nat} {z : List Nat} {k : Nat}, rLet M bf q l os n = .good z k → ∃ t : List Nat, z = l ++ t ∧ t.length = q ∧ k = n + q ∧ Beg os n (t.map fun c => ((c : Nat) : Int)) ∧ ∀ c ∈ t, 97 ≤ c ∧ c ≤ 122
  | 0, l, os, n, z, k, h => by
    cases h
    exact ⟨[], by simp, rfl, rfl, Beg.nil _ _, by simp⟩
  | q + 1, l, os, n, z, k, h => by
    obtain ⟨x, j, h1, h2⟩ := Rd.step_ok h
    obtain ⟨rfl, _, e, l1, l2⟩ := rOct_le h1
    obtain ⟨_, j2, h3, h4⟩ := Rd.step_ok h2
    have hj : j2 = n + 1 := by
      unfold rOrd at h3
      split at h3
      · cases h3
      · cases h3; rfl
    subst hj
    obtain ⟨t, rfl, ht, rfl, g, hz⟩ := rLet_back h4
    have ex : ((x.toNat : Nat) : Int) = x := by omega
    refine ⟨x.toNat :: t, by simp, by rw [List.length_cons, ht], by omega, ?_, ?_⟩
    · rw [List.map_cons, ex]
      exact Beg.cons e g
    · intro c hc
      rcases List.mem_cons.mp hc with rfl | hc
      · omega
      · exact hz c hc
theorem rWord_back {a b : Int} {bf : Str} {os : List Int} {n : Nat} {z : Str} {k : Nat} (h : rWord a b bf os n = .good z k) (ha : 0 ≤ a) (hb : b ≤ 255) : k = n + (wordO z).length ∧ Beg os n (wordO z) ∧ azZ z ∧ a ≤ (z.length : Nat) ∧ ((z.length : Nat) : Int) ≤ b := by
  obtain ⟨m, j, h1, h2⟩ := Rd.step_ok h
  obtain ⟨rfl, _, e, l1, l2⟩ := rOct_le h1
  obtain ⟨_, j2, h3, h4⟩ := Rd.step_ok h2
  have hj : j2 = n + 1 := by
    unfold rOrd at h3
    split at h3
    · cases h3
    · cases h3; rfl
  subst hj
  obtain ⟨l, j3, h5, h6⟩ := Rd.step_ok h4
  obtain ⟨_, rfl, ht, rfl, g, hz⟩ := rLet_back h5
  cases h6
  have em : ((m.toNat : Nat) : Int) = m := by omega
  have zl : (strOf l).length = l.length := strOf_len l
  have cps : (strOf l).cps.toList = l := strOf_cps l
  refine ⟨by rw [wordO_len, zl]; omega, ?_, ?_, by rw [zl]; omega, by rw [zl]; omega⟩
  · unfold wordO codes
    rw [zl, ht, em, cps]
    have : octs m 1 = [m] := by simp [octs]; omega
    rw [this]
    exact Beg.cons e g
  · intro c hc
    rw [cps] at hc
    exact hz c hc
theorem rOrd_nil (M : Nat) (z : List Nat) (h : z.length ≤ M) (os : List Int) (n : Nat) : rOrd M [] z os n = .good () n := by
  unfold rOrd
  refine if_neg fun c => c.2 ?_
  cases z with
  | cons x t => exact List.nil_lt_cons _ _
  | nil =>
    obtain ⟨m, rfl⟩ : ∃ m, M = m + 1 := ⟨M - 1, by omega⟩
    exact List.nil_lt_cons _ _
theorem rLet_fwd {M : Nat} : ∀ {t l : List Nat} {os : List Int} {n : Nat}, Beg os n (t.map fun c => ((c : Nat) : Int)) → (∀ c ∈ t, 97 ≤ c ∧ c ≤ 122) → l.length + t.length = M → rLet M [] t.length l os n = .good (l ++ t) (n + t.length)
  | [], l, os, n, _, _, _ => by simp [rLet, Rd.ret]
  | c :: t, l, os, n, h, hz, hl => by
    obtain ⟨h1, h2⟩ := Beg.app (a := [((c : Nat) : Int)]) (b := t.map fun c => ((c : Nat) : Int)) h
    have h1 := Beg.one_iff.mp h1
    have hc := hz c (by simp)
    have e1 : rOct 97 122 os n = .good ((c : Nat) : Int) (n + 1) := by
      unfold rOct
      rw [h1]
      exact if_neg (by omega)
    have ih := rLet_fwd (M := M) (l := l ++ [c]) h2 (fun d hd => hz d (by simp [hd])) (by rw [List.length_append, List.length_singleton]; rw [List.length_cons] at hl; omega)
    have e0 : rLet M [] (c :: t).length l os n = ((rOct 97 122).andThen fun x => (rOrd M [] (l ++ [x.toNat])).andThen fun _ => rLet M [] t.length (l ++ [x.toNat])) os n := rfl
    rw [e0, Rd.go e1, Rd.go (rOrd_nil M _ (by rw [List.length_append, Int.toNat_natCast]; simp only [List.length_cons, List.length_nil] at hl ⊢; omega) _ _), Int.toNat_natCast]
    rw [show n + 1 = n + [((c : Nat) : Int)].length from rfl, ih, List.append_assoc]
    rw [show n + [((c : Nat) : Int)].length + t.length = n + (c :: t).length by simp only [List.length_cons, List.length_nil]; omega]
    rfl
theorem rWord_fwd {a b : Int} {os : List Int} {n : Nat} {z : Str} (h : Beg os n (wordO z)) (az : azZ z) (ha : a ≤ (z.length : Nat)) (hb : ((z.length : Nat) : Int) ≤ b) (hl : z.length ≤ 255) : rWord a b (Str.ofString "") os n = .good z (n + (wordO z).length) := by
  obtain ⟨h1, h2⟩ := h.app
  rw [octs_len] at h2
  have : octs (z.length : Nat) 1 = [((z.length : Nat) : Int)] := by simp [octs]; omega
  rw [this] at h1
  have h1 := Beg.one_iff.mp h1
  have e1 : rOct a b os n = .good ((z.length : Nat) : Int) (n + 1) := by
    unfold rOct
    rw [h1]
    exact if_neg (by omega)
  have zl : z.cps.toList.length = z.length := rfl
  have e3 := rLet_fwd (M := z.length) (l := []) h2 az (by rw [List.length_nil, zl]; omega)
  have e0 : (Str.ofString "").cps.toList = [] := rfl
  rw [zl] at e3
  unfold rWord
  rw [e0, Rd.go e1, Int.toNat_natCast, Rd.go (rOrd_nil _ _ (Nat.zero_le _) _ _), Rd.go e3]
  show Rs.good (strOf ([] ++ z.cps.toList)) _ = _
  rw [List.nil_append, strOf_self, wordO_len]
  congr 1; omega
def okNmL (m : Nm) : Prop := (0 ≤ m.1 ∧ m.1 ≤ 7) ∧ (0 ≤ m.2 ∧ m.2 ≤ 4294967295)
def okVaL : Va → Prop
  | .non => True
  | .num i => -1000000 ≤ i ∧ i ≤ 1000000
  | .txt z => z.length ≤ 20 ∧ azZ z
  | .tg s m => s = strRef ∧ okNmL m
structure OkChL (c : Ch) : Prop where
  ck : 1 ≤ c.st.1 ∧ c.st.1 ≤ 4294967295
  pr : 0 ≤ c.st.2 ∧ c.st.2 ≤ 7
  nm : okNmL c.nm
  fd : (1 ≤ c.fd.length ∧ c.fd.length ≤ 8) ∧ azZ c.fd
  va : okVaL c.va
theorem nameO_len (n : Nm) : (nameO n).length = 5 := by unfold nameO; rw [List.length_append, octs_len, octs_len]
theorem octs1 {x : Int} (h : 0 ≤ x ∧ x ≤ 255) : octs x 1 = [x] := by simp [octs]; omega
theorem rName_back {os : List Int} {n : Nat} {m : Nm} {k : Nat} (h : rName os n = .good m k) : k = n + (nameO m).length ∧ Beg os n (nameO m) ∧ okNmL m := by
  obtain ⟨p, j, h1, h2⟩ := Rd.step_ok h
  obtain ⟨rfl, _, e, l1, l2⟩ := rOct_le h1
  obtain ⟨c, j2, h3, h4⟩ := Rd.step_ok h2
  have g := rNum_range h3
  obtain ⟨rfl, q, g2⟩ := rNum_back h3
  cases h4
  refine ⟨by rw [nameO_len], ?_, ⟨l1, l2⟩, g⟩
  unfold nameO
  dsimp only
  rw [octs1 ⟨l1, by omega⟩]
  exact Beg.cons e g2
theorem rName_fwd {os : List Int} {n : Nat} {m : Nm} (h : Beg os n (nameO m)) (ok : okNmL m) : rName os n = .good m (n + (nameO m).length) := by
  obtain ⟨⟨a1, a2⟩, a3, a4⟩ := ok
  obtain ⟨h1, h2⟩ := h.app
  rw [octs1 ⟨a1, by omega⟩] at h1 h2
  have h1 := Beg.one_iff.mp h1
  have e1 : rOct 0 7 os n = .good m.1 (n + 1) := by
    unfold rOct
    rw [h1]
    exact if_neg (by omega)
  have e2 := rNum_fwd (a := 0) (b := 4294967295) (v := 0) h2 (by rw [show (256 : Int) ^ 4 = 4294967296 by decide]; omega) a3 a4
  unfold rName
  rw [Rd.go e1, show n + 1 = n + [m.1].length from rfl, Rd.go e2, nameO_len]
  show Rs.good (m.1, m.2) _ = _
  congr 1
theorem rVa_back {os : List Int} {n : Nat} {x : Va} {k : Nat} (h : rVa os n = .good x k) : k = n + (valO x).length ∧ Beg os n (valO x) ∧ okVaL x := by
  obtain ⟨kd, j, h1, h2⟩ := Rd.step_ok h
  obtain ⟨rfl, _, e, l1, l2⟩ := rOct_le h1
  by_cases c0 : kd = 0
  · rw [if_pos c0] at h2
    cases h2
    subst c0
    exact ⟨rfl, Beg.one_iff.mpr e, trivial⟩
  · rw [if_neg c0] at h2
    by_cases c3 : kd = 3
    · rw [if_pos c3] at h2
      obtain ⟨m, j2, h3, h4⟩ := Rd.step_ok h2
      obtain ⟨rfl, g, ok⟩ := rName_back h3
      cases h4
      subst c3
      refine ⟨by unfold valO; rw [List.length_append, List.length_singleton]; omega, ?_, rfl, ok⟩
      exact Beg.cons e g
    · rw [if_neg c3] at h2
      unfold rPlain at h2
      by_cases c2 : kd = 2
      · rw [if_pos c2] at h2
        obtain ⟨z, j2, h3, h4⟩ := Rd.step_ok h2
        obtain ⟨rfl, g, az, q1, q2⟩ := rWord_back h3 (by decide) (by decide)
        cases h4
        subst c2
        refine ⟨by unfold valO; rw [List.length_append, List.length_singleton]; omega, ?_, by omega, az⟩
        exact Beg.cons e g
      · rw [if_neg c2] at h2
        obtain ⟨i, j2, h3, h4⟩ := Rd.step_ok h2
        have g := rNum_range h3
        obtain ⟨rfl, q, g2⟩ := rNum_back h3
        cases h4
        have c1 : kd = 1 := by omega
        subst c1
        refine ⟨by unfold valO; rw [List.length_append, List.length_singleton, octs_len], ?_, by omega, by omega⟩
        show Beg os n ([1] ++ octs (-1000000 + i + 1000000) 3)
        rw [show -1000000 + i + 1000000 = i by omega]
        exact Beg.cons e g2
theorem rVa_fwd {os : List Int} {n : Nat} {x : Va} (h : Beg os n (valO x)) (ok : okVaL x) : rVa os n = .good x (n + (valO x).length) := by
  have one : ∀ (kd : Int) (r : List Int), Beg os n ([kd] ++ r) → 0 ≤ kd → kd ≤ 3 → rOct 0 3 os n = .good kd (n + 1) ∧ Beg os (n + 1) r := fun kd r h a b => by
    obtain ⟨h1, h2⟩ := Beg.app h
    have h1 := Beg.one_iff.mp h1
    refine ⟨?_, h2⟩
    unfold rOct
    rw [h1]
    exact if_neg (by omega)
  cases x with
  | non =>
    obtain ⟨e, _⟩ := one 0 [] h (by decide) (by decide)
    unfold rVa Rd.andThen
    rw [e]; rfl
  | tg s m =>
    obtain ⟨rfl, ok⟩ := ok
    obtain ⟨e, g⟩ := one 3 (nameO m) h (by decide) (by decide)
    have e2 := rName_fwd g ok
    unfold rVa
    rw [Rd.go e, if_neg (by decide), if_pos rfl, Rd.go e2]
    show Rs.good _ _ = _
    congr 1
    all_goals (unfold valO; rw [List.length_append, List.length_singleton]; omega)
  | txt z =>
    obtain ⟨e, g⟩ := one 2 (wordO z) h (by decide) (by decide)
    have e2 := rWord_fwd (a := 0) (b := 20) g ok.2 (by omega) (by have := ok.1; omega) (by have := ok.1; omega)
    unfold rVa
    rw [Rd.go e, if_neg (by decide), if_neg (by decide)]
    unfold rPlain
    rw [if_pos rfl, Rd.go e2]
    show Rs.good _ _ = _
    congr 1
    all_goals (unfold valO; rw [List.length_append, List.length_singleton]; omega)
  | num i =>
    obtain ⟨e, g⟩ := one 1 (octs (i + 1000000) 3) h (by decide) (by decide)
    have e2 := rNum_fwd (a := 0) (b := 2000000) (v := 0) g (by rw [show (256 : Int) ^ 3 = 16777216 by decide]; have := ok.1; have := ok.2; omega) (by have := ok.1; omega) (by have := ok.2; omega)
    unfold rVa
    rw [Rd.go e, if_neg (by decide), if_neg (by decide)]
    unfold rPlain
    rw [if_neg (by decide), Rd.go e2]
    show Rs.good (Va.num (-1000000 + (i + 1000000))) _ = _
    rw [show -1000000 + (i + 1000000) = i by omega]
    congr 1
    all_goals (unfold valO; rw [List.length_append, List.length_singleton, octs_len]; omega)
theorem rCh_back {os : List Int} {n : Nat} {c : Ch} {k : Nat} (h : rCh os n = .good c k) : k = n + (chO c).length ∧ Beg os n (chO c) ∧ OkChL c := by
  obtain ⟨ck, j1, h1, h⟩ := Rd.step_ok h
  have g1 := rNum_range h1
  obtain ⟨rfl, _, b1⟩ := rNum_back h1
  obtain ⟨pr, j2, h2, h⟩ := Rd.step_ok h
  obtain ⟨rfl, _, e2, l1, l2⟩ := rOct_le h2
  obtain ⟨nm, j3, h3, h⟩ := Rd.step_ok h
  obtain ⟨rfl, b3, ok3⟩ := rName_back h3
  obtain ⟨fd, j4, h4, h⟩ := Rd.step_ok h
  obtain ⟨rfl, b4, az4, q1, q2⟩ := rWord_back h4 (by decide) (by decide)
  obtain ⟨va, j5, h5, h⟩ := Rd.step_ok h
  obtain ⟨rfl, b5, ok5⟩ := rVa_back h5
  cases h
  have b2 : Beg os (n + 4) (octs pr 1) := by rw [octs1 ⟨l1, by omega⟩]; exact Beg.one_iff.mpr e2
  have q1 : (1 : Int) ≤ (fd.length : Nat) := q1
  refine ⟨?_, ?_, ⟨g1, ⟨l1, l2⟩, ok3, ⟨⟨by show 1 ≤ fd.length; omega, by show fd.length ≤ 8; omega⟩, az4⟩, ok5⟩⟩
  · unfold chO
    simp only [List.length_append, octs_len]; omega
  · unfold chO
    refine Beg.join (Beg.join (Beg.join (Beg.join b1 ?_) ?_) ?_) ?_
    · rw [octs_len]; exact b2
    · simp only [List.length_append, octs_len]; exact b3
    · simp only [List.length_append, octs_len]; rw [← Nat.add_assoc]; exact b4
    · simp only [List.length_append, octs_len]; rw [← Nat.add_assoc, ← Nat.add_assoc]; exact b5
theorem rCh_fwd {os : List Int} {n : Nat} {c : Ch} (h : Beg os n (chO c)) (ok : OkChL c) : rCh os n = .good c (n + (chO c).length) := by
  obtain ⟨⟨k1, k2⟩, ⟨p1, p2⟩, nm, ⟨⟨f1, f2⟩, az⟩, va⟩ := ok
  obtain ⟨h, b5⟩ := Beg.app h
  obtain ⟨h, b4⟩ := h.app
  obtain ⟨h, b3⟩ := h.app
  obtain ⟨b1, b2⟩ := h.app
  simp only [List.length_append, octs_len] at b2 b3 b4 b5
  rw [octs1 ⟨p1, by omega⟩] at b2
  have e2 : rOct 0 7 os (n + 4) = .good c.st.2 (n + 4 + 1) := by
    unfold rOct
    rw [Beg.one_iff.mp b2]
    exact if_neg (by omega)
  have e1 := rNum_fwd (a := 1) (b := 4294967295) (v := 0) b1 (by rw [show (256 : Int) ^ 4 = 4294967296 by decide]; omega) k1 k2
  have e3 := rName_fwd (n := n + 4 + 1) b3 nm
  have e4 := rWord_fwd (a := 1) (b := 8) (n := n + 4 + 1 + (nameO c.nm).length) (by rw [Nat.add_assoc, Nat.add_assoc]; rw [Nat.add_assoc] at b4; exact b4) az (by omega) (by omega) (by omega)
  have e5 := rVa_fwd (n := n + 4 + 1 + (nameO c.nm).length + (wordO c.fd).length) (by
    rw [show n + 4 + 1 + (nameO c.nm).length + (wordO c.fd).length = n + (4 + 1 + (nameO c.nm).length + (wordO c.fd).length) by omega]; exact b5) va
  unfold rCh
  rw [Rd.go e1, Rd.go e2, Rd.go e3, Rd.go e4, Rd.go e5]
  show Rs.good (⟨(c.st.1, c.st.2), c.nm, c.fd, c.va⟩ : Ch) _ = _
  congr 1
  unfold chO
  simp only [List.length_append, octs_len]; omega
theorem rChs_back : ∀ {q : Nat} {cs : List Ch} {os : List Int} {n : Nat} {es : List Ch} {k : Nat}, rChs q cs os n = .good es k → ∃ ds : List Ch, es = cs ++ ds ∧ ds.length = q ∧ k = n + ((ds.map chO).flatten).length ∧ Beg os n (ds.map chO).flatten ∧ ∀ c ∈ ds, OkChL c
  | 0, cs, os, n, es, k, h => by
    cases h
    exact ⟨[], by simp, rfl, by simp, by simpa using Beg.nil _ _, by simp⟩
  | q + 1, cs, os, n, es, k, h => by
    obtain ⟨c, j, h1, h2⟩ := Rd.step_ok h
    obtain ⟨rfl, b1, ok⟩ := rCh_back h1
    obtain ⟨ds, rfl, hl, rfl, b2, ok2⟩ := rChs_back h2
    refine ⟨c :: ds, by simp, by rw [List.length_cons, hl], ?_, ?_, ?_⟩
    · rw [List.map_cons, List.flatten_cons, List.length_append]; omega
    · rw [List.map_cons, List.flatten_cons]
      exact Beg.join b1 b2
    · intro d hd
      rcases List.mem_cons.mp hd with rfl | hd
      · exact ok
      · exact ok2 d hd
theorem rChs_fwd : ∀ {ds cs : List Ch} {os : List Int} {n : Nat}, Beg os n (ds.map chO).flatten → (∀ c ∈ ds, OkChL c) → rChs ds.length cs os n = .good (cs ++ ds) (n + ((ds.map chO).flatten).length)
  | [], cs, os, n, _, _ => by simp [rChs, Rd.ret]
  | c :: ds, cs, os, n, h, ok => by
    rw [List.map_cons, List.flatten_cons] at h
    obtain ⟨h1, h2⟩ := h.app
    have e1 := rCh_fwd h1 (ok c (by simp))
    have ih := rChs_fwd (cs := cs ++ [c]) h2 fun d hd => ok d (by simp [hd])
    have e0 : rChs (c :: ds).length cs os n = (rCh.andThen fun c => rChs ds.length (cs ++ [c])) os n := rfl
    rw [e0, Rd.go e1, ih, List.append_assoc, List.map_cons, List.flatten_cons, List.length_append]
    congr 1; omega
/-- what is read has the octets that were read -/
theorem rMsg_back {os : List Int} {m : Msg} {k : Nat} (h : rMsg os 0 = .good m k) : os = msgO m.1 m.2.1 m.2.2 ∧ (0 ≤ m.1 ∧ m.1 ≤ 7) ∧ (0 ≤ m.2.1 ∧ m.2.1 ≤ 4294967295) ∧ m.2.2.length ≤ 65535 ∧ ∀ c ∈ m.2.2, OkChL c := by
  have hc := rMsg_chk h
  have hc : ∃ j, os = os.take j ++ chkO (os.take j) := hc
  obtain ⟨sd, j1, h1, h⟩ := Rd.step_ok h
  obtain ⟨rfl, _, e1, l1, l2⟩ := rOct_le h1
  obtain ⟨nr, j2, h2, h⟩ := Rd.step_ok h
  have g2 := rNum_range h2
  obtain ⟨rfl, _, b2⟩ := rNum_back h2
  obtain ⟨many, j3, h3, h⟩ := Rd.step_ok h
  have g3 := rNum_range h3
  obtain ⟨rfl, _, b3⟩ := rNum_back h3
  obtain ⟨cs, j4, h4, h⟩ := Rd.step_ok h
  obtain ⟨_, rfl, hl, rfl, b4, ok⟩ := rChs_back h4
  obtain ⟨_, j5, h5, h6⟩ := Rd.step_ok h
  cases h6
  have em : ((cs.length : Nat) : Int) = many := by omega
  have bB : Beg os 0 (msgB sd nr cs) := by
    unfold msgB
    rw [em]
    refine Beg.join (Beg.join (Beg.join ?_ ?_) ?_) ?_
    · rw [octs1 ⟨l1, by omega⟩]; exact Beg.one_iff.mpr e1
    · rw [octs_len]; exact b2
    · simp only [List.length_append, octs_len]; exact b3
    · simp only [List.length_append, octs_len]; exact b4
  -- the sum stancs behind
  have len : os.length = (msgB sd nr cs).length + 2 := by
    obtain ⟨_, i1, q1, q⟩ := Rd.step_ok h5
    obtain ⟨rfl, _⟩ := rOct_le q1
    obtain ⟨_, i2, q2, q⟩ := Rd.step_ok q
    obtain ⟨rfl, w2, _⟩ := rOct_le q2
    have : ¬ 0 + 1 + 4 + 2 + ((cs.map chO).flatten).length + 1 + 1 < os.length := by
      intro z
      unfold rEnd at q
      rw [if_pos z] at q
      cases q
    unfold msgB
    simp only [List.length_append, octs_len]; omega
  obtain ⟨j, hj⟩ := hc
  have tk : os.take (msgB sd nr cs).length = msgB sd nr cs := by
    unfold Beg at bB
    rwa [List.drop_zero] at bB
  have ej : (os.take j).length = (msgB sd nr cs).length := by
    have := congrArg List.length hj
    rw [List.length_append, show (chkO (os.take j)).length = 2 from rfl] at this
    omega
  have ej2 : os.take j = msgB sd nr cs := by
    rw [← tk, ← ej]
    rw [List.length_take]
    by_cases c : j ≤ os.length
    · rw [Nat.min_eq_left c]
    · rw [Nat.min_eq_right (by omega), List.take_length, List.take_of_length_le (by omega)]
  refine ⟨?_, ⟨l1, l2⟩, g2, ?_, ok⟩
  · rw [hj, ej2]; rfl
  · rw [hl]; omega
/-- a message's octets are read -/
theorem rMsg_fwd {sd nr : Int} {cs : List Ch} (hs : 0 ≤ sd ∧ sd ≤ 7) (hn : 0 ≤ nr ∧ nr ≤ 4294967295) (hl : cs.length ≤ 65535) (ok : ∀ c ∈ cs, OkChL c) : ∃ k, rMsg (msgO sd nr cs) 0 = .good (sd, nr, cs) k := by
  have b0 : Beg (msgO sd nr cs) 0 (msgB sd nr cs ++ chkO (msgB sd nr cs)) := by
    show ((msgO sd nr cs).drop 0).take (msgO sd nr cs).length = msgO sd nr cs
    rw [List.drop_zero, List.take_length]
  obtain ⟨bB, bC⟩ := b0.app
  rw [Nat.zero_add] at bC
  have tB : (msgO sd nr cs).take (msgB sd nr cs).length = msgB sd nr cs := List.take_left
  have oslen : (msgO sd nr cs).length = (msgB sd nr cs).length + 2 := by
    show (msgB sd nr cs ++ chkO (msgB sd nr cs)).length = _
    rw [List.length_append]; rfl
  have blen : (msgB sd nr cs).length = 7 + ((cs.map chO).flatten).length := by
    unfold msgB
    simp only [List.length_append, octs_len]
  have bB : Beg (msgO sd nr cs) 0 (octs sd 1 ++ octs nr 4 ++ octs (cs.length : Nat) 2 ++ (cs.map chO).flatten) := bB
  generalize msgO sd nr cs = os at bB bC tB oslen
  obtain ⟨b3, bF⟩ := bB.app
  obtain ⟨b2, bL⟩ := b3.app
  obtain ⟨bS, bN⟩ := b2.app
  simp only [List.length_append, octs_len, Nat.zero_add] at bF bL bN
  rw [octs1 ⟨hs.1, by omega⟩] at bS
  have e1 : rOct 0 7 os 0 = .good sd 1 := by
    unfold rOct
    rw [Beg.one_iff.mp bS]
    exact if_neg (by omega)
  have e2 := rNum_fwd (a := 0) (b := 4294967295) (v := 0) bN (by rw [show (256 : Int) ^ 4 = 4294967296 by decide]; omega) hn.1 hn.2
  have e3 := rNum_fwd (a := 0) (b := 65535) (v := 0) bL (by rw [show (256 : Int) ^ 2 = 65536 by decide]; omega) (by omega) (by omega)
  have e4 := rChs_fwd (cs := []) bF ok
  have bC : Beg os (msgB sd nr cs).length ([((msgB sd nr cs).foldl sumS (0, 0)).2] ++ [((msgB sd nr cs).foldl sumS (0, 0)).1]) := bC
  obtain ⟨c1, c2⟩ := bC.app
  have c1 := Beg.one_iff.mp c1
  have c2 := Beg.one_iff.mp c2
  have e5 : rSum os (msgB sd nr cs).length = .good () ((msgB sd nr cs).length + 1 + 1) := by
    unfold rSum
    rw [tB]
    generalize ((msgB sd nr cs).foldl sumS (0, 0)).2 = hi at c1 c2 ⊢
    generalize ((msgB sd nr cs).foldl sumS (0, 0)).1 = lo at c2 ⊢
    have q1 : rOct hi hi os (msgB sd nr cs).length = .good hi ((msgB sd nr cs).length + 1) := by
      unfold rOct
      rw [c1]
      exact if_neg (by omega)
    have q2 : rOct lo lo os ((msgB sd nr cs).length + 1) = .good lo ((msgB sd nr cs).length + 1 + 1) := by
      unfold rOct
      rw [show os[(msgB sd nr cs).length + 1]? = some lo from c2]
      exact if_neg (by omega)
    rw [Rd.go q1, Rd.go q2]
    unfold rEnd
    exact if_neg (by omega)
  refine ⟨(msgB sd nr cs).length + 1 + 1, ?_⟩
  unfold rMsg
  rw [Rd.go e1, Rd.go e2, Rd.go e3, Int.toNat_natCast, Rd.go e4, show 1 + 4 + 2 + ((cs.map chO).flatten).length = (msgB sd nr cs).length by omega, Rd.go e5]
  rfl
end

/-! ### replicas: where they stand -/
section
variable {P : Program} {w : World} {K : PySem.W.Frag} {mg : Str → Option Value} {base : Heap} {C CS : Addr}
abbrev peerS : Str := Str.ofString "peer"
abbrev clockS : Str := Str.ofString "clock"
abbrev madeS : Str := Str.ofString "made"
abbrev stateS : Str := Str.ofString "state"
abbrev rootsS : Str := Str.ofString "roots"
abbrev pendingS : Str := Str.ofString "pending"
abbrev messagesS : Str := Str.ofString "messages"
/-- messages: name, where its list stands, the changes -/
abbrev MRow := Nm × Addr × List Ch
def mKvs (rs : List MRow) : List NKV := rs.map fun r => ((nmD r.1).key, .ref r.2.1)
structure MB (P : Program) (w : World) (K : PySem.W.Frag) (H : Hp) (d : Addr) (rs : List MRow) : Prop where
  nd : ND P w K H d (mKvs rs)
  at_ : ∀ r ∈ rs, ∃ vs, H r.2.1 = some (.lst vs) ∧ DtsAt K H vs (r.2.2.map chD)
  names : (rs.map (·.1)).Nodup
theorem MB.stp {H H1 : Hp} {M : List Addr} {d : Addr} {rs : List MRow} (h : MB P w K H d rs) (s : Stp M H H1) (n : d ∉ M) (m : ∀ r ∈ rs, r.2.1 ∉ M) : MB P w K H1 d rs :=
  ⟨h.nd.stp s n, fun r hr => let ⟨vs, a, b⟩ := h.at_ r hr; ⟨vs, s.keep _ _ a (m r hr), chs_stp b s⟩, h.names⟩
structure RA where
  r : Addr
  dx : Addr
  st : Addr
  sx : Addr
  d : Addr
  rl : Addr
  pl : Addr
  ml : Addr
structure RS where
  p : Int
  ck : Int
  bg : Int
  cl : List Cel
  rts : List Nm
  pd : List Ch
  ms : List MRow
abbrev rpF (a : RA) (p ck mk : Int) : List (Str × V) := [(peerS, .int p), (clockS, .int ck), (madeS, .int mk), (stateS, .ref a.st), (rootsS, .ref a.rl), (pendingS, .ref a.pl), (messagesS, .ref a.ml)]
def foot (a : RA) (ms : List MRow) : List Addr := [a.r, a.st, a.d, a.rl, a.pl, a.ml] ++ ms.map (·.2.1)
structure RpAt (P : Program) (w : World) (K : PySem.W.Frag) (C CS : Addr) (H : Hp) (a : RA) (s : RS) : Prop where
  at_ : H a.r = some (.ins C a.dx (rpF a s.p s.ck s.bg))
  S : StA P w K CS H a.st a.sx a.d s.cl
  rw : ∃ ws, H a.rl = some (.lst ws) ∧ DtsAt K H ws (s.rts.map nmD)
  pw : ∃ ws, H a.pl = some (.lst ws) ∧ DtsAt K H ws (s.pd.map chD)
  mw : MB P w K H a.ml s.ms
  n1 : a.rl ≠ a.pl
  n2 : a.d ≠ a.ml
  n3 : ∀ m ∈ s.ms, m.2.1 ≠ a.rl ∧ m.2.1 ≠ a.pl
  nk : (keysOf s.cl).Nodup
structure RpC (K : PySem.W.Frag) (C : Addr) : Prop where
  cls : Cls K C
  peer : NoAttr K C "peer"
  clock : NoAttr K C "clock"
  made : NoAttr K C "made"
  state : NoAttr K C "state"
  roots : NoAttr K C "roots"
  pending : NoAttr K C "pending"
  messages : NoAttr K C "messages"
theorem RpAt.stp {H H1 : Hp} {M : List Addr} {a : RA} {s : RS} (h : RpAt P w K C CS H a s) (t : Stp M H H1) (n : ∀ x ∈ foot a s.ms, x ∉ M) : RpAt P w K C CS H1 a s := by
  have f : ∀ x, x ∈ [a.r, a.st, a.d, a.rl, a.pl, a.ml] → x ∉ M := fun x hx => n x (List.mem_append_left _ hx)
  obtain ⟨rw, r1, r2⟩ := h.rw
  obtain ⟨pw, p1, p2⟩ := h.pw
  exact ⟨t.keep _ _ h.at_ (f _ (by simp)), h.S.stp t (f _ (by simp)) (f _ (by simp)), ⟨rw, t.keep _ _ r1 (f _ (by simp)), DtsAt.stp t _ _ (nms_flat _) r2⟩, ⟨pw, t.keep _ _ p1 (f _ (by simp)), chs_stp p2 t⟩,
    h.mw.stp t (f _ (by simp)) fun r hr => n _ (List.mem_append_right _ (List.mem_map.mpr ⟨r, hr, rfl⟩)), h.n1, h.n2, h.n3, h.nk⟩
theorem RpAt.grow {H H1 : Hp} {a : RA} {s : RS} (h : RpAt P w K C CS H a s) (t : Stp [] H H1) : RpAt P w K C CS H1 a s := h.stp t fun _ _ => by simp
/-- its parts are different objects -/
theorem RpAt.r_st {H : Hp} {a : RA} {s : RS} (h : RpAt P w K C CS H a s) : a.r ≠ a.st := fun e => by
  have h1 := h.at_
  have h2 := h.S.at_
  unfold SAt at h2
  rw [e, h2] at h1
  injection h1 with h1
  injection h1 with _ _ h1
  exact absurd (congrArg List.length h1) (by simp)
theorem RpAt.d_ext {H : Hp} {a : RA} {s : RS} (h : RpAt P w K C CS H a s) : ∃ o, H a.d = some o ∧ (∀ xs, o ≠ .lst xs) ∧ (∀ c x f, o ≠ .ins c x f) := by
  obtain ⟨_, kvs, ⟨xs, e, _⟩, _⟩ := h.S
  exact ⟨_, e, (fun _ z => nomatch z), (fun _ _ _ z => nomatch z)⟩
theorem RpAt.ml_ext {H : Hp} {a : RA} {s : RS} (h : RpAt P w K C CS H a s) : ∃ o, H a.ml = some o ∧ (∀ xs, o ≠ .lst xs) ∧ (∀ c x f, o ≠ .ins c x f) := by
  obtain ⟨⟨xs, e, _⟩, _, _⟩ := h.mw
  exact ⟨_, e, (fun _ z => nomatch z), (fun _ _ _ z => nomatch z)⟩
theorem RpAt.st_d {H : Hp} {a : RA} {s : RS} (h : RpAt P w K C CS H a s) : a.st ≠ a.d := fun e => by
  obtain ⟨o, e1, _, e2⟩ := h.d_ext
  have h2 := h.S.at_
  unfold SAt at h2
  rw [e, e1] at h2
  exact e2 _ _ _ (Option.some.inj h2)
theorem RpAt.r_d {H : Hp} {a : RA} {s : RS} (h : RpAt P w K C CS H a s) : a.r ≠ a.d := fun e => by
  obtain ⟨o, e1, _, e2⟩ := h.d_ext
  have h2 := h.at_
  rw [e, e1] at h2
  exact e2 _ _ _ (Option.some.inj h2)
theorem RpAt.r_ml {H : Hp} {a : RA} {s : RS} (h : RpAt P w K C CS H a s) : a.r ≠ a.ml := fun e => by
  obtain ⟨o, e1, _, e2⟩ := h.ml_ext
  have h2 := h.at_
  rw [e, e1] at h2
  exact e2 _ _ _ (Option.some.inj h2)
theorem RpAt.st_ml {H : Hp} {a : RA} {s : RS} (h : RpAt P w K C CS H a s) : a.st ≠ a.ml := fun e => by
  obtain ⟨o, e1, _, e2⟩ := h.ml_ext
  have h2 := h.S.at_
  unfold SAt at h2
  rw [e, e1] at h2
  exact e2 _ _ _ (Option.some.inj h2)
/-- the lists among them -/
theorem RpAt.lst {H : Hp} {a : RA} {s : RS} (h : RpAt P w K C CS H a s) {x : Addr} (e : ∃ xs, H x = some (.lst xs)) : x ≠ a.r ∧ x ≠ a.st ∧ x ≠ a.d ∧ x ≠ a.ml := by
  obtain ⟨xs, e⟩ := e
  refine ⟨?_, ?_, ?_, ?_⟩
  · rintro rfl
    rw [h.at_] at e; cases e
  · rintro rfl
    have h2 := h.S.at_
    unfold SAt at h2
    rw [h2] at e; cases e
  · rintro rfl
    obtain ⟨o, e1, e2, _⟩ := h.d_ext
    rw [e1] at e
    exact e2 _ (Option.some.inj e)
  · rintro rfl
    obtain ⟨o, e1, e2, _⟩ := h.ml_ext
    rw [e1] at e
    exact e2 _ (Option.some.inj e)
theorem RpAt.rl_at {H : Hp} {a : RA} {s : RS} (h : RpAt P w K C CS H a s) : ∃ xs, H a.rl = some (.lst xs) := let ⟨ws, e, _⟩ := h.rw; ⟨ws, e⟩
theorem RpAt.pl_at {H : Hp} {a : RA} {s : RS} (h : RpAt P w K C CS H a s) : ∃ xs, H a.pl = some (.lst xs) := let ⟨ws, e, _⟩ := h.pw; ⟨ws, e⟩
theorem RpAt.m_at {H : Hp} {a : RA} {s : RS} (h : RpAt P w K C CS H a s) {m : MRow} (hm : m ∈ s.ms) : ∃ xs, H m.2.1 = some (.lst xs) := let ⟨ws, e, _⟩ := h.mw.at_ m hm; ⟨ws, e⟩
theorem RpAt.r_foot {H : Hp} {a : RA} {s : RS} (_ : RpAt P w K C CS H a s) : a.r ∈ foot a s.ms := by simp [foot]
/-- all of them stand in the heap -/
theorem RpAt.there {H : Hp} {a : RA} {s : RS} (h : RpAt P w K C CS H a s) {x : Addr} (hx : x ∈ foot a s.ms) : H x ≠ none := by
  intro z
  rcases List.mem_append.mp hx with hx | hx
  · have hd := h.d_ext
    have hm := h.ml_ext
    have hr := h.rl_at
    have hp := h.pl_at
    simp only [List.mem_cons, List.not_mem_nil, or_false] at hx
    rcases hx with rfl | rfl | rfl | rfl | rfl | rfl
    · rw [h.at_] at z; cases z
    · have h2 := h.S.at_
      unfold SAt at h2
      rw [h2] at z; cases z
    · obtain ⟨o, e, _⟩ := hd
      rw [e] at z; cases z
    · obtain ⟨o, e⟩ := hr
      rw [e] at z; cases z
    · obtain ⟨o, e⟩ := hp
      rw [e] at z; cases z
    · obtain ⟨o, e, _⟩ := hm
      rw [e] at z; cases z
  · obtain ⟨m, hm, rfl⟩ := List.mem_map.mp hx
    obtain ⟨xs, e⟩ := h.m_at hm
    rw [e] at z; cases z
/-- what a replica's object says -/
theorem fld_peer (a : RA) (p ck mk : Int) : (rpF a p ck mk).lookup ("peer" : Str) = some (.int p) := rfl
theorem fld_clock (a : RA) (p ck mk : Int) : (rpF a p ck mk).lookup ("clock" : Str) = some (.int ck) := rfl
theorem fld_made (a : RA) (p ck mk : Int) : (rpF a p ck mk).lookup ("made" : Str) = some (.int mk) := rfl
theorem fld_state (a : RA) (p ck mk : Int) : (rpF a p ck mk).lookup ("state" : Str) = some (.ref a.st) := rfl
theorem fld_roots (a : RA) (p ck mk : Int) : (rpF a p ck mk).lookup ("roots" : Str) = some (.ref a.rl) := rfl
theorem fld_pending (a : RA) (p ck mk : Int) : (rpF a p ck mk).lookup ("pending" : Str) = some (.ref a.pl) := rfl
theorem fld_messages (a : RA) (p ck mk : Int) : (rpF a p ck mk).lookup ("messages" : Str) = some (.ref a.ml) := rfl
theorem put_clock (a : RA) (p ck mk c : Int) : putF ("clock" : Str) (.int c) (rpF a p ck mk) = rpF a p c mk := rfl
theorem put_made (a : RA) (p ck mk c : Int) : putF ("made" : Str) (.int c) (rpF a p ck mk) = rpF a p ck c := rfl
theorem put_pending (a : RA) (p ck mk : Int) (x : Addr) : putF ("pending" : Str) (.ref x) (rpF a p ck mk) = rpF { a with pl := x } p ck mk := rfl
end

/-! ### replicas: what they do -/
section
variable {P : Program} {w : World} {K : PySem.W.Frag} {mg : Str → Option Value} {base : Heap} {C CS NO ro : Addr}
/-- a field is written -/
theorem i_setF {Q : L2.St → Hp → Prop} {σ : L2.St} {H : Hp} {a c dx : Addr} {fs fs' : List (Str × V)} (e : H a = some (.ins c dx fs)) (h : ∀ H1, H1 a = some (.ins c dx fs') → Stp [a] H H1 → Q σ H1) : Q σ (upd H a (.ins c dx fs')) :=
  h _ upd_same (.wr (by simp) e fun _ z => nomatch z)
def spRpInit (P : Program) (w : World) (K : PySem.W.Frag) (C CS : Addr) : Sp := fun vs H Q _ => ∃ (x dx : Addr) (p : Int), vs = [.ref x, .int p] ∧ 0 ≤ p ∧ p ≤ 7 ∧ H x = some (.ins C dx []) ∧
  ∀ (a : RA) (H1 : Hp), a.r = x → RpAt P w K C CS H1 a ⟨p, 0, if p = 0 then 1 else 0, [], [(0, 0)], [], []⟩ → Stp [x] H H1 → (∀ y ∈ foot a [], y = x ∨ H y = none) → Q .non H1
theorem mki_Replica_init (F : Dfi K mg C "Replica" d_Replica_init) (S : RpC K C) (hROOT : mg "ROOT" = some (.ref ro)) (tro : ∀ H, TupAt K H ro [.int 0, .int 0]) (C_is_peer : Cal P w K mg base lv_is_peer "is_peer" ["number"] spIsPeer) (I_State : Mki P w K mg base lv_State_init CS "State" ["self"] (spInit P w K CS)) : Mki P w K mg base lv_Replica_init C "Replica" ["self", "peer"] (spRpInit P w K C CS) := by
  obtain ⟨f, fd, F, g⟩ := F
  refine ⟨f, fd, F.ok sc_Replica_init (fun vs H Q E h => ?_) (fun cdv A outer s H vs Q E hr h => ⟨_, PSs.nox
    (pss_cons (ps_if (pt_not (pt_val (pc_call C_is_peer (hr.mono (by decide)) (by rfl) (pa_cons (pv 1) pa_nil))))
      (pss_one ps_never)
      pss_nil)
    (pss_cons (ps_fld (pv 0) (pv 1) rfl)
    (pss_cons (ps_fld (pv 0) pe_int rfl)
    (pss_cons (ps_fld (pv 0) (pe_ifExp (pt_cmpR op_eq (pv 1) (pe_ix (ix_tupK (K := K) rfl) (pe_gt rfl hROOT) pe_int (fun _ _ => rfl)) (nomark _)) pe_int pe_int) rfl)
    (pss_cons (ps_fld (pv 0) (pc_make0 I_State (hr.mono (by decide)) (by rfl)) rfl)
    (pss_cons (ps_fld (pv 0) (pe_lst (pa_cons (pe_gt rfl hROOT) pa_nil)) rfl)
    (pss_cons (ps_fld (pv 0) (pe_lst pa_nil) rfl)
    (pss_one (ps_fld (pv 0) pe_dnewN rfl))))))))), ?_⟩), g, F.kp, F.bindsN fun _ _ _ _ _ _ us hl => match us, hl with | [_, _], _ => rfl⟩
  · obtain ⟨x, dx, p, rfl, _⟩ := h
    rfl
  · obtain ⟨x, dx, p, rfl, p0, p7, hx, q⟩ := h
    repeat walk_at "h"
    refine ⟨p, rfl, ?_⟩
    have ok : okPeer p = true := by simp [okPeer, p0, p7]
    rw [ok]
    repeat walk_at "h"
    refine iteF ?_
    repeat walk_at "h"
    refine ⟨x, C, dx, [], rfl, hx, S.cls, S.peer, by decide, i_setF hx fun H1 x1 s1 => ?_⟩
    repeat walk_at "h"
    refine ⟨x, C, dx, _, rfl, x1, S.cls, S.clock, (show 1 < 1000 by decide), i_setF x1 fun H2 x2 s2 => ?_⟩
    repeat walk_at "h"
    refine i_IxT (tro _).sqt (at_of (j := 0) rfl rfl) ?_
    repeat walk_at "h"
    refine i_iteD (fun e => ?g1) (fun e => ?g2)
    case' g1 =>
      have e : p = 0 := by injection e
      rw [if_pos e] at q
    case' g2 =>
      have e : ¬ p = 0 := fun z => e (by rw [z])
      rw [if_neg e] at q
    all_goals
      repeat walk_at "h"
      refine ⟨x, C, dx, _, rfl, x2, S.cls, S.made, (show 2 < 1000 by decide), i_setF x2 fun H3 x3 s3 => ?_⟩
      have s03 := (s1.trans s2).trans s3
      clear s1 s2 s3 x1 x2
      repeat walk_at "h"
      refine fun st sx nst nsx ne => ⟨st, sx, rfl, upd_same, fun d H4 nd0 S4 n4 s4 => ⟨rfl, ?_⟩⟩
      have sm : Stp [] H3 (upd (upd H3 sx (.own st)) st (.ins CS sx [])) := (Stp.new nsx).add (by rw [upd_ne (Ne.symm ne)]; exact nst)
      have sx' : x ≠ st := ne_of_none x3 nst
      have nstH : H st = none := s03.free nst (by simpa using sx'.symm)
      have x4 := s4.keep _ _ (sm.keep _ _ x3 (by simp)) (by simpa using sx')
      have s04 : Stp [x] H H4 := (s03.trans (sm.mono (by simp))).into nstH (s4.mono (by simp))
      have ndx : d ≠ x := fun z => by rw [z, sm.keep _ _ x3 (by simp)] at nd0; cases nd0
      have ndH : H d = none := s03.free (sm.free nd0 (by simp)) (by simpa using ndx)
      clear s03 x3 sm s4 nst nsx nd0
      repeat walk_at "h"
      refine ⟨x, C, dx, _, rfl, x4, S.cls, S.state, (show 3 < 1000 by decide), i_setF x4 fun H5 x5 s5 => ?_⟩
      have S5 : SAt CS H5 st sx d := s5.keep _ _ S4 (by simpa using sx'.symm)
      have n5 := n4.stp s5 (by simpa using ndx)
      have s05 := s04.trans s5
      clear s04 s5 S4 n4 x4
      repeat walk_at "h"
      refine ⟨(by decide : 1 ≤ sizeLine), fun rl nrl => ?_⟩
      have s6 : Stp [] H5 (upd H5 rl (.lst [.ref ro])) := .new nrl
      have r6 : upd H5 rl (.lst [.ref ro]) rl = some (.lst [.ref ro]) := upd_same
      have rx : rl ≠ x := fun z => by rw [z, x5] at nrl; cases nrl
      have nrlH : H rl = none := s05.free nrl (by simpa using rx)
      have rst : st ≠ rl := ne_of_none S5 nrl
      generalize upd H5 rl (.lst [.ref ro]) = H6 at s6 r6 ⊢
      repeat walk_at "h"
      refine ⟨x, C, dx, _, rfl, s6.keep _ _ x5 (by simp), S.cls, S.roots, (show 4 < 1000 by decide), i_setF (s6.keep _ _ x5 (by simp)) fun H7 x7 s7 => ?_⟩
      have s57 := (s6.mono (M' := [x]) (by simp)).trans s7
      have S7 : SAt CS H7 st sx d := s57.keep _ _ S5 (by simpa using sx'.symm)
      have n7 := n5.stp s57 (by simpa using ndx)
      have r7 := s7.keep _ _ r6 (by simpa using rx)
      have s07 := s05.trans s57
      clear s05 s57 s6 s7 S5 n5 r6 x5 nrl
      repeat walk_at "h"
      refine ⟨(by decide : 0 ≤ sizeLine), fun pl npl => ?_⟩
      have s8 : Stp [] H7 (upd H7 pl (.lst [])) := .new npl
      have p8 : upd H7 pl (.lst []) pl = some (.lst []) := upd_same
      have px : pl ≠ x := fun z => by rw [z, x7] at npl; cases npl
      have nplH : H pl = none := s07.free npl (by simpa using px)
      have rp : rl ≠ pl := ne_of_none r7 npl
      generalize upd H7 pl (.lst []) = H8 at s8 p8 ⊢
      repeat walk_at "h"
      refine ⟨x, C, dx, _, rfl, s8.keep _ _ x7 (by simp), S.cls, S.pending, (show 5 < 1000 by decide), i_setF (s8.keep _ _ x7 (by simp)) fun H9 x9 s9 => ?_⟩
      have s79 := (s8.mono (M' := [x]) (by simp)).trans s9
      have S9 : SAt CS H9 st sx d := s79.keep _ _ S7 (by simpa using sx'.symm)
      have n9 := n7.stp s79 (by simpa using ndx)
      have r9 := s79.keep _ _ r7 (by simpa using rx)
      have p9 := s9.keep _ _ p8 (by simpa using px)
      have s09 := s07.trans s79
      clear s07 s79 s8 s9 S7 n7 r7 p8 x7 npl
      repeat walk_at "h"
      intro ml H10 nml m10 s10
      have mx : ml ≠ x := fun z => by rw [z, x9] at nml; cases nml
      have nmlH : H ml = none := s09.free nml (by simpa using mx)
      have dm : d ≠ ml := by
        obtain ⟨o, e, _⟩ := n9.ext
        exact ne_of_none e nml
      repeat walk_at "h"
      refine ⟨x, C, dx, _, rfl, s10.keep _ _ x9 (by simp), S.cls, S.messages, (show 6 < 1000 by decide), i_setF (s10.keep _ _ x9 (by simp)) fun H11 x11 s11 => ?_⟩
      have s911 := (s10.mono (M' := [x]) (by simp)).trans s11
      refine q ⟨x, dx, st, sx, d, rl, pl, ml⟩ H11 rfl ⟨x11, ⟨s911.keep _ _ S9 (by simpa using sx'.symm), [], n9.stp s911 (by simpa using ndx), .nil⟩, ⟨_, s911.keep _ _ r9 (by simpa using rx), .cons (.tup (tro _) (.cons (.num _) (.cons (.num _) .nil))) .nil⟩, ⟨_, s911.keep _ _ p9 (by simpa using px), .nil⟩, ⟨m10.stp s11 (by simpa using mx), by simp, by simp⟩, rp, dm, by simp, .nil⟩ (s09.trans s911) ?_
      intro y hy
      simp only [foot, List.map_nil, List.append_nil, List.mem_cons, List.not_mem_nil, or_false] at hy
      rcases hy with rfl | rfl | rfl | rfl | rfl | rfl
      · exact .inl rfl
      · exact .inr nstH
      · exact .inr ndH
      · exact .inr nrlH
      · exact .inr nplH
      · exact .inr nmlH
end

section
variable {P : Program} {w : World} {K : PySem.W.Frag} {mg : Str → Option Value} {base : Heap} {C CS NO ro : Addr}
theorem RpAt.obj {H H1 : Hp} {a : RA} {s : RS} {ck bg : Int} (h : RpAt P w K C CS H a s) (t : Stp [a.r] H H1) (e : H1 a.r = some (.ins C a.dx (rpF a s.p ck bg))) : RpAt P w K C CS H1 a { s with ck := ck, bg := bg } := by
  obtain ⟨rw, r1, r2⟩ := h.rw
  obtain ⟨pw, p1, p2⟩ := h.pw
  have l1 := (h.lst ⟨rw, r1⟩).1
  have l2 := (h.lst ⟨pw, p1⟩).1
  exact ⟨e, h.S.stp t (by simpa using h.r_st.symm) (by simpa using h.r_d.symm), ⟨rw, t.keep _ _ r1 (by simpa using l1), DtsAt.stp t _ _ (nms_flat _) r2⟩, ⟨pw, t.keep _ _ p1 (by simpa using l2), chs_stp p2 t⟩,
    h.mw.stp t (by simpa using h.r_ml.symm) (fun r hr => by simpa using (h.lst (h.m_at hr)).1), h.n1, h.n2, h.n3, h.nk⟩
theorem RpAt.cells {H H1 : Hp} {a : RA} {s : RS} {cl : List Cel} (h : RpAt P w K C CS H a s) (t : Stp [a.d] H H1) (S : StA P w K CS H1 a.st a.sx a.d cl) (nk : (keysOf cl).Nodup) : RpAt P w K C CS H1 a { s with cl := cl } := by
  obtain ⟨rw, r1, r2⟩ := h.rw
  obtain ⟨pw, p1, p2⟩ := h.pw
  have l1 := (h.lst ⟨rw, r1⟩).2.2.1
  have l2 := (h.lst ⟨pw, p1⟩).2.2.1
  exact ⟨t.keep _ _ h.at_ (by simpa using h.r_d), S, ⟨rw, t.keep _ _ r1 (by simpa using l1), DtsAt.stp t _ _ (nms_flat _) r2⟩, ⟨pw, t.keep _ _ p1 (by simpa using l2), chs_stp p2 t⟩,
    h.mw.stp t (by simpa using h.n2.symm) (fun r hr => by simpa using (h.lst (h.m_at hr)).2.2.1), h.n1, h.n2, h.n3, nk⟩
theorem RpAt.pend {H H1 : Hp} {a : RA} {s : RS} {pd : List Ch} (h : RpAt P w K C CS H a s) (t : Stp [a.pl] H H1) (e : ∃ ws, H1 a.pl = some (.lst ws) ∧ DtsAt K H1 ws (pd.map chD)) : RpAt P w K C CS H1 a { s with pd := pd } := by
  obtain ⟨rw, r1, r2⟩ := h.rw
  have l2 := h.lst h.pl_at
  exact ⟨t.keep _ _ h.at_ (by simpa using l2.1.symm), h.S.stp t (by simpa using l2.2.1.symm) (by simpa using l2.2.2.1.symm), ⟨rw, t.keep _ _ r1 (by simpa using h.n1), DtsAt.stp t _ _ (nms_flat _) r2⟩, e,
    h.mw.stp t (by simpa using l2.2.2.2.symm) (fun r hr => by simpa using (h.n3 r hr).2), h.n1, h.n2, h.n3, h.nk⟩
theorem RpAt.rootl {H H1 : Hp} {a : RA} {s : RS} {rts : List Nm} (h : RpAt P w K C CS H a s) (t : Stp [a.rl] H H1) (e : ∃ ws, H1 a.rl = some (.lst ws) ∧ DtsAt K H1 ws (rts.map nmD)) : RpAt P w K C CS H1 a { s with rts := rts } := by
  obtain ⟨pw, p1, p2⟩ := h.pw
  have l2 := h.lst h.rl_at
  exact ⟨t.keep _ _ h.at_ (by simpa using l2.1.symm), h.S.stp t (by simpa using l2.2.1.symm) (by simpa using l2.2.2.1.symm), e, ⟨pw, t.keep _ _ p1 (by simpa using h.n1.symm), chs_stp p2 t⟩,
    h.mw.stp t (by simpa using l2.2.2.2.symm) (fun r hr => by simpa using (h.n3 r hr).1), h.n1, h.n2, h.n3, h.nk⟩
def spBegin (P : Program) (w : World) (K : PySem.W.Frag) (C CS : Addr) : Sp := fun vs H Q _ => ∃ (a : RA) (s : RS), vs = [.ref a.r] ∧ RpAt P w K C CS H a s ∧
  ∀ (v : V) (H1 : Hp), RpAt P w K C CS H1 a { s with bg := s.bg + 1 } → Stp [a.r] H H1 → DtAt K H1 v (nmD (s.p, s.bg)) → Q v H1
theorem mth_Replica_begin (F : Dfm K C d_Replica_begin) (S : RpC K C) : Mth P w K mg base lv_Replica_begin C "begin" ["self"] (spBegin P w K C CS) := by
  obtain ⟨f, fd, F, g⟩ := F
  refine ⟨f, fd, F.ok sc_Replica_begin (fun vs H Q E h => ?_) (fun cdv A outer s H vs Q E hr h => ⟨_, PSs.nox
    (pss_cons (ps_fldaug (pv 0) pe_int in_add)
    (pss_one (ps_ret (pe_tup (pa_cons (pe_fld (pv 0) rfl) (pa_cons (pe_op op_sub (pe_fld (pv 0) rfl) pe_int) pa_nil)))))), ?_⟩), g, F.kp, F.bindsN fun _ _ _ _ _ _ us hl => match us, hl with | [_], _ => rfl⟩
  · obtain ⟨a, s, rfl, _⟩ := h
    rfl
  · obtain ⟨a, s, rfl, R, q⟩ := h
    repeat walk_at "h"
    refine ⟨_, rfl, a.r, C, a.dx, _, _, rfl, R.at_, S.cls, S.made, rfl, ?_⟩
    repeat walk_at "h"
    refine ⟨_, _, rfl, rfl, a.dx, _, R.at_, (show 7 < 1000 by decide), i_setF R.at_ fun H1 x1 s1 => ?_⟩
    have R1 : RpAt P w K C CS H1 a { s with bg := s.bg + 1 } := R.obj s1 x1
    repeat walk_at "h"
    refine ⟨a.r, C, a.dx, _, _, rfl, R1.at_, S.cls, S.peer, rfl, ?_⟩
    repeat walk_at "h"
    refine ⟨a.r, C, a.dx, _, _, rfl, R1.at_, S.cls, S.made, rfl, ?_⟩
    repeat walk_at "h"
    refine ⟨(by decide : 2 ≤ sizeLine), fun t nt => ?_⟩
    have s2 : Stp [] H1 (upd H1 t (.tup [.int s.p, .int (s.bg + 1 - 1)])) := .new nt
    refine q _ _ (R1.grow s2) (s1.trans (s2.mono (by simp))) ?_
    have e : s.bg + 1 - 1 = s.bg := by omega
    refine nm_mk ?_
    rw [upd_same, e]
/-- a field set -/
def setR (s : RS) (c : Ch) : RS := { s with ck := s.ck + 1, cl := stpC s.cl c, pd := s.pd ++ [c] }
def spSetF (P : Program) (w : World) (K : PySem.W.Frag) (C CS : Addr) : Sp := fun vs H Q _ => ∃ (a : RA) (s : RS) (nv v : V) (n : Nm) (z : Str) (x : Va), vs = [.ref a.r, nv, .str z, v] ∧ RpAt P w K C CS H a s ∧ DtAt K H nv (nmD n) ∧ DtAt K H v (vaD x) ∧ s.cl.length ≤ 900 ∧ s.pd.length ≤ 900 ∧
  ∀ (u : V) (H1 : Hp), RpAt P w K C CS H1 a (setR s ⟨(s.ck + 1, s.p), n, z, x⟩) → Stp [a.r, a.d, a.pl] H H1 → DtAt K H1 u (chD ⟨(s.ck + 1, s.p), n, z, x⟩) → Q u H1
end

/-! ### messages that are taken in -/
section
variable {P : Program} {w : World} {K : PySem.W.Frag} {mg : Str → Option Value} {base : Heap} {C CS CE : Addr}
def takeR (s : RS) (c : Ch) : RS := { s with cl := stpC s.cl c, ck := if c.st.1 > s.ck then c.st.1 else s.ck, bg := if c.nm.1 = s.p then (if c.nm.2 + 1 > s.bg then c.nm.2 + 1 else s.bg) else s.bg }
theorem takeR_p (s : RS) (c : Ch) : (takeR s c).p = s.p := rfl
theorem takeR_ms (s : RS) (c : Ch) : (takeR s c).ms = s.ms := rfl
def spTakeR (P : Program) (w : World) (K : PySem.W.Frag) (C CS : Addr) : Sp := fun vs H Q _ => ∃ (a : RA) (s : RS) (v : V) (c : Ch), vs = [.ref a.r, v] ∧ RpAt P w K C CS H a s ∧ DtAt K H v (chD c) ∧ s.cl.length ≤ 1000 ∧
  ∀ H1, RpAt P w K C CS H1 a (takeR s c) → Stp [a.r, a.d] H H1 → Q .non H1
theorem mth_Replica_take (F : Dfm K C d_Replica_take) (B : Blt mg) (S : RpC K C) (CL_State : Cls K CS) (M_State_take : Mth P w K mg base lv_State_take CS "take" ["self", "change"] (spTake P w K CS)) : Mth P w K mg base lv_Replica_take C "_take" ["self", "change"] (spTakeR P w K C CS) := by
  obtain ⟨f, fd, F, g⟩ := F
  refine ⟨f, fd, F.ok sc_Replica_take (fun vs H Q E h => ?_) (fun cdv A outer s H vs Q E hr h => ⟨_, PSs.nox
    (pss_cons (ps_asg (pv 1) (pg_tup (by rfl) (pgs_cons (pg_tup (by rfl) (pgs_cons (pg_name (i := 2) sc_Replica_take.nd rfl (Or.inl rfl)) (pgs_cons (pg_name (i := 3) sc_Replica_take.nd rfl (Or.inl rfl)) pgs_nil))) (pgs_cons (pg_tup (by rfl) (pgs_cons (pg_name (i := 4) sc_Replica_take.nd rfl (Or.inl rfl)) (pgs_cons (pg_name (i := 5) sc_Replica_take.nd rfl (Or.inl rfl)) pgs_nil))) (pgs_cons (pg_name (i := 3) sc_Replica_take.nd rfl (Or.inl rfl)) (pgs_cons (pg_name (i := 3) sc_Replica_take.nd rfl (Or.inl rfl)) pgs_nil))))))
    (pss_cons (ps_expr (pc_meth (pe_fld (pv 0) rfl) CL_State M_State_take (hr.mono (by decide)) (pa_cons (pv 1) pa_nil)))
    (pss_cons (ps_fld (pv 0) (pe_callB (call_max2 rfl) (by rfl) B.max (by decide +kernel) (pa_cons (pe_fld (pv 0) rfl) (pa_cons (pv 2) pa_nil))) rfl)
    (pss_one (ps_if (pt_cmpR op_eq (pv 4) (pe_fld (pv 0) rfl) (nomark _))
      (pss_one (ps_fld (pv 0) (pe_callB (call_max2 rfl) (by rfl) B.max (by decide +kernel) (pa_cons (pe_fld (pv 0) rfl) (pa_cons (pe_op op_add (pv 5) pe_int) pa_nil))) rfl))
      pss_nil))))), ?_⟩), g, F.kp, F.bindsN fun _ _ _ _ _ _ us hl => match us, hl with | [_, _], _ => rfl⟩
  · obtain ⟨a, s, v, c, rfl, _⟩ := h
    rfl
  · obtain ⟨a, s, v, c, rfl, R, hv0, cl9, q⟩ := h
    obtain ⟨ca, sv, nv, vv, rfl, ht, hs, hn, hv⟩ := chAt hv0
    obtain ⟨sa, rfl, hsa⟩ := nmAt hs
    obtain ⟨na, rfl, hna⟩ := nmAt hn
    repeat walk_at "h"
    refine i_gTup ht.sqt rfl ?_
    repeat walk_at "h"
    refine i_gTup hsa.sqt rfl ?_
    repeat walk_at "h"
    refine i_gTup hna.sqt rfl ?_
    repeat walk_at "h"
    refine ⟨a.r, C, a.dx, _, _, rfl, R.at_, S.cls, S.state, rfl, ?_⟩
    refine ⟨a.st, a.sx, _, rfl, R.S.at_, rfl, ?_⟩
    repeat walk_at "h"
    refine ⟨a.st, a.sx, a.d, .ref ca, c, s.cl, rfl, hv0, R.S, by omega, R.st_d, fun H1 s1 S1 => ?_⟩
    have R1 := R.cells s1 S1 (stpC_nd _ R.nk)
    repeat walk_at "h"
    refine ⟨a.r, C, a.dx, _, _, rfl, R1.at_, S.cls, S.clock, rfl, ?_⟩
    repeat walk_at "h"
    refine ⟨_, _, rfl, ?_⟩
    repeat walk_at "h"
    refine ⟨a.r, C, a.dx, _, rfl, R1.at_, S.cls, S.clock, (show 7 < 1000 by decide), i_setF R1.at_ fun H2 x2 s2 => ?_⟩
    have R2 := R1.obj (ck := if c.st.1 > s.ck then c.st.1 else s.ck) (bg := s.bg) s2 x2
    have s02 : Stp [a.r, a.d] H H2 := (s1.mono (by simp)).trans (s2.mono (by simp))
    clear x2 s2 s1 S1 R1
    repeat walk_at "h"
    refine ⟨a.r, C, a.dx, _, _, rfl, R2.at_, S.cls, S.peer, rfl, ?_⟩
    repeat walk_at "h"
    refine i_iteD (fun e => ?_) (fun e => ?_)
    · have e1 : c.nm.1 = s.p := by injection e
      repeat walk_at "h"
      refine ⟨a.r, C, a.dx, _, _, rfl, R2.at_, S.cls, S.made, rfl, ?_⟩
      repeat walk_at "h"
      refine ⟨_, _, rfl, ?_⟩
      repeat walk_at "h"
      refine ⟨a.r, C, a.dx, _, rfl, R2.at_, S.cls, S.made, (show 7 < 1000 by decide), i_setF R2.at_ fun H3 x3 s3 => ?_⟩
      have R3 := R2.obj (ck := if c.st.1 > s.ck then c.st.1 else s.ck) (bg := if c.nm.2 + 1 > s.bg then c.nm.2 + 1 else s.bg) s3 x3
      refine q H3 ?_ (s02.trans (s3.mono (by simp)))
      unfold takeR
      rw [if_pos e1]
      exact R3
    · have e1 : ¬ c.nm.1 = s.p := fun z => e (by rw [z])
      repeat walk_at "h"
      refine q H2 ?_ s02
      unfold takeR
      rw [if_neg e1]
      exact R2
theorem m_find (ms : List MRow) (n : Nm) : valV (mKvs ms) (nmD n).key = (ms.find? fun r => decide (r.1 = n)).map fun r => .ref r.2.1 := by
  induction ms with
  | nil => rfl
  | cons r rs ih =>
    unfold mKvs at ih ⊢
    by_cases e : r.1 = n
    · rw [List.map_cons, valV_pos (p := ((nmD r.1).key, V.ref r.2.1)) (by rw [e]), List.find?_cons, show decide (r.1 = n) = true by simpa using e]; rfl
    · rw [List.map_cons, valV_neg (p := ((nmD r.1).key, V.ref r.2.1)) (fun z => e (nmKey_inj z)), List.find?_cons, show decide (r.1 = n) = false by simpa using e]; exact ih
theorem m_isSome (ms : List MRow) (n : Nm) : (valV (mKvs ms) (nmD n).key).isSome = decide (n ∈ ms.map (·.1)) := by
  rw [m_find, Option.isSome_map, Bool.eq_iff_iff, List.find?_isSome, decide_eq_true_eq, List.mem_map]
  simp
theorem mKvs_put {ms : List MRow} {k : Nm} (h : k ∉ ms.map (·.1)) (q : Addr) (cs : List Ch) : putK (mKvs ms) (nmD k).key (.ref q) = mKvs (ms ++ [(k, q, cs)]) := by
  have e : ((mKvs ms).any fun kv => decide (kv.1 = (nmD k).key)) = false := by
    rw [Bool.eq_false_iff]
    intro z
    rw [List.any_eq_true] at z
    obtain ⟨kv, hkv, e⟩ := z
    obtain ⟨r, hr, rfl⟩ := List.mem_map.mp hkv
    exact h (List.mem_map.mpr ⟨r, hr, nmKey_inj (of_decide_eq_true e)⟩)
  unfold putK
  rw [e]
  simp [mKvs]
theorem MB.put {H H1 : Hp} {d q : Addr} {rs : List MRow} {k : Nm} {cs : List Ch} (h : MB P w K H d rs) (s : Stp [d] H H1) (nd : ND P w K H1 d (putK (mKvs rs) (nmD k).key (.ref q))) (hk : k ∉ rs.map (·.1)) (dl : ∀ r ∈ rs, r.2.1 ≠ d)
    (hq : ∃ vs, H1 q = some (.lst vs) ∧ DtsAt K H1 vs (cs.map chD)) : MB P w K H1 d (rs ++ [(k, q, cs)]) := by
  refine ⟨by rw [← mKvs_put hk]; exact nd, fun r hr => ?_, ?_⟩
  · rcases List.mem_append.mp hr with z | z
    · obtain ⟨vs, a, b⟩ := h.at_ r z
      exact ⟨vs, s.keep _ _ a (by simpa using dl r z), chs_stp b s⟩
    · rw [List.mem_singleton.mp z]; exact hq
  · rw [List.map_append, List.nodup_append]
    refine ⟨h.names, by simp, ?_⟩
    intro x hx y hy e
    simp only [List.map_cons, List.map_nil, List.mem_singleton] at hy
    subst hy; subst e
    exact hk hx
theorem RpAt.msgs {H H1 : Hp} {a : RA} {s : RS} {ms : List MRow} (h : RpAt P w K C CS H a s) (t : Stp [a.ml] H H1) (m : MB P w K H1 a.ml ms) (n3 : ∀ m ∈ ms, m.2.1 ≠ a.rl ∧ m.2.1 ≠ a.pl) : RpAt P w K C CS H1 a { s with ms := ms } := by
  obtain ⟨rw, r1, r2⟩ := h.rw
  obtain ⟨pw, p1, p2⟩ := h.pw
  have l1 := (h.lst ⟨rw, r1⟩).2.2.2
  have l2 := (h.lst ⟨pw, p1⟩).2.2.2
  exact ⟨t.keep _ _ h.at_ (by simpa using h.r_ml), h.S.stp t (by simpa using h.st_ml) (by simpa using h.n2), ⟨rw, t.keep _ _ r1 (by simpa using l1), DtsAt.stp t _ _ (nms_flat _) r2⟩, ⟨pw, t.keep _ _ p1 (by simpa using l2), chs_stp p2 t⟩,
    m, h.n1, h.n2, n3, h.nk⟩
def acceptR (s : RS) (k : Nm) (q : Addr) (cs : List Ch) : RS := cs.foldl takeR { s with ms := s.ms ++ [(k, q, cs)] }
theorem fold_ms (cs : List Ch) : ∀ s : RS, (cs.foldl takeR s).ms = s.ms ∧ (cs.foldl takeR s).p = s.p ∧ (cs.foldl takeR s).rts = s.rts ∧ (cs.foldl takeR s).pd = s.pd := by
  induction cs with
  | nil => exact fun s => ⟨rfl, rfl, rfl, rfl⟩
  | cons c cs ih => exact fun s => ih (takeR s c)
theorem fold_cl (cs : List Ch) : ∀ s : RS, (cs.foldl takeR s).cl = cs.foldl stpC s.cl := by
  induction cs with
  | nil => exact fun s => rfl
  | cons c cs ih => exact fun s => ih (takeR s c)
theorem fold_cl_len (cs : List Ch) : ∀ cl : List Cel, (cs.foldl stpC cl).length ≤ cl.length + cs.length := by
  induction cs with
  | nil => intro cl; simp
  | cons c cs ih =>
    intro cl
    have h1 := ih (stpC cl c)
    have h2 := stpC_len cl c
    simp only [List.foldl_cons, List.length_cons]
    omega
def spAccept (P : Program) (w : World) (K : PySem.W.Frag) (C CS : Addr) : Sp := fun vs H Q _ => ∃ (a : RA) (s : RS) (k : Nm) (l : Addr) (ws : List V) (cs : List Ch), vs = [.ref a.r, .int k.1, .int k.2, .ref l] ∧ RpAt P w K C CS H a s ∧ H l = some (.lst ws) ∧ DtsAt K H ws (cs.map chD) ∧
  s.cl.length + cs.length ≤ 1000 ∧ s.ms.length ≤ 900 ∧ (k ∈ s.ms.map (·.1) → ∀ H1, Stp [] H H1 → Q (.bl false) H1) ∧
  (k ∉ s.ms.map (·.1) → ∀ (q : Addr) (H1 : Hp), H q = none → RpAt P w K C CS H1 a (acceptR s k q cs) → Stp [a.r, a.d, a.ml] H H1 → Q (.bl true) H1)
theorem mth_Replica_accept (F : Dfm K C d_Replica_accept) (B : Blt mg) (S : RpC K C) (M_Replica_take : Mth P w K mg base lv_Replica_take C "_take" ["self", "change"] (spTakeR P w K C CS)) : Mth P w K mg base lv_Replica_accept C "accept" ["self", "sender", "number", "changes"] (spAccept P w K C CS) := by
  have CL_Replica := S.cls
  obtain ⟨f, fd, F, g⟩ := F
  refine ⟨f, fd, F.ok sc_Replica_accept (fun vs H Q E h => ?_) (fun cdv A outer s H vs Q E hr h => ⟨_, PSs.nox
    (pss_cons (ps_if (pt_cmp (pc_ninK (P := P) (w := w) (K := K) rfl rfl rfl hr (pe_tup (pa_cons (pv 1) (pa_cons (pv 2) pa_nil))) (pe_fld (pv 0) rfl)))
      (pss_one (ps_ret pe_bl))
      pss_nil)
    (pss_cons (ps_nput hr (pe_fld (pv 0) rfl) (pe_tup (pa_cons (pv 1) (pa_cons (pv 2) pa_nil))) (pe_callTy call_list_of (by rfl) B.list (by decide +kernel) (pa_cons (pv 3) pa_nil)) rfl)
    (pss_cons (ps_for PassesOwn.never rfl (pi_list (pv 3)) (pg_name (i := 4) sc_Replica_accept.nd rfl (Or.inl rfl))
      (pss_one (ps_expr (pc_meth (pv 0) CL_Replica M_Replica_take (hr.mono (by decide)) (pa_cons (pv 4) pa_nil)))))
    (pss_one (ps_ret pe_bl))))), ?_⟩), g, F.kp, F.bindsN fun _ _ _ _ _ _ us hl => match us, hl with | [_, _, _, _], _ => rfl⟩
  · obtain ⟨a, s, k, l, ws, cs, rfl, _⟩ := h
    rfl
  · obtain ⟨a, s, k, l, ws, cs, rfl, R, hl, hd, lc, lm, q1, q2⟩ := h
    have wl : ws.length = cs.length := by have := hd.length; rwa [List.length_map] at this
    repeat walk_at "h"
    refine ⟨(by decide : 2 ≤ sizeLine), fun t nt => ?_⟩
    have s1 : Stp [] H (upd H t (.tup [.int k.1, .int k.2])) := .new nt
    have t1 : DtAt K (upd H t (.tup [.int k.1, .int k.2])) (.ref t) (nmD k) := nm_mk upd_same
    have R1 := R.grow s1
    have l1 := s1.keep _ _ hl (by simp)
    have d1 := chs_stp hd s1
    generalize upd H t (.tup [.int k.1, .int k.2]) = H1 at s1 t1 R1 l1 d1 ⊢
    repeat walk_at "h"
    refine ⟨a.r, C, a.dx, _, _, rfl, R1.at_, S.cls, S.messages, rfl, ?_⟩
    refine ⟨a.ml, t, mKvs s.ms, (nmD k).key, rfl, rfl, R1.mw.nd.r, KyAt.of t1 rfl (by simp [nmD, Dt.depth, Dt.depthAll]), ?_⟩
    rw [m_isSome]
    by_cases hm : k ∈ s.ms.map (·.1)
    · rw [decide_eq_true hm]
      refine ⟨_, rfl, iteT ?_⟩
      repeat walk_at "h"
      exact q1 hm H1 s1
    · rw [decide_eq_false hm]
      refine ⟨_, rfl, iteF ?_⟩
      repeat walk_at "h"
      refine ⟨l, ws, rfl, .inl (SqL.of l1), fun y ny => ?_⟩
      have s2 : Stp [] H1 (upd H1 y (.lst ws)) := .new ny
      have y2 : upd H1 y (.lst ws) y = some (.lst ws) := upd_same
      have nyH : H y = none := s1.free ny (by simp)
      have yr : y ≠ a.rl ∧ y ≠ a.pl := by
        obtain ⟨_, e1⟩ := R1.rl_at
        obtain ⟨_, e2⟩ := R1.pl_at
        exact ⟨(ne_of_none e1 ny).symm, (ne_of_none e2 ny).symm⟩
      have ym : y ≠ a.ml := by
        obtain ⟨o, e1, _⟩ := R1.ml_ext
        exact (ne_of_none e1 ny).symm
      have R2 := R1.grow s2
      have l2 := s2.keep _ _ l1 (by simp)
      have d2 := chs_stp d1 s2
      have s02 := s1.trans s2
      generalize upd H1 y (.lst ws) = H2 at s2 y2 R2 l2 d2 s02 ⊢
      clear s1 s2 t1 R1 l1 d1 nt ny R
      repeat walk_at "h"
      refine ⟨a.r, C, a.dx, _, _, rfl, R2.at_, S.cls, S.messages, rfl, ?_⟩
      repeat walk_at "h"
      refine ⟨(by decide : 2 ≤ sizeLine), fun t2 nt2 => ?_⟩
      have s3 : Stp [] H2 (upd H2 t2 (.tup [.int k.1, .int k.2])) := .new nt2
      have t3 : DtAt K (upd H2 t2 (.tup [.int k.1, .int k.2])) (.ref t2) (nmD k) := nm_mk upd_same
      have R3 := R2.grow s3
      have l3 := s3.keep _ _ l2 (by simp)
      have d3 := chs_stp d2 s3
      have y3 := s3.keep _ _ y2 (by simp)
      have s03 := s02.trans s3
      generalize upd H2 t2 (.tup [.int k.1, .int k.2]) = H3 at s3 t3 R3 l3 d3 y3 s03 ⊢
      clear s3 s02 R2 l2 d2 y2 nt2
      refine ⟨a.ml, t2, mKvs s.ms, (nmD k).key, rfl, rfl, R3.mw.nd, KyAt.of t3 rfl (by simp [nmD, Dt.depth, Dt.depthAll]), ?_, fun H4 n4 s4 _ => ?_⟩
      · unfold mKvs
        rw [List.length_map]
        exact Nat.lt_of_le_of_lt lm (by decide)
      have lml : l ≠ a.ml := (R3.lst ⟨_, l3⟩).2.2.2
      have l4 := s4.keep _ _ l3 (by simpa using lml)
      have d4 := chs_stp d3 s4
      have R4 : RpAt P w K C CS H4 a { s with ms := s.ms ++ [(k, y, cs)] } := by
        refine R3.msgs s4 (R3.mw.put s4 n4 hm (fun r hr => (R3.lst (R3.m_at hr)).2.2.2) ⟨ws, s4.keep _ _ y3 (by simpa using ym), chs_stp d3 s4⟩) fun m hm => ?_
        rcases List.mem_append.mp hm with z | z
        · exact R3.n3 m z
        · rw [List.mem_singleton.mp z]; exact yr
      have s04 : Stp [a.r, a.d, a.ml] H H4 := (s03.mono (by simp)).trans (s4.mono (by simp))
      clear s4 n4 s03 R3 l3 d3 y3 t3
      repeat walk_at "h"
      refine ⟨l, rfl, ⟨_, SqL.of l4⟩, ?_⟩
      have lf := R4.lst ⟨_, l4⟩
      refine for_list (xs := ws) (fun i σ H' => ∃ y4 : Option V, σ = [some (.ref a.r), some (.int k.1), some (.int k.2), some (.ref l), y4] ∧ Stp [a.r, a.d] H4 H' ∧ RpAt P w K C CS H' a ((cs.take i).foldl takeR { s with ms := s.ms ++ [(k, y, cs)] }))
        ⟨_, rfl, .refl _, R4⟩ (fun i σ H' _ ⟨_, _, s, _⟩ => SqL.of (s.keep _ _ l4 (by simp [lf.1, lf.2.2.1]))) ?_ ?_
      · rintro i v σ H5 hv ⟨y4, rfl, s5, R5⟩
        obtain ⟨c, hc, dc⟩ := ch_get (chs_stp d4 s5) hv
        have tk : cs.take (i + 1) = cs.take i ++ [c] := by rw [List.take_add_one, hc]; rfl
        repeat walk_at "h"
        refine ⟨a.r, a.dx, _, rfl, R5.at_, rfl, ?_⟩
        repeat walk_at "h"
        refine ⟨a, _, v, c, rfl, R5, dc, ?_, fun H6 R6 s6 => ?_⟩
        · rw [fold_cl]
          have h1 := fold_cl_len (cs.take i) s.cl
          rw [List.length_take] at h1
          show (List.foldl stpC s.cl (List.take i cs)).length ≤ 1000
          omega
        · refine ⟨_, rfl, s5.trans s6, ?_⟩
          rw [tk, List.foldl_append]
          exact R6
      · rintro σ H5 ⟨y4, rfl, s5, R5⟩
        rw [wl, List.take_length] at R5
        repeat walk_at "h"
        exact q2 hm y H5 nyH R5 (s04.trans (s5.mono (by simp)))
end

/-! ### ranges of numbers -/
section
variable {P : Program} {w : World} {K : PySem.W.Frag} {mg : Str → Option Value} {base : Heap}
/-- one number more: the last range goes on, or a new one begins -/
def rStep (rs : List Nm) (n : Int) : List Nm := match rs.getLast? with
  | some r => if r.2 + 1 = n then rs.dropLast ++ [(r.1, n)] else rs ++ [(n, n)]
  | none => rs ++ [(n, n)]
def rgs (l : List Int) : List Nm := l.foldl rStep []
theorem rStep_nil (n : Int) : rStep [] n = [(n, n)] := rfl
theorem rStep_snoc (rs : List Nm) (r : Nm) (n : Int) : rStep (rs ++ [r]) n = if r.2 + 1 = n then rs ++ [(r.1, n)] else (rs ++ [r]) ++ [(n, n)] := by
  unfold rStep
  rw [List.getLast?_append]
  simp
theorem rStep_len (rs : List Nm) (n : Int) : (rStep rs n).length ≤ rs.length + 1 := by
  rcases List.eq_nil_or_concat rs with e | ⟨l, r, e⟩
  · rw [e]; simp [rStep]
  · rw [List.concat_eq_append] at e
    rw [e, rStep_snoc]
    split <;> simp
theorem rgs_snoc (l : List Int) (n : Int) : rgs (l ++ [n]) = rStep (rgs l) n := by unfold rgs; rw [List.foldl_append]; rfl
theorem rgs_len (l : List Int) : (rgs l).length ≤ l.length := by
  have h : ∀ (l : List Int) (rs : List Nm), (l.foldl rStep rs).length ≤ rs.length + l.length := by
    intro l
    induction l with
    | nil => exact fun rs => Nat.le_refl _
    | cons n l ih =>
      intro rs
      have h1 := ih (rStep rs n)
      have h2 := rStep_len rs n
      rw [List.foldl_cons, List.length_cons]; omega
  have := h l []
  simpa [rgs] using this
theorem dts_split {H : Hp} {ws : List V} {ds : List Dt} {d : Dt} (h : DtsAt K H ws (ds ++ [d])) : ∃ us v, ws = us ++ [v] ∧ DtsAt K H us ds ∧ DtAt K H v d := by
  induction ds generalizing ws with
  | nil =>
    cases h with
    | cons h t =>
      cases t
      exact ⟨[], _, rfl, .nil, h⟩
  | cons e ds ih =>
    cases h with
    | cons h t =>
      obtain ⟨us, v, e1, h1, h2⟩ := ih t
      exact ⟨_ :: us, v, by rw [e1]; rfl, .cons h h1, h2⟩
def spRgs (K : PySem.W.Frag) : Sp := fun vs H Q _ => ∃ (a : Addr) (ns : List Int), vs = [.ref a] ∧ SqL K H a (ns.map V.int) ∧ ns.length < 64 ∧
  ∀ (p : Addr) (ws : List V) (H1 : Hp), H p = none → H1 p = some (.lst ws) → DtsAt K H1 ws ((rgs (sset ns)).map nmD) → Stp [] H H1 → Q (.ref p) H1
theorem cal_ranges_of (F : Df K mg d_ranges_of) (B : Blt mg) (B_set : mg "set" = none) : Cal P w K mg base lv_ranges_of "ranges_of" ["numbers"] (spRgs K) := by
  obtain ⟨f, fd, F, g⟩ := F
  refine ⟨f, fd, F.ok sc_ranges_of (fun vs H Q E h => ?_) (fun cdv A outer s H vs Q E hr h => ⟨_, PSs.nox
    (pss_cons (ps_set (i := 1) sc_ranges_of.nd rfl (Or.inl rfl) (pe_lst pa_nil))
    (pss_cons (ps_for PassesOwn.never rfl (pi_list (pe_callB (cr_sortedSet rfl) (by rfl) B.sorted (by decide +kernel) (pa_cons (pe_callTy (cr_setI rfl) (by rfl) B_set (by decide +kernel) (pa_cons (pv 0) pa_nil)) pa_nil))) (pg_name (i := 2) sc_ranges_of.nd rfl (Or.inl rfl))
      (pss_one (ps_if (PW.pt (pw_and (pt_truth (pv 1) (by intro _; rfl)) (pw_and1 (pt_cmpR op_eq (pe_op op_add (pe_ix (ix_tupK (K := K) rfl) (pe_ix (ix_listK (K := K) rfl) (pv 1) (pe_un un_neg pe_int) (fun _ _ => rfl)) pe_int (fun _ _ => rfl)) pe_int) (pv 2) (nomark _)))))
          (pss_one (ps_asg (pe_tup (pa_cons (pe_ix (ix_tupK (K := K) rfl) (pe_ix (ix_listK (K := K) rfl) (pv 1) (pe_un un_neg pe_int) (fun _ _ => rfl)) pe_int (fun _ _ => rfl)) (pa_cons (pv 2) pa_nil))) (pg_sub (pv 1) (pe_un un_neg pe_int) set_list)))
          (pss_one (ps_expr (pe_bm PySem.F.plainAttrs_list PySem.F.slot_list_append PySem.F.type_list_append mt_append (pv 1) (pa_cons (pe_tup (pa_cons (pv 2) (pa_cons (pv 2) pa_nil))) pa_nil)))))))
    (pss_one (ps_ret (pv 1))))), ?_⟩), g, F.kp, F.bindsN fun _ _ _ _ _ _ us hl => match us, hl with | [_], _ => rfl⟩
  · obtain ⟨a, ns, rfl, _⟩ := h
    rfl
  · obtain ⟨a, ns, rfl, hs, l6, q⟩ := h
    repeat walk_at "h"
    refine ⟨Nat.zero_le _, fun p np => ?_⟩
    have s1 : Stp [] H (upd H p (.lst [])) := .new np
    have p1 : upd H p (.lst []) p = some (.lst []) := upd_same
    have hs1 := s1.seq hs (by simp)
    generalize upd H p (.lst []) = H1 at s1 p1 hs1 ⊢
    repeat walk_at "h"
    refine sset_t hs1 l6 fun sp H2 nsp hsp s2 => ?_
    have p2 := s2.keep _ _ p1 (by simp)
    have spp : sp ≠ p := (ne_of_none p1 nsp).symm
    have s02 := s1.trans s2
    have sl := sset_le ns
    clear s1 s2 p1 hs1
    refine ⟨sp, rfl, ⟨_, SqL.of hsp⟩, ?_⟩
    refine for_list (xs := (sset ns).map V.int) (fun i σ H' => ∃ (y2 : Option V) (ws : List V), σ = [some (.ref a), some (.ref p), y2] ∧ Stp [] H H' ∧ H' sp = some (.lst ((sset ns).map V.int)) ∧ H' p = some (.lst ws) ∧ DtsAt K H' ws ((rgs ((sset ns).take i)).map nmD))
      ⟨_, [], rfl, s02, hsp, p2, .nil⟩ (fun i σ H' _ ⟨_, _, _, _, h, _⟩ => SqL.of h) ?_ ?_
    · rintro i v σ H3 hv ⟨y2, ws, rfl, s3, sp3, p3, d3⟩
      rw [List.getElem?_map] at hv
      obtain ⟨n, hn, rfl⟩ := Option.map_eq_some_iff.mp hv
      have il := (List.getElem?_eq_some_iff.mp hn).1
      have tk : (sset ns).take (i + 1) = (sset ns).take i ++ [n] := by rw [List.take_add_one, hn]; rfl
      have rl := rgs_len ((sset ns).take i)
      rw [List.length_take] at rl
      have wl : ws.length = (rgs ((sset ns).take i)).length := by have := d3.length; rwa [List.length_map] at this
      rw [tk, rgs_snoc]
      generalize rgs ((sset ns).take i) = rs at d3 rl wl ⊢
      clear tk
      repeat walk_at "h"
      refine ⟨!ws.isEmpty, .inl ⟨ws, SqL.of p3, rfl⟩, ?_⟩
      rcases List.eq_nil_or_concat rs with e | ⟨l, r, e⟩
      · subst e
        obtain rfl : ws = [] := by cases d3; rfl
        refine i_ite (fun z => by simp at z) (fun _ => ?_)
        refine i_ite (fun z => by simp at z) (fun _ => ?_)
        repeat walk_at "h"
        refine ⟨.inl ⟨rfl, _, SqL.of p3⟩, ?_⟩
        repeat walk_at "h"
        refine ⟨(by decide : 2 ≤ sizeLine), fun t nt => ?_⟩
        have s4 : Stp [] H3 (upd H3 t (.tup [.int n, .int n])) := .new nt
        have t4 : DtAt K (upd H3 t (.tup [.int n, .int n])) (.ref t) (nmD (n, n)) := nm_mk (n := (n, n)) upd_same
        have p4 := s4.keep _ _ p3 (by simp)
        have sp4 := s4.keep _ _ sp3 (by simp)
        have s04 := s3.trans s4
        generalize upd H3 t (.tup [.int n, .int n]) = H4 at s4 t4 p4 sp4 s04 ⊢
        refine i_Nil ⟨p, [], .ref t, rfl, rfl, p4, (show 0 < sizeLine by decide), ?_⟩
        have s5 : Stp [p] H4 (upd H4 p (.lst ([] ++ [.ref t]))) := .wr (by simp) p4 fun _ z => nomatch z
        repeat walk_at "h"
        exact ⟨_, _, rfl, s04.into np s5, s5.keep _ _ sp4 (by simpa using spp), upd_same, .cons (DtAt.stp s5 _ _ rfl t4) .nil⟩
      · rw [List.concat_eq_append] at e
        subst e
        rw [List.map_append] at d3
        obtain ⟨us, v, rfl, d3l, dv⟩ := dts_split d3
        obtain ⟨ra, rfl, hra⟩ := nmAt dv
        refine i_ite (fun _ => ?_) (fun z => by simp at z)
        repeat walk_at "h"
        refine i_IxL (SqL.of p3) (atI_last us (.ref ra)) ?_
        repeat walk_at "h"
        refine i_IxT hra.sqt (at_of (j := 1) rfl rfl) ?_
        repeat walk_at "h"
        rw [rStep_snoc]
        refine i_iteD (fun e => ?_) (fun e => ?_)
        · have e1 : r.2 + 1 = n := by injection e
          rw [if_pos e1]
          repeat walk_at "h"
          refine i_IxL (SqL.of p3) (atI_last us (.ref ra)) ?_
          repeat walk_at "h"
          refine i_IxT hra.sqt (at_of (j := 0) rfl rfl) ?_
          repeat walk_at "h"
          refine ⟨(by decide : 2 ≤ sizeLine), fun t nt => ?_⟩
          have s4 : Stp [] H3 (upd H3 t (.tup [.int r.1, .int n])) := .new nt
          have t4 : DtAt K (upd H3 t (.tup [.int r.1, .int n])) (.ref t) (nmD (r.1, n)) := nm_mk (n := (r.1, n)) upd_same
          have p4 := s4.keep _ _ p3 (by simp)
          have sp4 := s4.keep _ _ sp3 (by simp)
          have d4 := DtsAt.stp s4 _ _ (nms_flat _) d3l
          have s04 := s3.trans s4
          generalize upd H3 t (.tup [.int r.1, .int n]) = H4 at s4 t4 p4 sp4 d4 s04 ⊢
          refine i_SetAt ?_
          repeat walk_at "h"
          have ixl : ixN (us ++ [V.ref ra]).length (-1) = some us.length := by
            unfold ixN
            rw [List.length_append, List.length_singleton, if_neg (by decide), if_pos (by omega)]
            congr 1; omega
          refine ⟨p, _, _, us.length, rfl, rfl, p4, ixl, ?_⟩
          have est : (us ++ [V.ref ra]).set us.length (.ref t) = us ++ [.ref t] := by simp
          rw [est]
          have s5 : Stp [p] H4 (upd H4 p (.lst (us ++ [.ref t]))) := .wr (by simp) p4 fun _ z => nomatch z
          refine ⟨_, _, rfl, s04.into np s5, s5.keep _ _ sp4 (by simpa using spp), upd_same, ?_⟩
          rw [List.map_append]
          exact (DtsAt.stp s5 _ _ (nms_flat _) d4).append (.cons (DtAt.stp s5 _ _ rfl t4) .nil)
        · have e1 : ¬ r.2 + 1 = n := fun z => e (by rw [z])
          rw [if_neg e1]
          repeat walk_at "h"
          refine ⟨.inl ⟨rfl, _, SqL.of p3⟩, ?_⟩
          repeat walk_at "h"
          refine ⟨(by decide : 2 ≤ sizeLine), fun t nt => ?_⟩
          have s4 : Stp [] H3 (upd H3 t (.tup [.int n, .int n])) := .new nt
          have t4 : DtAt K (upd H3 t (.tup [.int n, .int n])) (.ref t) (nmD (n, n)) := nm_mk (n := (n, n)) upd_same
          have p4 := s4.keep _ _ p3 (by simp)
          have sp4 := s4.keep _ _ sp3 (by simp)
          have d4 := DtsAt.stp s4 _ _ (nms_flat _) d3l
          have dv4 := DtAt.stp s4 _ _ rfl dv
          have s04 := s3.trans s4
          generalize upd H3 t (.tup [.int n, .int n]) = H4 at s4 t4 p4 sp4 d4 dv4 s04 ⊢
          refine i_Nil ⟨p, us ++ [.ref ra], .ref t, rfl, rfl, p4, Nat.lt_of_le_of_lt (show (us ++ [V.ref ra]).length ≤ 100 by omega) (by decide), ?_⟩
          have s5 : Stp [p] H4 (upd H4 p (.lst ((us ++ [.ref ra]) ++ [.ref t]))) := .wr (by simp) p4 fun _ z => nomatch z
          repeat walk_at "h"
          refine ⟨_, _, rfl, s04.into np s5, s5.keep _ _ sp4 (by simpa using spp), upd_same, ?_⟩
          rw [List.map_append, List.map_append]
          exact ((DtsAt.stp s5 _ _ (nms_flat _) d4).append (.cons (DtAt.stp s5 _ _ rfl dv4) .nil)).append (.cons (DtAt.stp s5 _ _ rfl t4) .nil)
    · rintro σ H3 ⟨y2, ws, rfl, s3, sp3, p3, d3⟩
      rw [List.length_map, List.take_length] at d3
      repeat walk_at "h"
      exact q p ws H3 np p3 d3 s3
end

/-! ### ranges without others -/
section
def InR (rs : List Nm) (x : Int) : Prop := ∃ r ∈ rs, r.1 ≤ x ∧ x ≤ r.2
theorem inR_app (a b : List Nm) (x : Int) : InR (a ++ b) x ↔ InR a x ∨ InR b x := by
  unfold InR
  constructor
  · rintro ⟨r, hr, h⟩
    rcases List.mem_append.mp hr with z | z
    · exact .inl ⟨r, z, h⟩
    · exact .inr ⟨r, z, h⟩
  · rintro (⟨r, hr, h⟩ | ⟨r, hr, h⟩)
    · exact ⟨r, List.mem_append_left _ hr, h⟩
    · exact ⟨r, List.mem_append_right _ hr, h⟩
theorem inR_one (r : Nm) (x : Int) : InR [r] x ↔ r.1 ≤ x ∧ x ≤ r.2 := by
  unfold InR
  simp
/-- ranges one behind the other -/
structure OkR (rs : List Nm) : Prop where
  le : ∀ r ∈ rs, r.1 ≤ r.2
  asc : rs.Pairwise fun a b => a.2 < b.1
theorem OkR.at (h : OkR rs) {i j : Nat} {a b : Nm} (ha : rs[i]? = some a) (hb : rs[j]? = some b) (l : i < j) : a.2 < b.1 := by
  obtain ⟨h1, rfl⟩ := List.getElem?_eq_some_iff.mp ha
  obtain ⟨h2, rfl⟩ := List.getElem?_eq_some_iff.mp hb
  exact List.pairwise_iff_getElem.mp h.asc i j h1 h2 l
/-- what rgs makes of ascending numbers -/
theorem rgs_ok : ∀ (l : List Int), l.Pairwise (· < ·) → OkR (rgs l) ∧ (∀ x, InR (rgs l) x ↔ x ∈ l) ∧ ∀ r ∈ rgs l, r.2 ∈ l := by
  intro l
  induction h : l.length generalizing l with
  | zero =>
    intro _
    rw [List.length_eq_zero_iff.mp h]
    exact ⟨⟨fun r hr => (nomatch hr), .nil⟩, fun x => ⟨fun ⟨_, hr, _⟩ => (nomatch hr), fun hx => (nomatch hx)⟩, fun r hr => (nomatch hr)⟩
  | succ k ih =>
    intro pw
    rcases List.eq_nil_or_concat l with e | ⟨m, n, e⟩
    · rw [e] at h; cases h
    · rw [List.concat_eq_append] at e
      subst e
      rw [List.length_append, List.length_singleton] at h
      rw [List.pairwise_append] at pw
      obtain ⟨p1, _, p2⟩ := pw
      have p2 : ∀ x ∈ m, x < n := fun x hx => p2 x hx n (List.mem_singleton.mpr rfl)
      obtain ⟨ok, mem, last⟩ := ih m (by omega) p1
      rw [rgs_snoc]
      rcases List.eq_nil_or_concat (rgs m) with e | ⟨rs, r, e⟩
      · rw [e, rStep_nil]
        rw [e] at mem
        refine ⟨⟨fun r hr => by rw [List.mem_singleton.mp hr]; exact Int.le_refl _, List.pairwise_singleton _ _⟩, fun x => ?_, fun r hr => by rw [List.mem_singleton.mp hr]; simp⟩
        rw [inR_one, List.mem_append, List.mem_singleton, ← mem x]
        constructor
        · rintro ⟨h1, h2⟩; exact .inr (Int.le_antisymm h2 h1)
        · rintro (⟨_, hr, _⟩ | h)
          · cases hr
          · rw [h]; exact ⟨Int.le_refl _, Int.le_refl _⟩
      · rw [List.concat_eq_append] at e
        rw [e] at ok mem last ⊢
        have rl := p2 _ (last r (by simp))
        have rr := ok.le r (by simp)
        rw [rStep_snoc]
        by_cases c : r.2 + 1 = n
        · rw [if_pos c]
          have asc := ok.asc
          rw [List.pairwise_append] at asc
          refine ⟨⟨fun q hq => ?_, ?_⟩, fun x => ?_, fun q hq => ?_⟩
          · rcases List.mem_append.mp hq with z | z
            · exact ok.le q (List.mem_append_left _ z)
            · rw [List.mem_singleton.mp z]; show r.1 ≤ n; omega
          · rw [List.pairwise_append]
            refine ⟨asc.1, List.pairwise_singleton _ _, fun q hq s hs => ?_⟩
            rw [List.mem_singleton.mp hs]
            exact asc.2.2 q hq r (List.mem_singleton.mpr rfl)
          · have := mem x
            rw [inR_app, inR_one] at this ⊢
            rw [List.mem_append, List.mem_singleton, ← this]
            constructor
            · rintro (h | ⟨h1, h2⟩)
              · exact .inl (.inl h)
              · have h2 : x ≤ n := h2
                by_cases y : x = n
                · exact .inr y
                · exact .inl (.inr ⟨h1, by omega⟩)
            · rintro ((h | ⟨h1, h2⟩) | h)
              · exact .inl h
              · exact .inr ⟨h1, by show x ≤ n; omega⟩
              · exact .inr ⟨by show r.1 ≤ x; omega, by show x ≤ n; omega⟩
          · rcases List.mem_append.mp hq with z | z
            · exact List.mem_append_left _ (last q (List.mem_append_left _ z))
            · rw [List.mem_singleton.mp z]; simp
        · rw [if_neg c]
          refine ⟨⟨fun q hq => ?_, ?_⟩, fun x => ?_, fun q hq => ?_⟩
          · rcases List.mem_append.mp hq with z | z
            · exact ok.le q z
            · rw [List.mem_singleton.mp z]; exact Int.le_refl _
          · rw [List.pairwise_append]
            refine ⟨ok.asc, List.pairwise_singleton _ _, fun q hq s hs => ?_⟩
            rw [List.mem_singleton.mp hs]
            exact p2 _ (last q hq)
          · rw [inR_app, mem x, inR_one, List.mem_append, List.mem_singleton]
            constructor
            · rintro (h | ⟨h1, h2⟩)
              · exact .inl h
              · exact .inr (Int.le_antisymm h2 h1)
            · rintro (h | h)
              · exact .inl h
              · rw [h]; exact .inr ⟨Int.le_refl _, Int.le_refl _⟩
          · rcases List.mem_append.mp hq with z | z
            · exact List.mem_append_left _ (last q z)
            · rw [List.mem_singleton.mp z]; simp
/-- a, a + 1, .. b - 1 -/
def rg (a b : Int) : List Int := (List.range (b - a).toNat).map fun i : Nat => a + (i : Int)
theorem rg_mem (a b x : Int) : x ∈ rg a b ↔ a ≤ x ∧ x < b := by
  unfold rg
  rw [List.mem_map]
  constructor
  · rintro ⟨i, hi, rfl⟩
    have := List.mem_range.mp hi
    omega
  · rintro ⟨h1, h2⟩
    exact ⟨(x - a).toNat, List.mem_range.mpr (by omega), by omega⟩
theorem rg_asc (a b : Int) : (rg a b).Pairwise (· < ·) := by
  unfold rg
  rw [List.pairwise_map]
  exact List.pairwise_lt_range.imp fun h => by omega
theorem rgV_rg (a b : Int) : rgV a b = (rg a b).map V.int := by
  unfold rgV rg
  rw [List.map_map]; rfl
/-- while a range is gone through -/
structure NW (os dn : List Nm) (first begin_ : Int) (k : Nat) (ns : List Int) : Prop where
  asc : ns.Pairwise (· < ·)
  lt : ∀ x ∈ ns, x < begin_
  mem : ∀ x, x ∈ ns ↔ (InR dn x ∨ (first ≤ x ∧ x < begin_)) ∧ ¬ InR os x
  fb : first ≤ begin_
  con : ∀ (i : Nat) (o : Nm), os[i]? = some o → i < k → o.2 < begin_
/-- between two ranges -/
structure NE (os dn : List Nm) (last : Int) (k : Nat) (ns : List Int) : Prop where
  asc : ns.Pairwise (· < ·)
  le : ∀ x ∈ ns, x ≤ last
  mem : ∀ x, x ∈ ns ↔ InR dn x ∧ ¬ InR os x
  con : ∀ (i : Nat) (o : Nm), os[i]? = some o → i < k → o.2 ≤ last
section
variable {os dn : List Nm} {first begin_ last : Int} {k : Nat} {ns : List Int}
theorem NE.start (h : NE os dn last k ns) (f : last < first) : NW os dn first first k ns :=
  ⟨h.asc, fun x hx => by have := h.le x hx; omega, fun x => by
    rw [h.mem x]
    constructor
    · rintro ⟨h1, h2⟩; exact ⟨.inl h1, h2⟩
    · rintro ⟨h1 | h1, h2⟩
      · exact ⟨h1, h2⟩
      · omega, Int.le_refl _, fun i o ho hi => by have := h.con i o ho hi; omega⟩
theorem app_asc {a b : List Int} {c : Int} (ha : a.Pairwise (· < ·)) (hb : b.Pairwise (· < ·)) (h1 : ∀ x ∈ a, x < c) (h2 : ∀ x ∈ b, c ≤ x) : (a ++ b).Pairwise (· < ·) := by
  rw [List.pairwise_append]
  exact ⟨ha, hb, fun x hx y hy => by have := h1 x hx; have := h2 y hy; omega⟩
/-- what stands before the next other is in none of them -/
theorem NW.out (h : NW os dn first begin_ k ns) (ok : OkR os) {x : Int} (h1 : begin_ ≤ x) (h2 : ∀ o, os[k]? = some o → x < o.1) : ¬ InR os x := by
  rintro ⟨r, hr, r1, r2⟩
  obtain ⟨i, hi⟩ := List.getElem?_of_mem hr
  rcases Nat.lt_trichotomy i k with c | c | c
  · have := h.con i r hi c; omega
  · rw [c] at hi
    have := h2 r hi; omega
  · have lt : k < os.length := by have := (List.getElem?_eq_some_iff.mp hi).1; omega
    obtain ⟨o, ho⟩ : ∃ o, os[k]? = some o := ⟨_, List.getElem?_eq_getElem lt⟩
    have h3 := ok.at ho hi c
    have h4 := h2 o ho
    have h5 := ok.le o (List.mem_of_getElem? ho)
    omega
theorem NW.step (h : NW os dn first begin_ k ns) (ok : OkR os) {o : Nm} (ho : os[k]? = some o) : NW os dn first (if o.2 + 1 > begin_ then o.2 + 1 else begin_) (k + 1) (ns ++ rg begin_ o.1) := by
  have oo := ok.le o (List.mem_of_getElem? ho)
  have hb : begin_ ≤ (if o.2 + 1 > begin_ then o.2 + 1 else begin_) ∧ o.2 + 1 ≤ (if o.2 + 1 > begin_ then o.2 + 1 else begin_) ∧ ((if o.2 + 1 > begin_ then o.2 + 1 else begin_) = begin_ ∨ (if o.2 + 1 > begin_ then o.2 + 1 else begin_) = o.2 + 1) := by
    split <;> omega
  generalize (if o.2 + 1 > begin_ then o.2 + 1 else begin_) = b2 at hb
  have out : ∀ x, begin_ ≤ x → x < o.1 → ¬ InR os x := fun x h1 h2 => h.out ok h1 fun o' ho' => by rw [ho] at ho'; cases ho'; exact h2
  refine ⟨app_asc h.asc (rg_asc _ _) h.lt fun x hx => ((rg_mem _ _ _).mp hx).1, fun x hx => ?_, fun x => ?_, by have := h.fb; omega, fun i q hq hi => ?_⟩
  · rcases List.mem_append.mp hx with z | z
    · have := h.lt x z; omega
    · have := (rg_mem _ _ _).mp z; omega
  · rw [List.mem_append, h.mem x, rg_mem]
    have fb := h.fb
    constructor
    · rintro (⟨h1 | h1, h2⟩ | h1)
      · exact ⟨.inl h1, h2⟩
      · exact ⟨.inr ⟨h1.1, by omega⟩, h2⟩
      · exact ⟨.inr ⟨by omega, by omega⟩, out x h1.1 h1.2⟩
    · rintro ⟨h1 | ⟨h1, h3⟩, h2⟩
      · exact .inl ⟨.inl h1, h2⟩
      · by_cases c : x < begin_
        · exact .inl ⟨.inr ⟨h1, c⟩, h2⟩
        · by_cases d : x < o.1
          · exact .inr ⟨by omega, d⟩
          · exact absurd ⟨o, List.mem_of_getElem? ho, by omega, by omega⟩ h2
  · by_cases c : i = k
    · rw [c, ho] at hq; cases hq; omega
    · have := h.con i q hq (by omega); omega
theorem NW.done (h : NW os dn first begin_ k ns) (ok : OkR os) {last e : Int} (fl : first ≤ last) (bl : begin_ ≤ last + 1) (he : (os[k]? = none ∧ e = last) ∨ ∃ o, os[k]? = some o ∧ last ≤ o.2 ∧ e = if o.1 - 1 < last then o.1 - 1 else last) :
    NE os (dn ++ [(first, last)]) last k (ns ++ rg begin_ (e + 1)) := by
  have el : e ≤ last := by
    rcases he with ⟨_, z⟩ | ⟨o, _, _, z⟩
    · omega
    · rw [z]; split <;> omega
  have out : ∀ x, begin_ ≤ x → x < e + 1 → ¬ InR os x := fun x h1 h2 => h.out ok h1 fun o' ho' => by
    rcases he with ⟨z, _⟩ | ⟨o, ho, _, z⟩
    · rw [z] at ho'; cases ho'
    · rw [ho] at ho'; cases ho'
      rw [z] at h2
      split at h2 <;> omega
  have fb := h.fb
  refine ⟨app_asc h.asc (rg_asc _ _) h.lt fun x hx => ((rg_mem _ _ _).mp hx).1, fun x hx => ?_, fun x => ?_, fun i q hq hi => by have := h.con i q hq hi; omega⟩
  · rcases List.mem_append.mp hx with z | z
    · have := h.lt x z; omega
    · have := (rg_mem _ _ _).mp z; omega
  · rw [List.mem_append, h.mem x, rg_mem, inR_app, inR_one]
    constructor
    · rintro (⟨h1 | h1, h2⟩ | h1)
      · exact ⟨.inl h1, h2⟩
      · exact ⟨.inr ⟨h1.1, by show x ≤ last; omega⟩, h2⟩
      · exact ⟨.inr ⟨by show first ≤ x; omega, by show x ≤ last; omega⟩, out x h1.1 h1.2⟩
    · rintro ⟨h1 | ⟨h1, h3⟩, h2⟩
      · exact .inl ⟨.inl h1, h2⟩
      · have h1 : first ≤ x := h1
        have h3 : x ≤ last := h3
        by_cases c : x < begin_
        · exact .inl ⟨.inr ⟨h1, c⟩, h2⟩
        · rcases he with ⟨_, z⟩ | ⟨o, ho, lo, z⟩
          · exact .inr ⟨by omega, by omega⟩
          · by_cases d : x < o.1
            · refine .inr ⟨by omega, ?_⟩
              rw [z]; split <;> omega
            · exact absurd ⟨o, List.mem_of_getElem? ho, by omega, by omega⟩ h2
end
/-- in the end: those of l that m has not -/
theorem NE.all {l m : List Int} (hl : l.Pairwise (· < ·)) (hm : m.Pairwise (· < ·)) {last : Int} {k : Nat} {ns : List Int} (h : NE (rgs m) (rgs l) last k ns) : ns = l.filter fun x => decide (x ∉ m) := by
  refine asc_eq h.asc (hl.filter _) fun x => ?_
  rw [h.mem x, (rgs_ok l hl).2.1, (rgs_ok m hm).2.1, List.mem_filter, decide_eq_true_eq]
end

/-! ### numbers without others -/
section
variable {P : Program} {w : World} {K : PySem.W.Frag} {mg : Str → Option Value} {base : Heap}
section
variable {σ : L2.St} {H : Hp}
theorem i_LstRg {te : L2.St → Hp → (Int → Int → Hp → Prop) → Prop} {Q : VK} (q : te σ H fun a b H1 => RgOk a b ∧ ∀ q, H1 q = none → Q (.ref q) (upd H1 q (.lst (rgV a b)))) : tLstRg te σ H Q := q
theorem i_Rg2 {ta tb : TE} {Q : Int → Int → Hp → Prop} (q : ta σ H fun x H1 => tb σ H1 fun y H2 => ∃ i j, x = .int i ∧ y = .int j ∧ Q i j H2) : tRg2 ta tb σ H Q := q
end
def Num6 (l : List Int) : Prop := ∀ x ∈ l, 0 ≤ x ∧ x ≤ 1000000
def spWithout (K : PySem.W.Frag) : Sp := fun vs H Q _ => ∃ (ra oa : Addr) (rw ow : List V) (l m : List Int), vs = [.ref ra, .ref oa] ∧ SqL K H ra rw ∧ DtsAt K H rw ((rgs l).map nmD) ∧ SqL K H oa ow ∧ DtsAt K H ow ((rgs m).map nmD) ∧ l.Pairwise (· < ·) ∧ m.Pairwise (· < ·) ∧ Num6 l ∧ Num6 m ∧ l.length ≤ 100 ∧ m.length ≤ 100 ∧
  ∀ (p : Addr) (H1 : Hp), H p = none → H1 p = some (.lst ((l.filter fun x => decide (x ∉ m)).map V.int)) → Stp [] H H1 → Q (.ref p) H1
theorem cal_numbers_without (F : Df K mg d_numbers_without) (B : Blt mg) : Cal P w K mg base lv_numbers_without "_numbers_without" ["ranges", "others"] (spWithout K) := by
  obtain ⟨f, fd, F, g⟩ := F
  refine ⟨f, fd, F.ok sc_numbers_without (fun vs H Q E h => ?_) (fun cdv A outer s H vs Q E hr h => ⟨_, PSs.nox
    (pss_cons (ps_set (i := 2) sc_numbers_without.nd rfl (Or.inl rfl) (pe_lst pa_nil))
    (pss_cons (ps_set (i := 3) sc_numbers_without.nd rfl (Or.inl rfl) pe_int)
    (pss_cons (ps_for PassesOwn.never rfl (pi_list (pv 0)) (pg_tup (by rfl) (pgs_cons (pg_name (i := 4) sc_numbers_without.nd rfl (Or.inl rfl)) (pgs_cons (pg_name (i := 5) sc_numbers_without.nd rfl (Or.inl rfl)) pgs_nil)))
      (pss_cons (ps_set (i := 6) sc_numbers_without.nd rfl (Or.inl rfl) (pv 4))
        (pss_cons (ps_while PassesOwn.never (PW.pt (pw_and (pt_cmpR op_lt (pv 3) (pe_callB call_len_seq (by rfl) B.len boot_len (pa_cons (pv 1) pa_nil)) (nomark _)) (pw_and1 (pt_cmpR op_lt (pe_ix (ix_tupK (K := K) rfl) (pe_ix (ix_listK (K := K) rfl) (pv 1) (pv 3) (fun _ _ => rfl)) pe_int (fun _ _ => rfl)) (pv 5) (nomark _)))))
          (pss_cons (ps_expr (pe_bm PySem.F.plainAttrs_list PySem.F.slot_list_extend PySem.F.type_list_extend mt_extend (pv 2) (pa_cons (pe_listRg rfl (by rfl) B.list (prg_2 (by rfl) B.range (pv 6) (pe_ix (ix_tupK (K := K) rfl) (pe_ix (ix_listK (K := K) rfl) (pv 1) (pv 3) (fun _ _ => rfl)) pe_int (fun _ _ => rfl)))) pa_nil)))
            (pss_cons (ps_set (i := 6) sc_numbers_without.nd rfl (Or.inl rfl) (pe_callB (call_max2 rfl) (by rfl) B.max (by decide +kernel) (pa_cons (pv 6) (pa_cons (pe_op op_add (pe_ix (ix_tupK (K := K) rfl) (pe_ix (ix_listK (K := K) rfl) (pv 1) (pv 3) (fun _ _ => rfl)) pe_int (fun _ _ => rfl)) pe_int) pa_nil))))
            (pss_one (ps_aug (i := 3) sc_numbers_without.nd rfl (Or.inl rfl) pe_int ip_add)))))
        (pss_cons (ps_set (i := 7) sc_numbers_without.nd rfl (Or.inl rfl) (pv 5))
        (pss_cons (ps_if (pt_cmpR op_lt (pv 3) (pe_callB call_len_seq (by rfl) B.len boot_len (pa_cons (pv 1) pa_nil)) (nomark _))
          (pss_one (ps_set (i := 7) sc_numbers_without.nd rfl (Or.inl rfl) (pe_callB (call_min2 rfl) (by rfl) B.min (by decide +kernel) (pa_cons (pv 5) (pa_cons (pe_op op_sub (pe_ix (ix_tupK (K := K) rfl) (pe_ix (ix_listK (K := K) rfl) (pv 1) (pv 3) (fun _ _ => rfl)) pe_int (fun _ _ => rfl)) pe_int) pa_nil)))))
          pss_nil)
        (pss_one (ps_expr (pe_bm PySem.F.plainAttrs_list PySem.F.slot_list_extend PySem.F.type_list_extend mt_extend (pv 2) (pa_cons (pe_listRg rfl (by rfl) B.list (prg_2 (by rfl) B.range (pv 6) (pe_op op_add (pv 7) pe_int))) pa_nil)))))))))
    (pss_one (ps_ret (pv 2)))))), ?_⟩), g, F.kp, F.bindsN fun _ _ _ _ _ _ us hl => match us, hl with | [_, _], _ => rfl⟩
  · obtain ⟨ra, oa, rw, ow, l, m, rfl, _⟩ := h
    rfl
  · obtain ⟨ra, oa, rw, ow, l, m, rfl, hr, dr, ho, do_, pl, pm, nl, nm, ll, lm, q⟩ := h
    repeat walk_at "h"
    refine ⟨Nat.zero_le _, fun p np => ?_⟩
    have s1 : Stp [] H (upd H p (.lst [])) := .new np
    have p1 : upd H p (.lst []) p = some (.lst ([].map V.int)) := upd_same
    generalize upd H p (.lst []) = H1 at s1 p1 ⊢
    obtain ⟨okl, inl, _⟩ := rgs_ok l pl
    obtain ⟨okm, inm, _⟩ := rgs_ok m pm
    have rll := rgs_len l
    have rlm := rgs_len m
    have rwl : rw.length = (rgs l).length := by have := dr.length; rwa [List.length_map] at this
    have owl : ow.length = (rgs m).length := by have := do_.length; rwa [List.length_map] at this
    have sub : ∀ {ns : List Int}, ns.Pairwise (· < ·) → (∀ x ∈ ns, x ∈ l) → ns.length ≤ 100 := fun h1 h2 => Nat.le_trans (len_sub _ _ (asc_nodup h1) h2) ll
    repeat walk_at "h"
    refine ⟨ra, rfl, ⟨_, s1.seq hr (by simp)⟩, ?_⟩
    refine for_list (xs := rw) (fun i σ H' => ∃ (y4 y5 y6 y7 : Option V) (k : Nat) (ns : List Int) (last : Int), σ = [some (.ref ra), some (.ref oa), some (.ref p), some (.int (k : Int)), y4, y5, y6, y7] ∧ Stp [] H H' ∧ H' p = some (.lst (ns.map V.int)) ∧ NE (rgs m) ((rgs l).take i) last k ns ∧ k ≤ (rgs m).length ∧ (∀ r, (rgs l)[i]? = some r → last < r.1))
      ⟨_, _, _, _, 0, [], -1, rfl, s1, p1, ⟨.nil, fun x hx => (nomatch hx), fun x => ⟨fun hx => (nomatch hx), fun ⟨⟨_, hr, _⟩, _⟩ => (by simp at hr)⟩, fun i o _ hi => (by omega)⟩, Nat.zero_le _, fun r hr => by
        have := (nl r.1 ((inl r.1).mp ⟨r, List.mem_of_getElem? hr, Int.le_refl _, okl.le r (List.mem_of_getElem? hr)⟩)).1
        omega⟩ (fun i σ H' _ ⟨_, _, _, _, _, _, _, _, s, _⟩ => s.seq hr (by simp)) ?_ ?_
    · rintro i v σ H2 hv ⟨y4, y5, y6, y7, k, ns, last, rfl, s2, p2, ne, kl, nx⟩
      obtain ⟨dd, hdd, dv⟩ := (DtsAt.stp s2 _ _ (nms_flat _) dr).getV hv
      rw [List.getElem?_map] at hdd
      obtain ⟨r, hr', rfl⟩ := Option.map_eq_some_iff.mp hdd
      obtain ⟨va, rfl, hva⟩ := nmAt dv
      have rin := List.mem_of_getElem? hr'
      have rle := okl.le r rin
      have r1l := (inl r.1).mp ⟨r, rin, Int.le_refl _, rle⟩
      have r2l := (inl r.2).mp ⟨r, rin, rle, Int.le_refl _⟩
      have st := ne.start (nx r hr')
      have inl' : ∀ x, r.1 ≤ x → x ≤ r.2 → x ∈ l := fun x h1 h2 => (inl x).mp ⟨r, rin, h1, h2⟩
      have tk : (rgs l).take (i + 1) = (rgs l).take i ++ [(r.1, r.2)] := by rw [List.take_add_one, hr']; rfl
      have tin : ∀ x, InR ((rgs l).take i) x → x ∈ l := fun x ⟨q, hq, h⟩ => (inl x).mp ⟨q, List.mem_of_mem_take hq, h⟩
      rw [tk]
      refine i_gTup hva.sqt rfl ?_
      repeat walk_at "h"
      refine ⟨fun j σ H' => ∃ (y7 : Option V) (k : Nat) (ns : List Int) (bg : Int), j = (rgs m).length - k ∧ σ = [some (.ref ra), some (.ref oa), some (.ref p), some (.int (k : Int)), some (.int r.1), some (.int r.2), some (.int bg), y7] ∧ Stp [] H H' ∧ H' p = some (.lst (ns.map V.int)) ∧ NW (rgs m) ((rgs l).take i) r.1 bg k ns ∧ k ≤ (rgs m).length ∧ bg ≤ r.2 + 1,
        ⟨_, _, k, ns, r.1, rfl, rfl, s2, p2, st, kl, by omega⟩, ?_⟩
      clear st ne kl p2 s2 hva dv
      rintro j σ H3 ⟨y7', k, ns, bg, rfl, rfl, s3, p3, st, kl, bl⟩
      repeat walk_at "h"
      refine ⟨oa, ow, rfl, .inl (s3.seq ho (by simp)), ?_⟩
      refine i_I0 ⟨_, rfl, ?_⟩
      refine i_iteD (fun c => ?_) (fun c => ?_)
      · have kl2 : k < (rgs m).length := by rw [← owl]; omega
        obtain ⟨o, hoo⟩ : ∃ o, (rgs m)[k]? = some o := ⟨_, List.getElem?_eq_getElem kl2⟩
        obtain ⟨vo, hvo, dvo⟩ := (DtsAt.stp s3 _ _ (nms_flat _) do_).get (i := k) (d := nmD o) (by rw [List.getElem?_map, hoo]; rfl)
        obtain ⟨oo, rfl, hoa⟩ := nmAt dvo
        have oin := List.mem_of_getElem? hoo
        have ole := okm.le o oin
        have o1m := nm _ ((inm o.1).mp ⟨o, oin, Int.le_refl _, ole⟩)
        have o2m := nm _ ((inm o.2).mp ⟨o, oin, ole, Int.le_refl _⟩)
        have r1n := nl _ r1l
        have r2n := nl _ r2l
        have fb := st.fb
        repeat walk_at "h"
        refine i_IxL (s3.seq ho (by simp)) (at_of (j := k) rfl hvo) ?_
        repeat walk_at "h"
        refine i_IxT hoa.sqt (at_of (j := 1) rfl rfl) ?_
        repeat walk_at "h"
        refine i_iteD (fun c2 => ?_) (fun c2 => ?_)
        · refine ⟨_, fun σ' H' n => ⟨(rgs m).length - (k + 1), by omega, n⟩, ?_⟩
          repeat walk_at "h"
          refine ⟨.inl ⟨rfl, _, SqL.of p3⟩, ?_⟩
          repeat walk_at "h"
          refine i_LstRg (i_Rg2 ?_)
          repeat walk_at "h"
          refine i_IxL (s3.seq ho (by simp)) (at_of (j := k) rfl hvo) ?_
          repeat walk_at "h"
          refine i_IxT hoa.sqt (at_of (j := 0) rfl rfl) ?_
          refine ⟨bg, o.1, rfl, rfl, ⟨by omega, by omega, by omega, by omega, by omega⟩, fun t nt => ?_⟩
          rw [rgV_rg]
          have st2 := st.step okm hoo
          have s4 : Stp [] H3 (upd H3 t (.lst ((rg bg o.1).map V.int))) := .new nt
          have t4 : upd H3 t (.lst ((rg bg o.1).map V.int)) t = some (.lst ((rg bg o.1).map V.int)) := upd_same
          have p4 := s4.keep _ _ p3 (by simp)
          have s04 := s3.trans s4
          have hoa4 := hoa.stp s4
          generalize upd H3 t (.lst ((rg bg o.1).map V.int)) = H4 at s4 t4 p4 s04 hoa4 ⊢
          have nl2 : (ns ++ rg bg o.1).length ≤ 100 := sub st2.asc fun x hx => by
            rcases ((st2.mem x).mp hx).1 with z | ⟨z1, z2⟩
            · exact tin x z
            · refine inl' x z1 ?_
              split at z2 <;> omega
          repeat walk_at "h"
          refine ⟨p, t, _, _, rfl, rfl, p4, t4, Nat.le_trans (show (ns.map V.int).length + ((rg bg o.1).map V.int).length ≤ 100 by rw [List.length_map, List.length_map, ← List.length_append]; exact nl2) (by decide), ?_⟩
          rw [← List.map_append]
          have s5 : Stp [p] H4 (upd H4 p (.lst ((ns ++ rg bg o.1).map V.int))) := .wr (by simp) p4 fun _ z => nomatch z
          have p5 : upd H4 p (.lst ((ns ++ rg bg o.1).map V.int)) p = some (.lst ((ns ++ rg bg o.1).map V.int)) := upd_same
          have s05 := s04.into np s5
          have hoa5 := hoa4.stp s5
          generalize upd H4 p (.lst ((ns ++ rg bg o.1).map V.int)) = H5 at s5 p5 s05 hoa5 ⊢
          repeat walk_at "h"
          refine i_IxL (s05.seq ho (by simp)) (at_of (j := k) rfl hvo) ?_
          repeat walk_at "h"
          refine i_IxT hoa5.sqt (at_of (j := 1) rfl rfl) ?_
          repeat walk_at "h"
          refine ⟨_, _, rfl, ?_⟩
          repeat walk_at "h"
          refine ⟨_, _, rfl, rfl, ?_⟩
          exact ⟨_, k + 1, _, _, rfl, rfl, s05, p5, st2, kl2, by split <;> omega⟩
        · have o2 : r.2 ≤ o.2 := by omega
          have st2 := st.done okm (last := r.2) (e := if o.1 - 1 < r.2 then o.1 - 1 else r.2) rle bl (.inr ⟨o, hoo, o2, rfl⟩)
          have en1 : (if o.1 - 1 < r.2 then o.1 - 1 else r.2) ≤ r.2 ∧ -1 ≤ (if o.1 - 1 < r.2 then o.1 - 1 else r.2) := by split <;> omega
          repeat walk_at "h"
          refine ⟨oa, ow, rfl, .inl (s3.seq ho (by simp)), ?_⟩
          refine i_I0 ⟨_, rfl, ?_⟩
          rw [decide_eq_true (show (k : Int) < (ow.length : Int) by omega)]
          refine iteT ?_
          repeat walk_at "h"
          refine i_IxL (s3.seq ho (by simp)) (at_of (j := k) rfl hvo) ?_
          repeat walk_at "h"
          refine i_IxT hoa.sqt (at_of (j := 0) rfl rfl) ?_
          repeat walk_at "h"
          refine ⟨_, _, rfl, ?_⟩
          generalize (if o.1 - 1 < r.2 then o.1 - 1 else r.2) = en at st2 en1 ⊢
          repeat walk_at "h"
          refine ⟨.inl ⟨rfl, _, SqL.of p3⟩, ?_⟩
          repeat walk_at "h"
          refine i_LstRg (i_Rg2 ?_)
          repeat walk_at "h"
          refine ⟨bg, en + 1, rfl, rfl, ⟨by omega, by omega, by omega, by omega, by omega⟩, fun t nt => ?_⟩
          rw [rgV_rg]
          have s4 : Stp [] H3 (upd H3 t (.lst ((rg bg (en + 1)).map V.int))) := .new nt
          have t4 : upd H3 t (.lst ((rg bg (en + 1)).map V.int)) t = some (.lst ((rg bg (en + 1)).map V.int)) := upd_same
          have p4 := s4.keep _ _ p3 (by simp)
          have s04 := s3.trans s4
          generalize upd H3 t (.lst ((rg bg (en + 1)).map V.int)) = H4 at s4 t4 p4 s04 ⊢
          have nl2 : (ns ++ rg bg (en + 1)).length ≤ 100 := sub st2.asc fun x hx => by
            rcases (inR_app _ _ x).mp ((st2.mem x).mp hx).1 with z | z
            · exact tin x z
            · exact inl' x ((inR_one _ x).mp z).1 ((inR_one _ x).mp z).2
          repeat walk_at "h"
          refine ⟨p, t, _, _, rfl, rfl, p4, t4, Nat.le_trans (show (ns.map V.int).length + ((rg bg (en + 1)).map V.int).length ≤ 100 by rw [List.length_map, List.length_map, ← List.length_append]; exact nl2) (by decide), ?_⟩
          rw [← List.map_append]
          have s5 : Stp [p] H4 (upd H4 p (.lst ((ns ++ rg bg (en + 1)).map V.int))) := .wr (by simp) p4 fun _ z => nomatch z
          repeat walk_at "h"
          exact ⟨_, _, _, _, k, _, r.2, rfl, s04.into np s5, upd_same, st2, kl, fun r' hr2 => okl.at hr' hr2 (by omega)⟩
      · have r1n := nl _ r1l
        have r2n := nl _ r2l
        have fb := st.fb
        obtain ⟨en, hen⟩ : ∃ en : Int, en = r.2 := ⟨_, rfl⟩
        have st2 := st.done okm (last := r.2) (e := en) rle bl (.inl ⟨List.getElem?_eq_none (by omega), hen⟩)
        have en1 : en ≤ r.2 ∧ -1 ≤ en := by omega
        refine iteF ?_
        repeat walk_at "h"
        refine ⟨oa, ow, rfl, .inl (s3.seq ho (by simp)), ?_⟩
        refine i_I0 ⟨_, rfl, ?_⟩
        rw [decide_eq_false (show ¬ (k : Int) < (ow.length : Int) by omega)]
        refine iteF ?_
        rw [← hen]
        repeat walk_at "h"
        refine ⟨.inl ⟨rfl, _, SqL.of p3⟩, ?_⟩
        repeat walk_at "h"
        refine i_LstRg (i_Rg2 ?_)
        repeat walk_at "h"
        refine ⟨bg, en + 1, rfl, rfl, ⟨by omega, by omega, by omega, by omega, by omega⟩, fun t nt => ?_⟩
        rw [rgV_rg]
        have s4 : Stp [] H3 (upd H3 t (.lst ((rg bg (en + 1)).map V.int))) := .new nt
        have t4 : upd H3 t (.lst ((rg bg (en + 1)).map V.int)) t = some (.lst ((rg bg (en + 1)).map V.int)) := upd_same
        have p4 := s4.keep _ _ p3 (by simp)
        have s04 := s3.trans s4
        generalize upd H3 t (.lst ((rg bg (en + 1)).map V.int)) = H4 at s4 t4 p4 s04 ⊢
        have nl2 : (ns ++ rg bg (en + 1)).length ≤ 100 := sub st2.asc fun x hx => by
          rcases (inR_app _ _ x).mp ((st2.mem x).mp hx).1 with z | z
          · exact tin x z
          · exact inl' x ((inR_one _ x).mp z).1 ((inR_one _ x).mp z).2
        repeat walk_at "h"
        refine ⟨p, t, _, _, rfl, rfl, p4, t4, Nat.le_trans (show (ns.map V.int).length + ((rg bg (en + 1)).map V.int).length ≤ 100 by rw [List.length_map, List.length_map, ← List.length_append]; exact nl2) (by decide), ?_⟩
        rw [← List.map_append]
        have s5 : Stp [p] H4 (upd H4 p (.lst ((ns ++ rg bg (en + 1)).map V.int))) := .wr (by simp) p4 fun _ z => nomatch z
        repeat walk_at "h"
        subst hen
        exact ⟨_, _, _, _, k, _, r.2, rfl, s04.into np s5, upd_same, st2, kl, fun r' hr2 => okl.at hr' hr2 (by omega)⟩
    · rintro σ H2 ⟨y4, y5, y6, y7, k, ns, last, rfl, s2, p2, ne, kl, nx⟩
      rw [rwl, List.take_length] at ne
      repeat walk_at "h"
      rw [ne.all pl pm] at p2
      exact q p H2 np p2 s2
end

/-! ### what a replica tells: its ranges by senders -/
section
variable {P : Program} {w : World} {K : PySem.W.Frag} {mg : Str → Option Value} {base : Heap} {C CS : Addr}
def numsM (ms : List MRow) (p : Int) : List Int := (ms.filter fun m => decide (m.1.1 = p)).map (·.1.2)
def rowD (rs : List Nm) : Dt := .lst (rs.map nmD)
def toldR (ms : List MRow) : List (List Nm) := (List.range 8).map fun p : Nat => rgs (sset (numsM ms p))
theorem numsM_app (a b : List MRow) (p : Int) : numsM (a ++ b) p = numsM a p ++ numsM b p := by simp [numsM]
theorem ky_nm {H : Hp} {a : Addr} {n : Nm} (h : KyAt K H (.ref a) (nmD n).key) : TupAt K H a [.int n.1, .int n.2] := by
  obtain ⟨d, f, e, _, hd⟩ := h
  have e2 := Dt.key_inj _ _ f rfl e
  subst e2
  obtain ⟨a2, ea, h⟩ := nmAt hd
  cases ea
  exact h
def RowAt (K : PySem.W.Frag) (H : Hp) (p : Addr) (v : V) (rs : List Nm) : Prop := ∃ (a : Addr) (ws : List V), v = .ref a ∧ a ≠ p ∧ H a = some (.lst ws) ∧ DtsAt K H ws (rs.map nmD)
theorem rows_stp {H H1 : Hp} {p : Addr} {M : List Addr} {vs : List V} {rs : List (List Nm)} (h : Paired (RowAt K H p) vs rs) (s : Stp M H H1) (n : ∀ a, a ≠ p → a ∉ M) : Paired (RowAt K H1 p) vs rs := by
  induction h with
  | nil => exact .nil
  | cons x _ ih =>
    obtain ⟨a, ws, e, ne, h1, h2⟩ := x
    exact .cons ⟨a, ws, e, ne, s.keep _ _ h1 (n a ne), DtsAt.stp s _ _ (nms_flat _) h2⟩ ih
theorem rows_dts {H : Hp} {p : Addr} {vs : List V} {rs : List (List Nm)} (h : Paired (RowAt K H p) vs rs) : DtsAt K H vs (rs.map rowD) := by
  induction h with
  | nil => exact .nil
  | cons x _ ih =>
    obtain ⟨a, ws, e, _, h1, h2⟩ := x
    rw [e]
    exact .cons (.lst (SqL.of h1) h2) ih
def spTold (P : Program) (w : World) (K : PySem.W.Frag) (C CS : Addr) : Sp := fun vs H Q _ => ∃ (a : RA) (s : RS), vs = [.ref a.r] ∧ RpAt P w K C CS H a s ∧ s.ms.length < 64 ∧
  ∀ (p : Addr) (ws : List V) (H1 : Hp), H p = none → H1 p = some (.lst ws) → DtsAt K H1 ws ((toldR s.ms).map rowD) → Stp [] H H1 → Q (.ref p) H1
theorem cal_told (F : Df K mg d_told) (B : Blt mg) (S : RpC K C) (N : Con0 mg) (C_ranges_of : Cal P w K mg base lv_ranges_of "ranges_of" ["numbers"] (spRgs K)) : Cal P w K mg base lv_told "told" ["replica"] (spTold P w K C CS) := by
  obtain ⟨f, fd, F, g⟩ := F
  refine ⟨f, fd, F.ok sc_told (fun vs H Q E h => ?_) (fun cdv A outer s H vs Q E hr h => ⟨_, PSs.nox
    (pss_one (ps_ret (pe_lc (own := [("peer", 1)]) (g := gName 1) (by rfl) sc_told.nd (pi_range1 rfl B.range (pa_cons (pe_op op_add (pe_gi rfl N.GREATEST_PEER) pe_int) pa_nil)) (blkOk_by (N := ["replica", "peer", "sender", "number"]) (own := [("peer", 1)]) (sc := defScope s_told) (by decide +kernel)) (fun _ _ _ _ _ => (pg_name (i := 1) sc_told.nd rfl (Or.inr rfl))) (fun _ _ _ _ _ => pts_nil) (fun _ _ _ _ _ => (pc_call C_ranges_of (hr.mono (by decide)) (by rfl) (pa_cons (pe_lock (pe_lc (own := [("sender", 2), ("number", 3)]) (g := gTup _ 2 (gCons (gName 2) (gCons (gName 3) gNil))) (by rfl) sc_told.nd (pi_nK (P := P) (w := w) rfl rfl (pe_fldK (K := K) rfl (pv 0) rfl)) (blkOk_by (N := ["replica", "peer", "sender", "number"]) (own := [("sender", 2), ("number", 3)]) (sc := _) (by rfl)) (fun _ _ _ _ _ => (pg_tup (by rfl) (pgs_cons (pg_name (i := 2) sc_told.nd rfl (Or.inl rfl)) (pgs_cons (pg_name (i := 3) sc_told.nd rfl (Or.inl rfl)) pgs_nil)))) (fun _ _ _ _ _ => (pts_one (pt_cmpR op_eq (pv 2) (pv 1) (nomark _)))) (fun _ _ _ _ _ => (pv 3)))) pa_nil)))))), ?_⟩), g, F.kp, F.bindsN fun _ _ _ _ _ _ us hl => match us, hl with | [_], _ => rfl⟩
  · obtain ⟨a, s, rfl, _⟩ := h
    rfl
  · obtain ⟨a, s, rfl, R, l6, q⟩ := h
    repeat walk_at "h"
    refine i_Lc ?_
    repeat walk_at "h"
    refine ⟨8, rfl, by decide, by decide, fun p np => ?_⟩
    refine lc_range (lo := 0) (n := (8 : Int).toNat) (fun i H' => Stp [] H H' ∧ ∃ acc, H' p = some (.lst acc) ∧ Paired (RowAt K H' p) acc ((toldR s.ms).take i)) ⟨.new np, [], upd_same, .nil⟩ ?_ ?_
    · rintro j H2 hj ⟨s2, acc, h2, d2⟩
      have R2 := R.grow s2
      repeat walk_at "h"
      refine ⟨rfl, i_Yes ?_⟩
      refine i_ite (fun _ => ?_) (fun z => nomatch z)
      repeat walk_at "h"
      refine lockE_nd R2.mw.nd fun o xs hxs kx ex => ?_
      have s0 : Stp [a.ml] H2 (upd H2 a.ml (.frz o (ndO P w a.ml xs))) := Stp.lock ex ndO_nt
      refine i_Lc (i_Nk ?_)
      repeat walk_at "h"
      have r0 : upd H2 a.ml (.frz o (ndO P w a.ml xs)) a.r = some (.ins C a.dx (rpF a s.p s.ck s.bg)) := by rw [upd_ne R2.r_ml]; exact R2.at_
      have d0 : upd H2 a.ml (.frz o (ndO P w a.ml xs)) a.ml = some (.frz o (ndO P w a.ml xs)) := upd_same
      have kx0 := kx.stp s0
      refine ⟨a.r, C, a.dx, _, .ref a.ml, rfl, r0, S.cls, S.messages, rfl, a.ml, o, xs, rfl, d0, fun l hl0 => ?_⟩
      have dl : a.ml ≠ l := ne_of_none d0 hl0
      have xl : xs.length = s.ms.length := by rw [← plainX_len, hxs]; simp [mKvs]
      generalize upd H2 a.ml (.frz o (ndO P w a.ml xs)) = H0 at s0 r0 d0 kx0 hl0 ⊢
      refine lc_n (xs := xs) (fun i H' => Stp [] H0 H' ∧ H' l = some (.lst ((numsM (s.ms.take i) (0 + (j : Int))).map V.int))) ⟨.new hl0, upd_same⟩ (fun i H' _ h => h.1.keep _ _ d0 (by simp)) ?_ ?_
      · rintro i e H1 he ⟨s1, h1⟩
        have e1 := plainX_at he
        rw [hxs] at e1
        unfold mKvs at e1
        rw [List.getElem?_map] at e1
        obtain ⟨m, hm, em⟩ := Option.map_eq_some_iff.mp e1
        have ek : (nmD m.1).key = e.1 := congrArg Prod.fst em
        have ky := (kx0 e (List.mem_of_getElem? he)).stp s1
        rw [← ek] at ky
        have ht := ky_nm ky
        have il := (List.getElem?_eq_some_iff.mp hm).1
        have tk : s.ms.take (i + 1) = s.ms.take i ++ [m] := by rw [List.take_add_one, hm]; rfl
        rw [tk, numsM_app]
        have nl : (numsM (s.ms.take i) (0 + (j : Int))).length ≤ 64 := by
          unfold numsM
          rw [List.length_map]
          refine Nat.le_trans (List.length_filter_le _ _) ?_
          rw [List.length_take]; omega
        refine i_gTup ht.sqt rfl ?_
        repeat walk_at "h"
        refine ⟨rfl, ?_⟩
        repeat walk_at "h"
        refine i_iteD (fun c => ?_) (fun c => ?_)
        · have c1 : m.1.1 = 0 + (j : Int) := by injection c
          repeat walk_at "h"
          refine ⟨_, h1, Nat.lt_of_le_of_lt (show _ ≤ 64 by rw [List.length_map]; exact nl) (by decide), s1.mut hl0, ?_⟩
          rw [upd_same, List.map_append]
          simp [numsM, c1]
        · have c1 : ¬ m.1.1 = 0 + (j : Int) := fun z => c (by rw [z])
          have c2 : ¬ m.1.1 = (j : Int) := fun z => c1 (by rw [z]; omega)
          refine ⟨s1, ?_⟩
          rw [h1]
          simp [numsM, c2]
      rintro H1 ⟨s1, h1⟩
      have dd1 := s1.keep _ _ d0 (by simp)
      refine ⟨dd1, ?_⟩
      have sH : Stp [] H2 (upd H1 a.ml (ndO P w a.ml xs)) := Stp.unlock (s0.trans (s1.mono (by simp))) ex ndO_nt
      have l3 : upd H1 a.ml (ndO P w a.ml xs) l = some (.lst ((numsM (s.ms.take xs.length) (0 + (j : Int))).map V.int)) := by rw [upd_ne dl.symm]; exact h1
      rw [xl, List.take_length] at l3
      generalize upd H1 a.ml (ndO P w a.ml xs) = H3 at sH l3 ⊢
      have nl : (numsM s.ms (0 + (j : Int))).length < 64 := by
        unfold numsM
        rw [List.length_map]
        exact Nat.lt_of_le_of_lt (List.length_filter_le _ _) l6
      repeat walk_at "h"
      refine ⟨l, _, rfl, SqL.of l3, nl, fun q2 ws H4 nq2 h4 d4 s4 => ?_⟩
      have s24 := sH.trans s4
      have p4 := s24.keep _ _ h2 (by simp)
      have pq : q2 ≠ p := by
        have := sH.keep _ _ h2 (by simp)
        exact (ne_of_none this nq2).symm
      have al : acc.length ≤ 8 := by
        have := Paired.length d2
        rw [List.length_take] at this
        have tl : (toldR s.ms).length = 8 := by simp [toldR]
        omega
      have s5 : Stp [p] H4 (upd H4 p (.lst (acc ++ [.ref q2]))) := .wr (by simp) p4 fun _ z => nomatch z
      refine ⟨acc, p4, Nat.lt_of_le_of_lt al (by decide), (s2.trans s24).mut np, _, upd_same, ?_⟩
      have tk : (toldR s.ms).take (j + 1) = (toldR s.ms).take j ++ [rgs (sset (numsM s.ms (0 + (j : Int))))] := by
        have j8 : j < 8 := hj
        rw [List.take_add_one]
        have : (toldR s.ms)[j]? = some (rgs (sset (numsM s.ms (0 + (j : Int))))) := by
          unfold toldR
          rw [List.getElem?_map, List.getElem?_range j8, Int.zero_add]; rfl
        rw [this]; rfl
      rw [tk]
      exact Paired.snoc (rows_stp (rows_stp d2 s24 (fun z => by simp)) s5 (fun z hz => by simpa using hz)) ⟨q2, ws, rfl, pq, s5.keep _ _ h4 (by simpa using pq), DtsAt.stp s5 _ _ (nms_flat _) d4⟩
    · rintro H2 ⟨s2, acc, h2, d2⟩
      have tl : (toldR s.ms).length = 8 := by simp [toldR]
      rw [show (8 : Int).toNat = (toldR s.ms).length by rw [tl]; rfl, List.take_length] at d2
      exact q p acc H2 np h2 (rows_dts d2) s2
end

/-! ### what the law tells by itself; what is lacking -/
section
variable {P : Program} {w : World} {K : PySem.W.Frag} {mg : Str → Option Value} {base : Heap} {C CS : Addr}
def numsK (ks : List Nm) (p : Int) : List Int := (ks.filter fun k => decide (k.1 = p)).map (·.2)
theorem numsK_app (a b : List Nm) (p : Int) : numsK (a ++ b) p = numsK a p ++ numsK b p := by simp [numsK]
theorem numsM_K (ms : List MRow) (p : Int) : numsM ms p = numsK (ms.map (·.1)) p := by
  unfold numsM numsK
  rw [List.filter_map, List.map_map]; rfl
def toldK (ks : List Nm) : List (List Nm) := (List.range 8).map fun p : Nat => rgs (sset (numsK ks p))
theorem toldR_K (ms : List MRow) : toldR ms = toldK (ms.map (·.1)) := by
  unfold toldR toldK
  exact List.map_congr_left fun p _ => by rw [numsM_K]
def spToldL (K : PySem.W.Frag) : Sp := fun vs H Q _ => ∃ (a : Addr) (kw : List V) (ks : List Nm), vs = [.ref a] ∧ H a = some (.lst kw) ∧ DtsAt K H kw (ks.map nmD) ∧ ks.length < 64 ∧
  ∀ (p : Addr) (ws : List V) (H1 : Hp), H p = none → H1 p = some (.lst ws) → DtsAt K H1 ws ((toldK ks).map rowD) → Stp [] H H1 → Q (.ref p) H1
theorem cal_law_told (F : Df K mg d_law_told) (B : Blt mg) (C_law_ranges : Cal P w K mg base lv_law_ranges "_law_ranges" ["numbers"] (spRgs K)) : Cal P w K mg base lv_law_told "_law_told" ["keys"] (spToldL K) := by
  obtain ⟨f, fd, F, g⟩ := F
  refine ⟨f, fd, F.ok sc_law_told (fun vs H Q E h => ?_) (fun cdv A outer s H vs Q E hr h => ⟨_, PSs.nox
    (pss_one (ps_ret (pe_lc (own := [("sender", 1)]) (g := gName 1) (by rfl) sc_law_told.nd (pi_range1 rfl B.range (pa_cons pe_int pa_nil)) (blkOk_by (N := ["keys", "sender", "key"]) (own := [("sender", 1)]) (sc := defScope s_law_told) (by decide +kernel)) (fun _ _ _ _ _ => (pg_name (i := 1) sc_law_told.nd rfl (Or.inr rfl))) (fun _ _ _ _ _ => pts_nil) (fun _ _ _ _ _ => (pc_call C_law_ranges (hr.mono (by decide)) (by rfl) (pa_cons (pe_lc (own := [("key", 2)]) (g := gName 2) (by rfl) sc_law_told.nd (pi_listK (K := K) rfl (pv 0)) (blkOk_by (N := ["keys", "sender", "key"]) (own := [("key", 2)]) (sc := _) (by rfl)) (fun _ _ _ _ _ => (pg_name (i := 2) sc_law_told.nd rfl (Or.inl rfl))) (fun _ _ _ _ _ => (pts_one (pt_cmpR op_eq (pe_ix (ix_tupK (K := K) rfl) (pv 2) pe_int (fun _ _ => rfl)) (pv 1) (nomark _)))) (fun _ _ _ _ _ => (pe_ix (ix_tupK (K := K) rfl) (pv 2) pe_int (fun _ _ => rfl)))) pa_nil)))))), ?_⟩), g, F.kp, F.bindsN fun _ _ _ _ _ _ us hl => match us, hl with | [_], _ => rfl⟩
  · obtain ⟨a, kw, ks, rfl, _⟩ := h
    rfl
  · obtain ⟨a, kw, ks, rfl, hk, dk, l6, q⟩ := h
    have kwl : kw.length = ks.length := by have := dk.length; rwa [List.length_map] at this
    repeat walk_at "h"
    refine i_Lc ?_
    repeat walk_at "h"
    refine ⟨8, rfl, by decide, by decide, fun p np => ?_⟩
    refine lc_range (lo := 0) (n := (8 : Int).toNat) (fun i H' => Stp [] H H' ∧ ∃ acc, H' p = some (.lst acc) ∧ Paired (RowAt K H' p) acc ((toldK ks).take i)) ⟨.new np, [], upd_same, .nil⟩ ?_ ?_
    · rintro j H2 hj ⟨s2, acc, h2, d2⟩
      have hk2 := s2.keep _ _ hk (by simp)
      have dk2 := DtsAt.stp s2 _ _ (nms_flat _) dk
      repeat walk_at "h"
      refine ⟨rfl, i_Yes ?_⟩
      refine i_ite (fun _ => ?_) (fun z => nomatch z)
      repeat walk_at "h"
      refine i_Lc (i_List (i_var rfl ⟨a, rfl, ⟨_, SqL.of hk2⟩, fun l hl0 => ?_⟩))
      refine lc_list (xs := kw) (fun i H' => Stp [] H2 H' ∧ H' l = some (.lst ((numsK (ks.take i) (0 + (j : Int))).map V.int))) ⟨.new hl0, upd_same⟩ (fun i H' _ h => SqL.of (h.1.keep _ _ hk2 (by simp))) ?_ ?_
      · rintro i v H1 hv ⟨s1, h1⟩
        obtain ⟨dd, hdd, dv⟩ := (DtsAt.stp s1 _ _ (nms_flat _) dk2).getV hv
        rw [List.getElem?_map] at hdd
        obtain ⟨k, hk', rfl⟩ := Option.map_eq_some_iff.mp hdd
        obtain ⟨ka, rfl, hka⟩ := nmAt dv
        have tk : ks.take (i + 1) = ks.take i ++ [k] := by rw [List.take_add_one, hk']; rfl
        rw [tk, numsK_app]
        have nl : (numsK (ks.take i) (0 + (j : Int))).length ≤ 64 := by
          unfold numsK
          rw [List.length_map]
          refine Nat.le_trans (List.length_filter_le _ _) ?_
          rw [List.length_take]; omega
        repeat walk_at "h"
        refine ⟨rfl, ?_⟩
        repeat walk_at "h"
        refine i_IxT hka.sqt (at_of (j := 0) rfl rfl) ?_
        repeat walk_at "h"
        refine i_iteD (fun c => ?_) (fun c => ?_)
        · have c1 : k.1 = 0 + (j : Int) := by injection c
          repeat walk_at "h"
          refine i_IxT hka.sqt (at_of (j := 1) rfl rfl) ?_
          refine ⟨_, h1, Nat.lt_of_le_of_lt (show _ ≤ 64 by rw [List.length_map]; exact nl) (by decide), s1.mut hl0, ?_⟩
          rw [upd_same, List.map_append]
          simp [numsK, c1]
        · have c1 : ¬ k.1 = 0 + (j : Int) := fun z => c (by rw [z])
          have c2 : ¬ k.1 = (j : Int) := fun z => c1 (by rw [z]; omega)
          refine ⟨s1, ?_⟩
          rw [h1]
          simp [numsK, c2]
      rintro H3 ⟨sH, l3⟩
      rw [kwl, List.take_length] at l3
      have nl : (numsK ks (0 + (j : Int))).length < 64 := by
        unfold numsK
        rw [List.length_map]
        exact Nat.lt_of_le_of_lt (List.length_filter_le _ _) l6
      repeat walk_at "h"
      refine ⟨l, _, rfl, SqL.of l3, nl, fun q2 ws H4 nq2 h4 d4 s4 => ?_⟩
      have s24 := sH.trans s4
      have p4 := s24.keep _ _ h2 (by simp)
      have pq : q2 ≠ p := by
        have := sH.keep _ _ h2 (by simp)
        exact (ne_of_none this nq2).symm
      have tl : (toldK ks).length = 8 := by simp [toldK]
      have al : acc.length ≤ 8 := by
        have := Paired.length d2
        rw [List.length_take] at this
        omega
      have s5 : Stp [p] H4 (upd H4 p (.lst (acc ++ [.ref q2]))) := .wr (by simp) p4 fun _ z => nomatch z
      refine ⟨acc, p4, Nat.lt_of_le_of_lt al (by decide), (s2.trans s24).mut np, _, upd_same, ?_⟩
      have tk : (toldK ks).take (j + 1) = (toldK ks).take j ++ [rgs (sset (numsK ks (0 + (j : Int))))] := by
        have j8 : j < 8 := hj
        rw [List.take_add_one]
        have : (toldK ks)[j]? = some (rgs (sset (numsK ks (0 + (j : Int))))) := by
          unfold toldK
          rw [List.getElem?_map, List.getElem?_range j8, Int.zero_add]; rfl
        rw [this]; rfl
      rw [tk]
      exact Paired.snoc (rows_stp (rows_stp d2 s24 (fun z => by simp)) s5 (fun z hz => by simpa using hz)) ⟨q2, ws, rfl, pq, s5.keep _ _ h4 (by simpa using pq), DtsAt.stp s5 _ _ (nms_flat _) d4⟩
    · rintro H2 ⟨s2, acc, h2, d2⟩
      have tl : (toldK ks).length = 8 := by simp [toldK]
      rw [show (8 : Int).toNat = (toldK ks).length by rw [tl]; rfl, List.take_length] at d2
      exact q p acc H2 np h2 (rows_dts d2) s2
end

/-! ### what is lacking -/
section
variable {P : Program} {w : World} {K : PySem.W.Frag} {mg : Str → Option Value} {base : Heap} {C CS : Addr}
def lackP (ks kt : List Nm) (p : Nat) : List Nm := ((sset (numsK kt p)).filter fun x => decide (x ∉ sset (numsK ks p))).map fun n => ((p : Int), n)
def lackK (ks kt : List Nm) : List Nm := ((List.range 8).map (lackP ks kt)).flatten
def KeysOk (ks : List Nm) : Prop := ks.length < 64 ∧ ∀ k ∈ ks, 0 ≤ k.2 ∧ k.2 ≤ 1000000
theorem KeysOk.nums {ks : List Nm} (h : KeysOk ks) (p : Int) : Num6 (sset (numsK ks p)) ∧ (sset (numsK ks p)).length ≤ 63 := by
  refine ⟨fun x hx => ?_, ?_⟩
  · have hx := (sset_mem _ _).mp hx
    unfold numsK at hx
    obtain ⟨k, hk, rfl⟩ := List.mem_map.mp hx
    exact h.2 k (List.mem_filter.mp hk).1
  · have h1 := sset_le (numsK ks p)
    have h2 : (numsK ks p).length ≤ ks.length := by
      unfold numsK
      rw [List.length_map]
      exact List.length_filter_le _ _
    have := h.1
    omega
theorem rowAt {H : Hp} {v : V} {rs : List Nm} (h : DtAt K H v (rowD rs)) : ∃ a xs, v = .ref a ∧ SqL K H a xs ∧ DtsAt K H xs (rs.map nmD) := by
  unfold rowD at h
  cases h with
  | lst h1 h2 => exact ⟨_, _, rfl, h1, h2⟩
theorem toldK_at (ks : List Nm) {i : Nat} (h : i < 8) : (toldK ks)[i]? = some (rgs (sset (numsK ks i))) := by
  unfold toldK
  rw [List.getElem?_map, List.getElem?_range h]; rfl
theorem told_get {H : Hp} {tw : List V} {ks : List Nm} (d : DtsAt K H tw ((toldK ks).map rowD)) {i : Nat} (h : i < 8) : ∃ a xs, tw[i]? = some (.ref a) ∧ SqL K H a xs ∧ DtsAt K H xs ((rgs (sset (numsK ks i))).map nmD) := by
  obtain ⟨v, hv, dv⟩ := d.get (i := i) (d := rowD (rgs (sset (numsK ks i)))) (by rw [List.getElem?_map, toldK_at ks h]; rfl)
  obtain ⟨a, xs, rfl, h1, h2⟩ := rowAt dv
  exact ⟨a, xs, hv, h1, h2⟩
theorem flat_len {α β : Type} {f : α → List β} {n : Nat} (h : ∀ x, (f x).length ≤ n) : ∀ l : List α, ((l.map f).flatten).length ≤ n * l.length
  | [] => by simp
  | x :: l => by
    have h1 := h x
    have h2 := flat_len h l
    rw [List.map_cons, List.flatten_cons, List.length_append, List.length_cons, Nat.mul_add]
    omega
def spLacking (K : PySem.W.Frag) : Sp := fun vs H Q _ => ∃ (ma ta : Addr) (mw tw : List V) (ks kt : List Nm), vs = [.ref ma, .ref ta] ∧ H ma = some (.lst mw) ∧ DtsAt K H mw ((toldK ks).map rowD) ∧ H ta = some (.lst tw) ∧ DtsAt K H tw ((toldK kt).map rowD) ∧ KeysOk ks ∧ KeysOk kt ∧
  ∀ (p : Addr) (ws : List V) (H1 : Hp), H p = none → H1 p = some (.lst ws) → DtsAt K H1 ws ((lackK ks kt).map nmD) → Stp [] H H1 → Q (.ref p) H1
theorem cal_lacking (F : Df K mg d_lacking) (B : Blt mg) (C_numbers_without : Cal P w K mg base lv_numbers_without "_numbers_without" ["ranges", "others"] (spWithout K)) : Cal P w K mg base lv_lacking "lacking" ["mine", "theirs"] (spLacking K) := by
  obtain ⟨f, fd, F, g⟩ := F
  refine ⟨f, fd, F.ok sc_lacking (fun vs H Q E h => ?_) (fun cdv A outer s H vs Q E hr h => ⟨_, PSs.nox
    (pss_cons (ps_set (i := 2) sc_lacking.nd rfl (Or.inl rfl) (pe_lst pa_nil))
    (pss_cons (ps_for PassesOwn.never rfl (pi_enum (by rfl) B.enumerate (pa_cons (pv 1) pa_nil)) (pg_tup (by rfl) (pgs_cons (pg_name (i := 3) sc_lacking.nd rfl (Or.inr rfl)) (pgs_cons (pg_name (i := 4) sc_lacking.nd rfl (Or.inl rfl)) pgs_nil)))
      (pss_one (ps_expr (pe_bm PySem.F.plainAttrs_list PySem.F.slot_list_extend PySem.F.type_list_extend mt_extend (pv 2) (pa_cons (pe_lc (own := [("number", 5)]) (g := gName 5) (by rfl) sc_lacking.nd (pi_list (pc_call C_numbers_without (hr.mono (by decide)) (by rfl) (pa_cons (pv 4) (pa_cons (pe_ix (ix_listK (K := K) rfl) (pv 0) (pv 3) (fun _ _ => rfl)) pa_nil)))) (blkOk_by (N := ["mine", "theirs", "lacks", "sender", "ranges", "number"]) (own := [("number", 5)]) (sc := defScope s_lacking) (by decide +kernel)) (fun _ _ _ _ _ => (pg_name (i := 5) sc_lacking.nd rfl (Or.inl rfl))) (fun _ _ _ _ _ => pts_nil) (fun _ _ _ _ _ => (pe_tup (pa_cons (pv 3) (pa_cons (pv 5) pa_nil))))) pa_nil)))))
    (pss_one (ps_ret (pv 2))))), ?_⟩), g, F.kp, F.bindsN fun _ _ _ _ _ _ us hl => match us, hl with | [_, _], _ => rfl⟩
  · obtain ⟨ma, ta, mw, tw, ks, kt, rfl, _⟩ := h
    rfl
  · obtain ⟨ma, ta, mw, tw, ks, kt, rfl, hm, dm, ht, dt, okm, okt, q⟩ := h
    repeat walk_at "h"
    refine ⟨Nat.zero_le _, fun p np => ?_⟩
    have s1 : Stp [] H (upd H p (.lst [])) := .new np
    have p1 : upd H p (.lst []) p = some (.lst []) := upd_same
    generalize upd H p (.lst []) = H1 at s1 p1 ⊢
    repeat walk_at "h"
    refine i_Enum ?_
    repeat walk_at "h"
    refine ⟨ta, tw, rfl, SqL.of (s1.keep _ _ ht (by simp)), ?_⟩
    have twl : tw.length = 8 := by have := dt.length; simpa [toldK] using this
    refine for_enum (xs := tw) (fun i σ H' => ∃ (y3 y4 y5 : Option V) (ws : List V), σ = [some (.ref ma), some (.ref ta), some (.ref p), y3, y4, y5] ∧ Stp [] H H' ∧ H' p = some (.lst ws) ∧ DtsAt K H' ws (((((List.range 8).take i).map (lackP ks kt)).flatten).map nmD))
      ⟨_, _, _, [], rfl, s1, p1, .nil⟩ (fun i σ H' _ ⟨_, _, _, _, _, s, _⟩ => SqL.of (s.keep _ _ ht (by simp))) ?_ ?_
    · rintro i v T σ H2 hv nT ⟨y3, y4, y5, ws, rfl, s2, p2, d2⟩
      have i8 : i < 8 := by have := (List.getElem?_eq_some_iff.mp hv).1; omega
      obtain ⟨ra, rw, ev, hr, dr⟩ := told_get dt i8
      obtain ⟨oa, ow, eo, ho, do_⟩ := told_get dm i8
      rw [hv] at ev
      cases ev
      obtain ⟨nk, lk⟩ := okm.nums (i : Int)
      obtain ⟨nt, lt⟩ := okt.nums (i : Int)
      have s3 : Stp [] H2 (upd H2 T (.tup [.int (i : Nat), .ref ra])) := .new nT
      have tT : TupAt K (upd H2 T (.tup [.int (i : Nat), .ref ra])) T [.int (i : Nat), .ref ra] := .inl upd_same
      have p3 := s3.keep _ _ p2 (by simp)
      have d3 := DtsAt.stp s3 _ _ (nms_flat _) d2
      have s03 := s2.trans s3
      generalize upd H2 T (.tup [.int (i : Nat), .ref ra]) = H3 at s3 tT p3 d3 s03 ⊢
      clear s3 p2 d2 s2 nT
      refine i_gTup tT.sqt rfl ?_
      repeat walk_at "h"
      refine ⟨.inl ⟨rfl, _, SqL.of p3⟩, ?_⟩
      repeat walk_at "h"
      refine i_Lc (i_List ?_)
      repeat walk_at "h"
      refine i_IxL (SqL.of (s03.keep _ _ hm (by simp))) (at_of (j := i) rfl eo) ?_
      repeat walk_at "h"
      refine ⟨ra, oa, rw, ow, sset (numsK kt i), sset (numsK ks i), rfl, s03.seq hr (by simp), DtsAt.stp s03 _ _ (nms_flat _) dr, s03.seq ho (by simp), DtsAt.stp s03 _ _ (nms_flat _) do_, sset_asc _, sset_asc _, nt, nk, by omega, by omega, fun np2 H4 nnp h4 s4 => ?_⟩
      have p4 := s4.keep _ _ p3 (by simp)
      have d4 := DtsAt.stp s4 _ _ (nms_flat _) d3
      have s04 := s03.trans s4
      clear s4 p3 d3 s03 tT hr dr ho do_
      obtain ⟨fl, hfl⟩ : ∃ fl, ((sset (numsK kt i)).filter fun x => decide (x ∉ sset (numsK ks i))) = fl := ⟨_, rfl⟩
      have lfl : fl.length ≤ 63 := by rw [← hfl]; exact Nat.le_trans (List.length_filter_le _ _) lt
      have elp : lackP ks kt i = fl.map fun n => ((i : Int), n) := by rw [← hfl]; rfl
      rw [hfl] at h4
      refine ⟨np2, rfl, ⟨_, SqL.of h4⟩, fun l hl0 => ?_⟩
      refine lc_list (xs := fl.map V.int) (fun k H' => Stp [] H4 H' ∧ ∃ acc, H' l = some (.lst acc) ∧ DtsAt K H' acc (((fl.take k).map fun n => ((i : Int), n)).map nmD)) ⟨.new hl0, [], upd_same, .nil⟩ (fun k H' _ h => SqL.of (h.1.keep _ _ h4 (by simp))) ?_ ?_
      · rintro k x H5 hx ⟨s5, acc, h5, d5⟩
        rw [List.getElem?_map] at hx
        obtain ⟨n, hn, rfl⟩ := Option.map_eq_some_iff.mp hx
        have tk : fl.take (k + 1) = fl.take k ++ [n] := by rw [List.take_add_one, hn]; rfl
        have al : acc.length ≤ 63 := by
          have := d5.length
          rw [List.length_map, List.length_map, List.length_take] at this
          omega
        rw [tk]
        repeat walk_at "h"
        refine ⟨rfl, ?_⟩
        repeat walk_at "h"
        refine iteT ?_
        repeat walk_at "h"
        refine ⟨(by decide : 2 ≤ sizeLine), fun t nt2 => ?_⟩
        have s6 : Stp [] H5 (upd H5 t (.tup [.int (i : Nat), .int n])) := .new nt2
        have t6 : DtAt K (upd H5 t (.tup [.int (i : Nat), .int n])) (.ref t) (nmD ((i : Int), n)) := nm_mk (n := ((i : Int), n)) upd_same
        have h6 := s6.keep _ _ h5 (by simp)
        have d6 := DtsAt.stp s6 _ _ (nms_flat _) d5
        generalize upd H5 t (.tup [.int (i : Nat), .int n]) = H6 at s6 t6 h6 d6 ⊢
        have s7 : Stp [l] H6 (upd H6 l (.lst (acc ++ [.ref t]))) := .wr (by simp) h6 fun _ z => nomatch z
        refine ⟨acc, h6, Nat.lt_of_le_of_lt al (by decide), (s5.trans s6).into hl0 s7, _, upd_same, ?_⟩
        rw [List.map_append, List.map_append]
        exact (DtsAt.stp s7 _ _ (nms_flat _) d6).append (.cons (DtAt.stp s7 _ _ rfl t6) .nil)
      rintro H5 ⟨s5, acc, h5, d5⟩
      rw [List.length_map, List.take_length] at d5
      have p5 := s5.keep _ _ p4 (by simp)
      have d45 := DtsAt.stp s5 _ _ (nms_flat _) d4
      have wl : ws.length ≤ 63 * i := by
        have := d4.length
        rw [List.length_map] at this
        have h2 := flat_len (f := lackP ks kt) (n := 63) (fun x => by
          unfold lackP
          rw [List.length_map]
          exact Nat.le_trans (List.length_filter_le _ _) (okt.nums (x : Int)).2) ((List.range 8).take i)
        rw [List.length_take, List.length_range] at h2
        omega
      have al : acc.length ≤ 63 := by
        have := d5.length
        rw [List.length_map, List.length_map] at this
        omega
      repeat walk_at "h"
      refine ⟨p, l, ws, acc, rfl, rfl, p5, h5, Nat.le_trans (show ws.length + acc.length ≤ 1000 by omega) (by decide), ?_⟩
      have s6 : Stp [p] H5 (upd H5 p (.lst (ws ++ acc))) := .wr (by simp) p5 fun _ z => nomatch z
      repeat walk_at "h"
      refine ⟨_, _, _, ws ++ acc, rfl, (s04.trans s5).into np s6, upd_same, ?_⟩
      have tk8 : (List.range 8).take (i + 1) = (List.range 8).take i ++ [i] := by rw [List.take_add_one, List.getElem?_range i8]; rfl
      rw [tk8, List.map_append, List.flatten_append, List.map_append]
      refine (DtsAt.stp s6 _ _ (nms_flat _) d45).append ?_
      have e1 : ([i].map (lackP ks kt)).flatten = fl.map fun n => ((i : Int), n) := by simp [elp]
      rw [e1]
      exact DtsAt.stp s6 _ _ (nms_flat _) d5
    · rintro σ H2 ⟨y3, y4, y5, ws, rfl, s2, p2, d2⟩
      rw [twl, List.take_of_length_le (by simp)] at d2
      repeat walk_at "h"
      exact q p ws H2 np p2 d2 s2
end

/-! ### octets of a message that is there; answers -/
section
variable {P : Program} {w : World} {K : PySem.W.Frag} {mg : Str → Option Value} {base : Heap} {C CS : Addr}
theorem row_one {rs : List MRow} (nd : (rs.map (·.1)).Nodup) {a b : MRow} (ha : a ∈ rs) (hb : b ∈ rs) (e : a.1 = b.1) : a = b := by
  induction rs with
  | nil => cases ha
  | cons r rs ih =>
    rw [List.map_cons, List.nodup_cons] at nd
    rcases List.mem_cons.mp ha with h1 | h1
    · rcases List.mem_cons.mp hb with h2 | h2
      · rw [h1, h2]
      · exact absurd (List.mem_map.mpr ⟨b, h2, by rw [← e, h1]⟩) nd.1
    · rcases List.mem_cons.mp hb with h2 | h2
      · exact absurd (List.mem_map.mpr ⟨a, h1, by rw [e, h2]⟩) nd.1
      · exact ih nd.2 h1 h2
theorem m_get {ms : List MRow} {r : MRow} (nd : (ms.map (·.1)).Nodup) (h : r ∈ ms) : valV (mKvs ms) (nmD r.1).key = some (.ref r.2.1) := by
  rw [m_find]
  cases e : ms.find? fun x => decide (x.1 = r.1) with
  | none =>
    have := List.find?_eq_none.mp e r h
    simp at this
  | some x =>
    have h1 := List.find?_some e
    have h2 := List.mem_of_find?_eq_some e
    rw [row_one nd h2 h (by simpa using h1)]; rfl
def spCopyOf (P : Program) (w : World) (K : PySem.W.Frag) (C CS : Addr) : Sp := fun vs H Q _ => ∃ (a : RA) (s : RS) (m : MRow), vs = [.ref a.r, .int m.1.1, .int m.1.2] ∧ RpAt P w K C CS H a s ∧ m ∈ s.ms ∧ m.2.2.length ≤ 100 ∧ (∀ c ∈ m.2.2, shortCh c) ∧ NewI H (msgO m.1.1 m.1.2 m.2.2) Q
theorem mth_Replica_copy_of (F : Dfm K C d_Replica_copy_of) (S : RpC K C) (C_message_octets : Cal P w K mg base lv_message_octets "message_octets" ["sender", "number", "changes"] (spMsgO K)) : Mth P w K mg base lv_Replica_copy_of C "copy_of" ["self", "sender", "number"] (spCopyOf P w K C CS) := by
  obtain ⟨f, fd, F, g⟩ := F
  refine ⟨f, fd, F.ok sc_Replica_copy_of (fun vs H Q E h => ?_) (fun cdv A outer s H vs Q E hr h => ⟨_, PSs.nox
    (pss_cons (ps_if (pt_cmp (pc_nnotinK (P := P) (w := w) (K := K) rfl rfl rfl hr (pe_tup (pa_cons (pv 1) (pa_cons (pv 2) pa_nil))) (pe_fld (pv 0) rfl)))
      (pss_one ps_never)
      pss_nil)
    (pss_one (ps_ret (pc_call C_message_octets (hr.mono (by decide)) (by rfl) (pa_cons (pv 1) (pa_cons (pv 2) (pa_cons (pe_ngetK (P := P) (w := w) (K := K) rfl rfl rfl hr (pe_fld (pv 0) rfl) (pe_tup (pa_cons (pv 1) (pa_cons (pv 2) pa_nil))) (fun _ _ => rfl)) pa_nil))))))), ?_⟩), g, F.kp, F.bindsN fun _ _ _ _ _ _ us hl => match us, hl with | [_, _, _], _ => rfl⟩
  · obtain ⟨a, s, m, rfl, _⟩ := h
    rfl
  · obtain ⟨a, s, m, rfl, R, hm, lc, sh, q⟩ := h
    repeat walk_at "h"
    refine ⟨(by decide : 2 ≤ sizeLine), fun t nt => ?_⟩
    have s1 : Stp [] H (upd H t (.tup [.int m.1.1, .int m.1.2])) := .new nt
    have t1 : DtAt K (upd H t (.tup [.int m.1.1, .int m.1.2])) (.ref t) (nmD m.1) := nm_mk upd_same
    have R1 := R.grow s1
    generalize upd H t (.tup [.int m.1.1, .int m.1.2]) = H1 at s1 t1 R1 ⊢
    repeat walk_at "h"
    refine ⟨a.r, C, a.dx, _, _, rfl, R1.at_, S.cls, S.messages, rfl, ?_⟩
    refine ⟨a.ml, t, _, (nmD m.1).key, rfl, rfl, R1.mw.nd.r, KyAt.of t1 rfl (by simp [nmD, Dt.depth, Dt.depthAll]), ?_⟩
    rw [m_isSome, decide_eq_true (List.mem_map.mpr ⟨m, hm, rfl⟩)]
    refine ⟨false, rfl, iteF ?_⟩
    repeat walk_at "h"
    refine ⟨a.r, C, a.dx, _, _, rfl, R1.at_, S.cls, S.messages, rfl, ?_⟩
    repeat walk_at "h"
    refine ⟨(by decide : 2 ≤ sizeLine), fun t2 nt2 => ?_⟩
    have s2 : Stp [] H1 (upd H1 t2 (.tup [.int m.1.1, .int m.1.2])) := .new nt2
    have t2' : DtAt K (upd H1 t2 (.tup [.int m.1.1, .int m.1.2])) (.ref t2) (nmD m.1) := nm_mk upd_same
    have R2 := R1.grow s2
    have s02 := s1.trans s2
    generalize upd H1 t2 (.tup [.int m.1.1, .int m.1.2]) = H2 at s2 t2' R2 s02 ⊢
    obtain ⟨vs, h1, h2⟩ := R2.mw.at_ m hm
    refine ⟨a.ml, t2, _, (nmD m.1).key, _, rfl, rfl, R2.mw.nd.r, KyAt.of t2' rfl (by simp [nmD, Dt.depth, Dt.depthAll]), m_get R2.mw.names hm, ?_⟩
    exact ⟨m.1.1, m.1.2, m.2.1, vs, m.2.2, rfl, h1, h2, lc, sh, fun p H3 np hp s3 => q p H3 (s02.free np (by simp)) hp (s02.trans s3)⟩
/-- the octets of some messages -/
def OcAt (H : Hp) (v : V) (os : List Int) : Prop := ∃ a, v = .ref a ∧ H a = some (.lst (os.map V.int))
end

/-! ### answers -/
section
variable {P : Program} {w : World} {K : PySem.W.Frag} {mg : Str → Option Value} {base : Heap} {C CS : Addr}
def AnsAt (ms : List MRow) (p : Addr) (H : Hp) (v : V) (k : Nm) : Prop := ∃ (b : Addr) (m : MRow), v = .ref b ∧ b ≠ p ∧ m ∈ ms ∧ m.1 = k ∧ H b = some (.lst ((msgO k.1 k.2 m.2.2).map V.int))
theorem ans_stp {ms : List MRow} {p : Addr} {H H1 : Hp} {M : List Addr} {vs : List V} {ks : List Nm} (h : Paired (AnsAt ms p H) vs ks) (s : Stp M H H1) (n : ∀ a, a ≠ p → a ∉ M) : Paired (AnsAt ms p H1) vs ks := by
  induction h with
  | nil => exact .nil
  | cons x _ ih =>
    obtain ⟨b, m, e, ne, hm, ek, h1⟩ := x
    exact .cons ⟨b, m, e, ne, hm, ek, s.keep _ _ h1 (n b ne)⟩ ih
theorem lackK_in {ks kt : List Nm} {k : Nm} (h : k ∈ lackK ks kt) : k ∈ kt := by
  unfold lackK at h
  obtain ⟨l, hl, hk⟩ := List.mem_flatten.mp h
  obtain ⟨p, _, rfl⟩ := List.mem_map.mp hl
  unfold lackP at hk
  obtain ⟨n, hn, rfl⟩ := List.mem_map.mp hk
  have hn := (sset_mem _ _).mp (List.mem_filter.mp hn).1
  unfold numsK at hn
  obtain ⟨q, hq, rfl⟩ := List.mem_map.mp hn
  have hq := List.mem_filter.mp hq
  have e : q.1 = (p : Int) := by simpa using hq.2
  rw [← e]
  exact hq.1
theorem lackK_len {ks kt : List Nm} (h : KeysOk kt) : (lackK ks kt).length ≤ 63 * 8 := by
  have h2 := flat_len (f := lackP ks kt) (n := 63) (fun x => by
    unfold lackP
    rw [List.length_map]
    exact Nat.le_trans (List.length_filter_le _ _) (h.nums (x : Int)).2) (List.range 8)
  rw [List.length_range] at h2
  exact h2
def spAnswer (P : Program) (w : World) (K : PySem.W.Frag) (C CS : Addr) : Sp := fun vs H Q _ => ∃ (a : RA) (s : RS) (ta : Addr) (tw : List V) (kt : List Nm), vs = [.ref a.r, .ref ta] ∧ RpAt P w K C CS H a s ∧ H ta = some (.lst tw) ∧ DtsAt K H tw ((toldK kt).map rowD) ∧ KeysOk kt ∧ KeysOk (s.ms.map (·.1)) ∧ (∀ m ∈ s.ms, m.2.2.length ≤ 100 ∧ ∀ c ∈ m.2.2, shortCh c) ∧
  ∀ (p : Addr) (ws : List V) (H1 : Hp), H p = none → H1 p = some (.lst ws) → Paired (AnsAt s.ms p H1) ws (lackK kt (s.ms.map (·.1))) → Stp [] H H1 → Q (.ref p) H1
theorem cal_answer (F : Df K mg d_answer) (S : RpC K C) (C_told : Cal P w K mg base lv_told "told" ["replica"] (spTold P w K C CS)) (C_lacking : Cal P w K mg base lv_lacking "lacking" ["mine", "theirs"] (spLacking K)) (M_Replica_copy_of : Mth P w K mg base lv_Replica_copy_of C "copy_of" ["self", "sender", "number"] (spCopyOf P w K C CS)) : Cal P w K mg base lv_answer "answer" ["replica", "theirs"] (spAnswer P w K C CS) := by
  have CL_Replica := S.cls
  obtain ⟨f, fd, F, g⟩ := F
  refine ⟨f, fd, F.ok sc_answer (fun vs H Q E h => ?_) (fun cdv A outer s H vs Q E hr h => ⟨_, PSs.nox
    (pss_one (ps_ret (pe_lc (own := [("sender", 2), ("number", 3)]) (g := gTup _ 2 (gCons (gName 2) (gCons (gName 3) gNil))) (by rfl) sc_answer.nd (pi_list (pc_call C_lacking (hr.mono (by decide)) (by rfl) (pa_cons (pv 1) (pa_cons (pc_call C_told (hr.mono (by decide)) (by rfl) (pa_cons (pv 0) pa_nil)) pa_nil)))) (blkOk_by (N := ["replica", "theirs", "sender", "number"]) (own := [("sender", 2), ("number", 3)]) (sc := defScope s_answer) (by decide +kernel)) (fun _ _ _ _ _ => (pg_tup (by rfl) (pgs_cons (pg_name (i := 2) sc_answer.nd rfl (Or.inl rfl)) (pgs_cons (pg_name (i := 3) sc_answer.nd rfl (Or.inl rfl)) pgs_nil)))) (fun _ _ _ _ _ => pts_nil) (fun _ _ _ _ _ => (pc_meth (pv 0) CL_Replica M_Replica_copy_of (hr.mono (by decide)) (pa_cons (pv 2) (pa_cons (pv 3) pa_nil))))))), ?_⟩), g, F.kp, F.bindsN fun _ _ _ _ _ _ us hl => match us, hl with | [_, _], _ => rfl⟩
  · obtain ⟨a, s, ta, tw, kt, rfl, _⟩ := h
    rfl
  · obtain ⟨a, s, ta, tw, kt, rfl, R, ht, dt, okt, oks, sh, q⟩ := h
    repeat walk_at "h"
    refine i_Lc (i_List ?_)
    repeat walk_at "h"
    refine ⟨a, s, rfl, R, by have := oks.1; rwa [List.length_map] at this, fun mp mw H1 nmp hmp dm s1 => ?_⟩
    rw [toldR_K] at dm
    have R1 := R.grow s1
    have ht1 := s1.keep _ _ ht (by simp)
    have dt1 := DtsAt.grow s1 _ _ dt
    repeat walk_at "h"
    refine ⟨ta, mp, tw, mw, kt, s.ms.map (·.1), rfl, ht1, dt1, hmp, dm, okt, oks, fun lp lw H2 nlp hlp dl s2 => ?_⟩
    have R2 := R1.grow s2
    have s02 := s1.trans s2
    have ll := lackK_len (ks := kt) oks
    have lwl : lw.length = (lackK kt (s.ms.map (·.1))).length := by have := dl.length; rwa [List.length_map] at this
    refine ⟨lp, rfl, ⟨_, SqL.of hlp⟩, fun p np => ?_⟩
    refine lc_list (xs := lw) (fun i H' => Stp [] H2 H' ∧ ∃ acc, H' p = some (.lst acc) ∧ Paired (AnsAt s.ms p H') acc ((lackK kt (s.ms.map (·.1))).take i)) ⟨.new np, [], upd_same, .nil⟩ (fun i H' _ h => SqL.of (h.1.keep _ _ hlp (by simp))) ?_ ?_
    · rintro i v H3 hv ⟨s3, acc, h3, d3⟩
      obtain ⟨dd, hdd, dv⟩ := (DtsAt.stp s3 _ _ (nms_flat _) dl).getV hv
      rw [List.getElem?_map] at hdd
      obtain ⟨k, hk, rfl⟩ := Option.map_eq_some_iff.mp hdd
      obtain ⟨ka, rfl, hka⟩ := nmAt dv
      obtain ⟨m, hm, rfl⟩ := List.mem_map.mp (lackK_in (List.mem_of_getElem? hk))
      have tk : (lackK kt (s.ms.map (·.1))).take (i + 1) = (lackK kt (s.ms.map (·.1))).take i ++ [m.1] := by rw [List.take_add_one, hk]; rfl
      have R3 := R2.grow s3
      refine i_gTup hka.sqt rfl ?_
      repeat walk_at "h"
      refine ⟨rfl, ?_⟩
      repeat walk_at "h"
      refine iteT ?_
      repeat walk_at "h"
      refine ⟨a.r, a.dx, _, rfl, R3.at_, rfl, ?_⟩
      repeat walk_at "h"
      refine ⟨a, s, m, rfl, R3, hm, (sh m hm).1, (sh m hm).2, fun o H4 no ho s4 => ?_⟩
      have h4 := s4.keep _ _ h3 (by simp)
      have op : o ≠ p := (ne_of_none h3 no).symm
      have al : acc.length ≤ 504 := by
        have := Paired.length d3
        rw [List.length_take] at this
        omega
      have s5 : Stp [p] H4 (upd H4 p (.lst (acc ++ [.ref o]))) := .wr (by simp) h4 fun _ z => nomatch z
      refine ⟨acc, h4, Nat.lt_of_le_of_lt al (by decide), (s3.trans s4).mut np, _, upd_same, ?_⟩
      rw [tk]
      exact Paired.snoc (ans_stp (ans_stp d3 s4 (fun z => by simp)) s5 (fun z hz => by simpa using hz)) ⟨o, m, rfl, op, hm, rfl, s5.keep _ _ ho (by simpa using op)⟩
    · rintro H3 ⟨s3, acc, h3, d3⟩
      rw [lwl, List.take_length] at d3
      exact q p acc H3 (s02.free np (by simp)) h3 d3 (s02.trans s3)
end

/-! ### messages brought -/
section
variable {P : Program} {w : World} {K : PySem.W.Frag} {mg : Str → Option Value} {base : Heap} {C CS : Addr}
def mcs (ms : List MRow) : List (Nm × List Ch) := ms.map fun m => (m.1, m.2.2)
/-- s is s0 behind the messages L -/
structure AccL (s0 : RS) (L : List (Nm × List Ch)) (s : RS) : Prop where
  ms : mcs s.ms = mcs s0.ms ++ L
  cl : s.cl = ((L.map (·.2)).flatten).foldl stpC s0.cl
theorem AccL.nil (s : RS) : AccL s [] s := ⟨by simp, rfl⟩
theorem AccL.step {s0 s : RS} {L : List (Nm × List Ch)} (h : AccL s0 L s) (k : Nm) (q : Addr) (cs : List Ch) : AccL s0 (L ++ [(k, cs)]) (acceptR s k q cs) := by
  have f1 : (acceptR s k q cs).ms = s.ms ++ [(k, q, cs)] := (fold_ms cs _).1
  have f2 : (acceptR s k q cs).cl = cs.foldl stpC s.cl := fold_cl cs { s with ms := s.ms ++ [(k, q, cs)] }
  refine ⟨?_, ?_⟩
  · have e := h.ms
    rw [f1]
    unfold mcs at e ⊢
    rw [List.map_append, e, List.append_assoc]; rfl
  · rw [f2, h.cl, List.map_append, List.flatten_append, List.foldl_append]
    simp
theorem AccL.names {s0 s : RS} {L : List (Nm × List Ch)} (h : AccL s0 L s) : s.ms.map (·.1) = s0.ms.map (·.1) ++ L.map (·.1) := by
  have e := congrArg (List.map Prod.fst) h.ms
  unfold mcs at e
  rw [List.map_append, List.map_map, List.map_map] at e
  exact e
/-- the changes of the message k -/
def chsK (ms : List MRow) (k : Nm) : List Ch := ((ms.find? fun m => decide (m.1 = k)).map (·.2.2)).getD []
theorem chsK_of {ms : List MRow} (nd : (ms.map (·.1)).Nodup) {m : MRow} (h : m ∈ ms) : chsK ms m.1 = m.2.2 := by
  unfold chsK
  cases e : ms.find? fun x => decide (x.1 = m.1) with
  | none =>
    have := List.find?_eq_none.mp e m h
    simp at this
  | some x =>
    have h1 := List.find?_some e
    have h2 := List.mem_of_find?_eq_some e
    have := row_one nd h2 h (by simpa using h1)
    rw [this]; rfl
def brL (t : RS) (l : List Nm) : List (Nm × List Ch) := l.map fun k => (k, chsK t.ms k)
def spBring (P : Program) (w : World) (K : PySem.W.Frag) (C CS : Addr) : Sp := fun vs H Q _ => ∃ (a b : RA) (s t : RS), vs = [.ref a.r, .ref b.r] ∧ RpAt P w K C CS H a s ∧ RpAt P w K C CS H b t ∧ (∀ x ∈ foot a s.ms, x ∉ foot b t.ms) ∧ KeysOk (s.ms.map (·.1)) ∧ KeysOk (t.ms.map (·.1)) ∧ (∀ m ∈ t.ms, m.2.2.length ≤ 3) ∧ s.cl.length ≤ 200 ∧
  (∀ k ∈ lackK (s.ms.map (·.1)) (t.ms.map (·.1)), k ∉ s.ms.map (·.1)) ∧ (lackK (s.ms.map (·.1)) (t.ms.map (·.1))).Nodup ∧ (lackK (s.ms.map (·.1)) (t.ms.map (·.1))).length ≤ 63 ∧
  ∀ (s' : RS) (H1 : Hp), AccL s (brL t (lackK (s.ms.map (·.1)) (t.ms.map (·.1)))) s' → RpAt P w K C CS H1 a s' → RpAt P w K C CS H1 b t → (∀ x ∈ foot a s'.ms, x ∉ foot b t.ms) → Stp [a.r, a.d, a.ml] H H1 → Q (.int ((lackK (s.ms.map (·.1)) (t.ms.map (·.1))).length : Nat)) H1
theorem cal_bring (F : Df K mg d_bring) (B : Blt mg) (S : RpC K C) (C_told : Cal P w K mg base lv_told "told" ["replica"] (spTold P w K C CS)) (C_lacking : Cal P w K mg base lv_lacking "lacking" ["mine", "theirs"] (spLacking K)) (M_Replica_accept : Mth P w K mg base lv_Replica_accept C "accept" ["self", "sender", "number", "changes"] (spAccept P w K C CS)) : Cal P w K mg base lv_bring "bring" ["replica", "other"] (spBring P w K C CS) := by
  have CL_Replica := S.cls
  obtain ⟨f, fd, F, g⟩ := F
  refine ⟨f, fd, F.ok sc_bring (fun vs H Q E h => ?_) (fun cdv A outer s H vs Q E hr h => ⟨_, PSs.nox
    (pss_cons (ps_set (i := 2) sc_bring.nd rfl (Or.inl rfl) (pc_call C_lacking (hr.mono (by decide)) (by rfl) (pa_cons (pc_call C_told (hr.mono (by decide)) (by rfl) (pa_cons (pv 0) pa_nil)) (pa_cons (pc_call C_told (hr.mono (by decide)) (by rfl) (pa_cons (pv 1) pa_nil)) pa_nil))))
    (pss_cons (ps_for PassesOwn.never rfl (pi_list (pv 2)) (pg_tup (by rfl) (pgs_cons (pg_name (i := 3) sc_bring.nd rfl (Or.inl rfl)) (pgs_cons (pg_name (i := 4) sc_bring.nd rfl (Or.inl rfl)) pgs_nil)))
      (pss_one (ps_expr (pc_meth (pv 0) CL_Replica M_Replica_accept (hr.mono (by decide)) (pa_cons (pv 3) (pa_cons (pv 4) (pa_cons (pe_ngetK (P := P) (w := w) (K := K) rfl rfl rfl hr (pe_fld (pv 1) rfl) (pe_tup (pa_cons (pv 3) (pa_cons (pv 4) pa_nil))) (fun _ _ => rfl)) pa_nil)))))))
    (pss_one (ps_ret (pe_callB call_len_seq (by rfl) B.len boot_len (pa_cons (pv 2) pa_nil)))))), ?_⟩), g, F.kp, F.bindsN fun _ _ _ _ _ _ us hl => match us, hl with | [_, _], _ => rfl⟩
  · obtain ⟨a, b, s, t, rfl, _⟩ := h
    rfl
  · obtain ⟨a, b, s, t, rfl, R, T, fd3, oks, okt, l3, cl2, nin, nd, ll, q⟩ := h
    repeat walk_at "h"
    refine ⟨a, s, rfl, R, by have := oks.1; rwa [List.length_map] at this, fun mp mw H1 nmp hmp dm s1 => ?_⟩
    rw [toldR_K] at dm
    repeat walk_at "h"
    refine ⟨b, t, rfl, T.grow s1, by have := okt.1; rwa [List.length_map] at this, fun tp tw H2 ntp htp dt s2 => ?_⟩
    rw [toldR_K] at dt
    have hmp2 := s2.keep _ _ hmp (by simp)
    have dm2 := DtsAt.grow s2 _ _ dm
    repeat walk_at "h"
    refine ⟨mp, tp, mw, tw, s.ms.map (·.1), t.ms.map (·.1), rfl, hmp2, dm2, htp, dt, oks, okt, fun lp lw H3 nlp hlp dl s3 => ?_⟩
    have s03 := (s1.trans s2).trans s3
    have R3 := R.grow s03
    have T3 := T.grow s03
    have nlp0 : H lp = none := (s1.trans s2).free nlp (by simp)
    clear s1 s2 s3 hmp dm htp dt hmp2 dm2 nlp nmp ntp
    have lin : ∀ k ∈ lackK (s.ms.map (·.1)) (t.ms.map (·.1)), k ∈ t.ms.map (·.1) := fun k hk => lackK_in hk
    generalize lackK (s.ms.map (·.1)) (t.ms.map (·.1)) = lk at *
    have lwl : lw.length = lk.length := by have := dl.length; rwa [List.length_map] at this
    repeat walk_at "h"
    have lpn : lp ∉ [a.r, a.d, a.ml] := fun z => by
      have h : lp ∈ foot a s.ms := List.mem_append_left _ (by
        simp only [List.mem_cons, List.not_mem_nil, or_false] at z
        rcases z with h | h | h <;> rw [h] <;> simp)
      exact R.there h nlp0
    refine ⟨lp, rfl, ⟨_, SqL.of hlp⟩, ?_⟩
    refine for_list (xs := lw) (fun i σ H' => ∃ (y3 y4 : Option V) (s' : RS), σ = [some (.ref a.r), some (.ref b.r), some (.ref lp), y3, y4] ∧ AccL s (brL t (lk.take i)) s' ∧ RpAt P w K C CS H' a s' ∧ RpAt P w K C CS H' b t ∧ (∀ x ∈ foot a s'.ms, x ∉ foot b t.ms) ∧ Stp [a.r, a.d, a.ml] H H' ∧ H' lp = some (.lst lw) ∧ DtsAt K H' lw (lk.map nmD) ∧ s'.cl.length ≤ 200 + 3 * i)
      ⟨_, _, s, rfl, AccL.nil s, R3, T3, fd3, s03.mono (by simp), hlp, dl, by omega⟩ (fun i σ H' _ ⟨_, _, _, _, _, _, _, _, _, h, _⟩ => SqL.of h) ?_ ?_
    · clear R3 T3 hlp dl
      rintro i v σ H4 hv ⟨y3, y4, s', rfl, ac, R4, T4, fd4, s4, hlp4, dl4, c4⟩
      obtain ⟨dd, hdd, dv⟩ := dl4.getV hv
      rw [List.getElem?_map] at hdd
      obtain ⟨k, hk, rfl⟩ := Option.map_eq_some_iff.mp hdd
      obtain ⟨ka, rfl, hka⟩ := nmAt dv
      have il := (List.getElem?_eq_some_iff.mp hk).1
      have kin := List.mem_of_getElem? hk
      obtain ⟨m, hm, rfl⟩ := List.mem_map.mp (lin k kin)
      have tk : lk.take (i + 1) = lk.take i ++ [m.1] := by rw [List.take_add_one, hk]; rfl
      have nmS := ac.names
      have bn : (brL t (lk.take i)).map (·.1) = lk.take i := by unfold brL; rw [List.map_map]; simp [Function.comp_def]
      rw [bn] at nmS
      have fresh : m.1 ∉ s'.ms.map (·.1) := by
        rw [nmS]
        intro z
        rcases List.mem_append.mp z with z | z
        · exact nin _ kin z
        · have this : (lk.take i ++ lk.drop i).Nodup := by rw [List.take_append_drop]; exact nd
          rw [List.nodup_append] at this
          have hd : m.1 ∈ lk.drop i := by
            rw [List.drop_eq_getElem_cons il]
            have : lk[i] = m.1 := by rw [List.getElem?_eq_getElem il] at hk; exact Option.some.inj hk
            rw [this]; exact List.mem_cons_self
          exact this.2.2 _ z _ hd rfl
      have msl : s'.ms.length ≤ 900 := by
        have := congrArg List.length nmS
        rw [List.length_append, List.length_map, List.length_map, List.length_take] at this
        have := oks.1
        rw [List.length_map] at this
        omega
      obtain ⟨mv, hmv, dmv⟩ := T4.mw.at_ m hm
      refine i_gTup hka.sqt rfl ?_
      repeat walk_at "h"
      refine ⟨a.r, a.dx, _, rfl, R4.at_, rfl, ?_⟩
      repeat walk_at "h"
      refine ⟨b.r, C, b.dx, _, _, rfl, T4.at_, S.cls, S.messages, rfl, ?_⟩
      repeat walk_at "h"
      refine ⟨(by decide : 2 ≤ sizeLine), fun u nu => ?_⟩
      have s5 : Stp [] H4 (upd H4 u (.tup [.int m.1.1, .int m.1.2])) := .new nu
      have u5 : DtAt K (upd H4 u (.tup [.int m.1.1, .int m.1.2])) (.ref u) (nmD m.1) := nm_mk upd_same
      have R5 := R4.grow s5
      have T5 := T4.grow s5
      have s05 := s4.trans (s5.mono (M' := [a.r, a.d, a.ml]) (by simp))
      have hlp5 := s5.keep _ _ hlp4 (by simp)
      have dl5 := DtsAt.stp s5 _ _ (nms_flat _) dl4
      have hmv5 := s5.keep _ _ hmv (by simp)
      have dmv5 := chs_stp dmv s5
      generalize upd H4 u (.tup [.int m.1.1, .int m.1.2]) = H5 at s5 u5 R5 T5 s05 hlp5 dl5 hmv5 dmv5 ⊢
      clear s5 R4 T4 s4 hlp4 dl4 hmv dmv nu hka dv
      refine ⟨b.ml, u, _, (nmD m.1).key, _, rfl, rfl, T5.mw.nd.r, KyAt.of u5 rfl (by simp [nmD, Dt.depth, Dt.depthAll]), m_get T5.mw.names hm, ?_⟩
      repeat walk_at "h"
      have i63 : i < 63 := by omega
      have lm3 := l3 m hm
      refine ⟨a, s', m.1, m.2.1, mv, m.2.2, rfl, R5, hmv5, dmv5, by omega, msl, fun z => absurd z fresh, fun _ q2 H6 nq R6 s6 => ?_⟩
      have ems : (acceptR s' m.1 q2 m.2.2).ms = s'.ms ++ [(m.1, q2, m.2.2)] := (fold_ms m.2.2 _).1
      have fm : ∀ x ∈ [a.r, a.d, a.ml], x ∈ foot a s'.ms := fun x hx => List.mem_append_left _ (by
        simp only [List.mem_cons, List.not_mem_nil, or_false] at hx
        rcases hx with rfl | rfl | rfl <;> simp)
      have T6 := T5.stp s6 fun x hx z => fd4 x (fm x z) hx
      have fd6 : ∀ x ∈ foot a (acceptR s' m.1 q2 m.2.2).ms, x ∉ foot b t.ms := fun x hx z => by
        rw [ems] at hx
        unfold foot at hx
        rw [List.map_append] at hx
        rcases List.mem_append.mp hx with y | y
        · exact fd4 x (List.mem_append_left _ y) z
        · rcases List.mem_append.mp y with y | y
          · exact fd4 x (List.mem_append_right _ y) z
          · simp only [List.map_cons, List.map_nil, List.mem_singleton] at y
            rw [y] at z
            exact T5.there z nq
      have ac2 := ac.step m.1 q2 m.2.2
      have eb : brL t (lk.take (i + 1)) = brL t (lk.take i) ++ [(m.1, m.2.2)] := by
        rw [tk]
        unfold brL
        rw [List.map_append]
        simp [chsK_of T5.mw.names hm]
      rw [← eb] at ac2
      have ec : (acceptR s' m.1 q2 m.2.2).cl.length ≤ 200 + 3 * (i + 1) := by
        have e1 : (acceptR s' m.1 q2 m.2.2).cl = m.2.2.foldl stpC s'.cl := fold_cl m.2.2 { s' with ms := s'.ms ++ [(m.1, q2, m.2.2)] }
        have := fold_cl_len m.2.2 s'.cl
        rw [e1]; omega
      repeat walk_at "h"
      exact ⟨_, _, _, rfl, ac2, R6, T6, fd6, s05.trans s6, s6.keep _ _ hlp5 lpn, DtsAt.stp s6 _ _ (nms_flat _) dl5, ec⟩
    · rintro σ H4 ⟨y3, y4, s', rfl, ac, R4, T4, fd4, s4, hlp4, dl4, c4⟩
      rw [lwl, List.take_length] at ac
      repeat walk_at "h"
      refine ⟨lp, _, rfl, .inl (SqL.of hlp4), ?_⟩
      rw [lwl]
      exact q s' H4 ac R4 T4 fd4 s4
end

/-! ### the law's ranges; numbers of ranges -/
section
variable {P : Program} {w : World} {K : PySem.W.Frag} {mg : Str → Option Value} {base : Heap}
theorem cal_law_ranges (F : Df K mg d_law_ranges) (B : Blt mg) (B_set : mg "set" = none) : Cal P w K mg base lv_law_ranges "_law_ranges" ["numbers"] (spRgs K) := by
  obtain ⟨f, fd, F, g⟩ := F
  refine ⟨f, fd, F.ok sc_law_ranges (fun vs H Q E h => ?_) (fun cdv A outer s H vs Q E hr h => ⟨_, PSs.nox
    (pss_cons (ps_set (i := 1) sc_law_ranges.nd rfl (Or.inl rfl) (pe_lst pa_nil))
    (pss_cons (ps_for PassesOwn.never rfl (pi_list (pe_callB (cr_sortedSet rfl) (by rfl) B.sorted (by decide +kernel) (pa_cons (pe_callTy (cr_setI rfl) (by rfl) B_set (by decide +kernel) (pa_cons (pv 0) pa_nil)) pa_nil))) (pg_name (i := 2) sc_law_ranges.nd rfl (Or.inl rfl))
      (pss_one (ps_if (PW.pt (pw_and (pt_truth (pv 1) (by intro _; rfl)) (pw_and1 (pt_cmpR op_eq (pe_op op_add (pe_ix (ix_tupK (K := K) rfl) (pe_ix (ix_listK (K := K) rfl) (pv 1) (pe_un un_neg pe_int) (fun _ _ => rfl)) pe_int (fun _ _ => rfl)) pe_int) (pv 2) (nomark _)))))
          (pss_one (ps_asg (pe_tup (pa_cons (pe_ix (ix_tupK (K := K) rfl) (pe_ix (ix_listK (K := K) rfl) (pv 1) (pe_un un_neg pe_int) (fun _ _ => rfl)) pe_int (fun _ _ => rfl)) (pa_cons (pv 2) pa_nil))) (pg_sub (pv 1) (pe_un un_neg pe_int) set_list)))
          (pss_one (ps_expr (pe_bm PySem.F.plainAttrs_list PySem.F.slot_list_append PySem.F.type_list_append mt_append (pv 1) (pa_cons (pe_tup (pa_cons (pv 2) (pa_cons (pv 2) pa_nil))) pa_nil)))))))
    (pss_one (ps_ret (pv 1))))), ?_⟩), g, F.kp, F.bindsN fun _ _ _ _ _ _ us hl => match us, hl with | [_], _ => rfl⟩
  · obtain ⟨a, ns, rfl, _⟩ := h
    rfl
  · obtain ⟨a, ns, rfl, hs, l6, q⟩ := h
    repeat walk_at "h"
    refine ⟨Nat.zero_le _, fun p np => ?_⟩
    have s1 : Stp [] H (upd H p (.lst [])) := .new np
    have p1 : upd H p (.lst []) p = some (.lst []) := upd_same
    have hs1 := s1.seq hs (by simp)
    generalize upd H p (.lst []) = H1 at s1 p1 hs1 ⊢
    repeat walk_at "h"
    refine sset_t hs1 l6 fun sp H2 nsp hsp s2 => ?_
    have p2 := s2.keep _ _ p1 (by simp)
    have spp : sp ≠ p := (ne_of_none p1 nsp).symm
    have s02 := s1.trans s2
    have sl := sset_le ns
    clear s1 s2 p1 hs1
    refine ⟨sp, rfl, ⟨_, SqL.of hsp⟩, ?_⟩
    refine for_list (xs := (sset ns).map V.int) (fun i σ H' => ∃ (y2 : Option V) (ws : List V), σ = [some (.ref a), some (.ref p), y2] ∧ Stp [] H H' ∧ H' sp = some (.lst ((sset ns).map V.int)) ∧ H' p = some (.lst ws) ∧ DtsAt K H' ws ((rgs ((sset ns).take i)).map nmD))
      ⟨_, [], rfl, s02, hsp, p2, .nil⟩ (fun i σ H' _ ⟨_, _, _, _, h, _⟩ => SqL.of h) ?_ ?_
    · rintro i v σ H3 hv ⟨y2, ws, rfl, s3, sp3, p3, d3⟩
      rw [List.getElem?_map] at hv
      obtain ⟨n, hn, rfl⟩ := Option.map_eq_some_iff.mp hv
      have il := (List.getElem?_eq_some_iff.mp hn).1
      have tk : (sset ns).take (i + 1) = (sset ns).take i ++ [n] := by rw [List.take_add_one, hn]; rfl
      have rl := rgs_len ((sset ns).take i)
      rw [List.length_take] at rl
      have wl : ws.length = (rgs ((sset ns).take i)).length := by have := d3.length; rwa [List.length_map] at this
      rw [tk, rgs_snoc]
      generalize rgs ((sset ns).take i) = rs at d3 rl wl ⊢
      clear tk
      repeat walk_at "h"
      refine ⟨!ws.isEmpty, .inl ⟨ws, SqL.of p3, rfl⟩, ?_⟩
      rcases List.eq_nil_or_concat rs with e | ⟨l, r, e⟩
      · subst e
        obtain rfl : ws = [] := by cases d3; rfl
        refine i_ite (fun z => by simp at z) (fun _ => ?_)
        refine i_ite (fun z => by simp at z) (fun _ => ?_)
        repeat walk_at "h"
        refine ⟨.inl ⟨rfl, _, SqL.of p3⟩, ?_⟩
        repeat walk_at "h"
        refine ⟨(by decide : 2 ≤ sizeLine), fun t nt => ?_⟩
        have s4 : Stp [] H3 (upd H3 t (.tup [.int n, .int n])) := .new nt
        have t4 : DtAt K (upd H3 t (.tup [.int n, .int n])) (.ref t) (nmD (n, n)) := nm_mk (n := (n, n)) upd_same
        have p4 := s4.keep _ _ p3 (by simp)
        have sp4 := s4.keep _ _ sp3 (by simp)
        have s04 := s3.trans s4
        generalize upd H3 t (.tup [.int n, .int n]) = H4 at s4 t4 p4 sp4 s04 ⊢
        refine i_Nil ⟨p, [], .ref t, rfl, rfl, p4, (show 0 < sizeLine by decide), ?_⟩
        have s5 : Stp [p] H4 (upd H4 p (.lst ([] ++ [.ref t]))) := .wr (by simp) p4 fun _ z => nomatch z
        repeat walk_at "h"
        exact ⟨_, _, rfl, s04.into np s5, s5.keep _ _ sp4 (by simpa using spp), upd_same, .cons (DtAt.stp s5 _ _ rfl t4) .nil⟩
      · rw [List.concat_eq_append] at e
        subst e
        rw [List.map_append] at d3
        obtain ⟨us, v, rfl, d3l, dv⟩ := dts_split d3
        obtain ⟨ra, rfl, hra⟩ := nmAt dv
        refine i_ite (fun _ => ?_) (fun z => by simp at z)
        repeat walk_at "h"
        refine i_IxL (SqL.of p3) (atI_last us (.ref ra)) ?_
        repeat walk_at "h"
        refine i_IxT hra.sqt (at_of (j := 1) rfl rfl) ?_
        repeat walk_at "h"
        rw [rStep_snoc]
        refine i_iteD (fun e => ?_) (fun e => ?_)
        · have e1 : r.2 + 1 = n := by injection e
          rw [if_pos e1]
          repeat walk_at "h"
          refine i_IxL (SqL.of p3) (atI_last us (.ref ra)) ?_
          repeat walk_at "h"
          refine i_IxT hra.sqt (at_of (j := 0) rfl rfl) ?_
          repeat walk_at "h"
          refine ⟨(by decide : 2 ≤ sizeLine), fun t nt => ?_⟩
          have s4 : Stp [] H3 (upd H3 t (.tup [.int r.1, .int n])) := .new nt
          have t4 : DtAt K (upd H3 t (.tup [.int r.1, .int n])) (.ref t) (nmD (r.1, n)) := nm_mk (n := (r.1, n)) upd_same
          have p4 := s4.keep _ _ p3 (by simp)
          have sp4 := s4.keep _ _ sp3 (by simp)
          have d4 := DtsAt.stp s4 _ _ (nms_flat _) d3l
          have s04 := s3.trans s4
          generalize upd H3 t (.tup [.int r.1, .int n]) = H4 at s4 t4 p4 sp4 d4 s04 ⊢
          refine i_SetAt ?_
          repeat walk_at "h"
          have ixl : ixN (us ++ [V.ref ra]).length (-1) = some us.length := by
            unfold ixN
            rw [List.length_append, List.length_singleton, if_neg (by decide), if_pos (by omega)]
            congr 1; omega
          refine ⟨p, _, _, us.length, rfl, rfl, p4, ixl, ?_⟩
          have est : (us ++ [V.ref ra]).set us.length (.ref t) = us ++ [.ref t] := by simp
          rw [est]
          have s5 : Stp [p] H4 (upd H4 p (.lst (us ++ [.ref t]))) := .wr (by simp) p4 fun _ z => nomatch z
          refine ⟨_, _, rfl, s04.into np s5, s5.keep _ _ sp4 (by simpa using spp), upd_same, ?_⟩
          rw [List.map_append]
          exact (DtsAt.stp s5 _ _ (nms_flat _) d4).append (.cons (DtAt.stp s5 _ _ rfl t4) .nil)
        · have e1 : ¬ r.2 + 1 = n := fun z => e (by rw [z])
          rw [if_neg e1]
          repeat walk_at "h"
          refine ⟨.inl ⟨rfl, _, SqL.of p3⟩, ?_⟩
          repeat walk_at "h"
          refine ⟨(by decide : 2 ≤ sizeLine), fun t nt => ?_⟩
          have s4 : Stp [] H3 (upd H3 t (.tup [.int n, .int n])) := .new nt
          have t4 : DtAt K (upd H3 t (.tup [.int n, .int n])) (.ref t) (nmD (n, n)) := nm_mk (n := (n, n)) upd_same
          have p4 := s4.keep _ _ p3 (by simp)
          have sp4 := s4.keep _ _ sp3 (by simp)
          have d4 := DtsAt.stp s4 _ _ (nms_flat _) d3l
          have dv4 := DtAt.stp s4 _ _ rfl dv
          have s04 := s3.trans s4
          generalize upd H3 t (.tup [.int n, .int n]) = H4 at s4 t4 p4 sp4 d4 dv4 s04 ⊢
          refine i_Nil ⟨p, us ++ [.ref ra], .ref t, rfl, rfl, p4, Nat.lt_of_le_of_lt (show (us ++ [V.ref ra]).length ≤ 100 by omega) (by decide), ?_⟩
          have s5 : Stp [p] H4 (upd H4 p (.lst ((us ++ [.ref ra]) ++ [.ref t]))) := .wr (by simp) p4 fun _ z => nomatch z
          repeat walk_at "h"
          refine ⟨_, _, rfl, s04.into np s5, s5.keep _ _ sp4 (by simpa using spp), upd_same, ?_⟩
          rw [List.map_append, List.map_append]
          exact ((DtsAt.stp s5 _ _ (nms_flat _) d4).append (.cons (DtAt.stp s5 _ _ rfl dv4) .nil)).append (.cons (DtAt.stp s5 _ _ rfl t4) .nil)
    · rintro σ H3 ⟨y2, ws, rfl, s3, sp3, p3, d3⟩
      rw [List.length_map, List.take_length] at d3
      repeat walk_at "h"
      exact q p ws H3 np p3 d3 s3
/-- numbers of ranges, one behind the other -/
def spNumsOf (K : PySem.W.Frag) : Sp := fun vs H Q _ => ∃ (a : Addr) (ws : List V) (l : List Int), vs = [.ref a] ∧ SqL K H a ws ∧ DtsAt K H ws ((rgs l).map nmD) ∧ l.Pairwise (· < ·) ∧ Num6 l ∧ l.length < 64 ∧
  ∀ (p : Addr) (H1 : Hp), H p = none → H1 p = some (.lst (l.map V.int)) → Stp [] H H1 → Q (.ref p) H1
theorem cal_numbers_of (F : Df K mg d_numbers_of) (B : Blt mg) (B_set : mg "set" = none) : Cal P w K mg base lv_numbers_of "numbers_of" ["ranges"] (spNumsOf K) := by
  obtain ⟨f, fd, F, g⟩ := F
  refine ⟨f, fd, F.ok sc_numbers_of (fun vs H Q E h => ?_) (fun cdv A outer s H vs Q E hr h => ⟨_, PSs.nox
    (pss_cons (ps_set (i := 1) sc_numbers_of.nd rfl (Or.inl rfl) (pe_lst pa_nil))
    (pss_cons (ps_for PassesOwn.never rfl (pi_list (pv 0)) (pg_tup (by rfl) (pgs_cons (pg_name (i := 2) sc_numbers_of.nd rfl (Or.inl rfl)) (pgs_cons (pg_name (i := 3) sc_numbers_of.nd rfl (Or.inl rfl)) pgs_nil)))
      (pss_one (ps_expr (pe_bm PySem.F.plainAttrs_list PySem.F.slot_list_extend PySem.F.type_list_extend mt_extend (pv 1) (pa_cons (pe_listRg rfl (by rfl) B.list (prg_2 (by rfl) B.range (pv 2) (pe_op op_add (pv 3) pe_int))) pa_nil)))))
    (pss_one (ps_ret (pe_callB (cr_sortedSet rfl) (by rfl) B.sorted (by decide +kernel) (pa_cons (pe_callTy (cr_setI rfl) (by rfl) B_set (by decide +kernel) (pa_cons (pv 1) pa_nil)) pa_nil)))))), ?_⟩), g, F.kp, F.bindsN fun _ _ _ _ _ _ us hl => match us, hl with | [_], _ => rfl⟩
  · obtain ⟨a, ws, l, rfl, _⟩ := h
    rfl
  · obtain ⟨a, ws, l, rfl, hs, hd, pl, nl, ll, q⟩ := h
    obtain ⟨okl, inl, _⟩ := rgs_ok l pl
    have wl : ws.length = (rgs l).length := by have := hd.length; rwa [List.length_map] at this
    repeat walk_at "h"
    refine ⟨Nat.zero_le _, fun p np => ?_⟩
    have s1 : Stp [] H (upd H p (.lst [])) := .new np
    have p1 : upd H p (.lst []) p = some (.lst ([].map V.int)) := upd_same
    generalize upd H p (.lst []) = H1 at s1 p1 ⊢
    repeat walk_at "h"
    refine ⟨a, rfl, ⟨_, s1.seq hs (by simp)⟩, ?_⟩
    refine for_list (xs := ws) (fun i σ H' => ∃ (y2 y3 : Option V) (ns : List Int) (last : Int), σ = [some (.ref a), some (.ref p), y2, y3] ∧ Stp [] H H' ∧ H' p = some (.lst (ns.map V.int)) ∧ NE [] ((rgs l).take i) last 0 ns ∧ (∀ r, (rgs l)[i]? = some r → last < r.1))
      ⟨_, _, [], -1, rfl, s1, p1, ⟨.nil, fun x hx => (nomatch hx), fun x => ⟨fun hx => (nomatch hx), fun ⟨⟨_, hr, _⟩, _⟩ => (by simp at hr)⟩, fun i o _ hi => (by omega)⟩, fun r hr => by
        have := (nl r.1 ((inl r.1).mp ⟨r, List.mem_of_getElem? hr, Int.le_refl _, okl.le r (List.mem_of_getElem? hr)⟩)).1
        omega⟩ (fun i σ H' _ ⟨_, _, _, _, _, s, _⟩ => s.seq hs (by simp)) ?_ ?_
    · rintro i v σ H2 hv ⟨y2, y3, ns, last, rfl, s2, p2, ne, nx⟩
      obtain ⟨dd, hdd, dv⟩ := (DtsAt.stp s2 _ _ (nms_flat _) hd).getV hv
      rw [List.getElem?_map] at hdd
      obtain ⟨r, hr', rfl⟩ := Option.map_eq_some_iff.mp hdd
      obtain ⟨va, rfl, hva⟩ := nmAt dv
      have rin := List.mem_of_getElem? hr'
      have rle := okl.le r rin
      have r1n := nl _ ((inl r.1).mp ⟨r, rin, Int.le_refl _, rle⟩)
      have r2n := nl _ ((inl r.2).mp ⟨r, rin, rle, Int.le_refl _⟩)
      have tk : (rgs l).take (i + 1) = (rgs l).take i ++ [(r.1, r.2)] := by rw [List.take_add_one, hr']; rfl
      have okE : OkR [] := ⟨fun r hr => (nomatch hr), .nil⟩
      have st2 := (ne.start (nx r hr')).done okE (last := r.2) (e := r.2) rle (by omega) (.inl ⟨rfl, rfl⟩)
      rw [tk]
      have nl2 : (ns ++ rg r.1 (r.2 + 1)).length ≤ 64 := by
        refine Nat.le_trans (len_sub _ l (asc_nodup st2.asc) fun x hx => ?_) (Nat.le_of_lt ll)
        obtain ⟨q', hq, h⟩ := ((st2.mem x).mp hx).1
        refine (inl x).mp ⟨q', ?_, h⟩
        rcases List.mem_append.mp hq with z | z
        · exact List.mem_of_mem_take z
        · rw [List.mem_singleton.mp z]; exact rin
      refine i_gTup hva.sqt rfl ?_
      repeat walk_at "h"
      refine ⟨.inl ⟨rfl, _, SqL.of p2⟩, ?_⟩
      repeat walk_at "h"
      refine i_LstRg (i_Rg2 ?_)
      repeat walk_at "h"
      refine ⟨r.1, r.2 + 1, rfl, rfl, ⟨by omega, by omega, by omega, by omega, by omega⟩, fun t nt => ?_⟩
      rw [rgV_rg]
      have s4 : Stp [] H2 (upd H2 t (.lst ((rg r.1 (r.2 + 1)).map V.int))) := .new nt
      have t4 : upd H2 t (.lst ((rg r.1 (r.2 + 1)).map V.int)) t = some (.lst ((rg r.1 (r.2 + 1)).map V.int)) := upd_same
      have p4 := s4.keep _ _ p2 (by simp)
      have s04 := s2.trans s4
      generalize upd H2 t (.lst ((rg r.1 (r.2 + 1)).map V.int)) = H4 at s4 t4 p4 s04 ⊢
      repeat walk_at "h"
      refine ⟨p, t, _, _, rfl, rfl, p4, t4, Nat.le_trans (show (ns.map V.int).length + ((rg r.1 (r.2 + 1)).map V.int).length ≤ 64 by rw [List.length_map, List.length_map, ← List.length_append]; exact nl2) (by decide), ?_⟩
      rw [← List.map_append]
      have s5 : Stp [p] H4 (upd H4 p (.lst ((ns ++ rg r.1 (r.2 + 1)).map V.int))) := .wr (by simp) p4 fun _ z => nomatch z
      repeat walk_at "h"
      exact ⟨_, _, _, r.2, rfl, s04.into np s5, upd_same, ⟨st2.asc, st2.le, st2.mem, fun i o ho => (by simp at ho)⟩, fun r' hr2 => okl.at hr' hr2 (by omega)⟩
    · rintro σ H2 ⟨y2, y3, ns, last, rfl, s2, p2, ne, nx⟩
      rw [wl, List.take_length] at ne
      have e : ns = l := asc_eq ne.asc pl fun x => by
        rw [ne.mem x, inl x]
        exact ⟨fun h => h.1, fun h => ⟨h, fun ⟨_, hr, _⟩ => (nomatch hr)⟩⟩
      rw [e] at p2
      repeat walk_at "h"
      refine sset_t (SqL.of p2) ll fun sp H3 nsp hsp s3 => ?_
      rw [← sset_of pl fun _ => Iff.rfl] at hsp
      repeat walk_at "h"
      exact q sp H3 (s2.free nsp (by simp)) hsp (s2.trans s3)
end

/-! ### a row of numbers -/
section
variable {P : Program} {w : World} {K : PySem.W.Frag} {mg : Str → Option Value} {base : Heap} {C CS : Addr}
theorem nm_brief6 {n : Nm} (h : n.1.natAbs < 10 ^ 12 ∧ n.2.natAbs < 10 ^ 12) : (nmD n).brief = true := by
  simp only [nmD, Dt.brief, Dt.briefAll, Bool.and_true, Bool.and_eq_true, decide_eq_true_eq]
  exact h
theorem row_shows {l : List Int} (pl : l.Pairwise (· < ·)) (nl : Num6 l) (ll : l.length ≤ 100) : (rowD (rgs l)).Shows := by
  obtain ⟨ok, inl, _⟩ := rgs_ok l pl
  have rl := rgs_len l
  refine Dt.shows_of ?_ ?_ ?_
  · unfold rowD
    rw [Dt.brief]
    refine briefAll_map nmD _ fun r hr => nm_brief6 ?_
    have h1 := nl _ ((inl r.1).mp ⟨r, hr, Int.le_refl _, ok.le r hr⟩)
    have h2 := nl _ ((inl r.2).mp ⟨r, hr, ok.le r hr, Int.le_refl _⟩)
    exact ⟨by omega, by omega⟩
  · unfold rowD
    rw [Dt.mass]
    have := massAll_map nmD 2 (rgs l) fun r _ => by simp [nmD, Dt.mass, Dt.massAll]
    have e : (2 : Nat) ^ 20 = 1048576 := by decide
    omega
  · unfold rowD
    rw [Dt.depth]
    have := depthAll_map nmD 1 (rgs l) fun r _ => by simp [nmD, Dt.depth, Dt.depthAll]
    omega
theorem ints_shows {l : List Int} (nl : Num6 l) (ll : l.length ≤ 100) : (Dt.lst (l.map Dt.num)).Shows := by
  refine Dt.shows_of ?_ ?_ ?_
  · rw [Dt.brief]
    refine briefAll_map Dt.num _ fun x hx => ?_
    have := nl x hx
    simp only [Dt.brief, decide_eq_true_eq]; omega
  · rw [Dt.mass]
    have := massAll_map Dt.num 0 l fun r _ => by simp [Dt.mass]
    have e : (2 : Nat) ^ 20 = 1048576 := by decide
    omega
  · rw [Dt.depth]
    have := depthAll_map Dt.num 0 l fun r _ => by simp [Dt.depth]
    omega
theorem ints_dts (H : Hp) : ∀ ns : List Int, DtsAt K H (ns.map V.int) (ns.map Dt.num)
  | [] => .nil
  | n :: ns => .cons (.num n) (ints_dts H ns)
def spRowOf (K : PySem.W.Frag) : Sp := fun vs H Q _ => ∃ (b dg : Addr), vs = [.ref b] ∧ Box K b dg H ∧ ∀ H1, Stp [b] H H1 → Box K b dg H1 → Q (.bl true) H1
theorem cal_law_row_of (F : Df K mg d_law_row_of) (B : Blt mg) (B_set : mg "set" = none) (C_law_draw : Cal P w K mg base lv_law_draw "_law_draw" ["box", "many"] (spDraw K)) (C_law_ranges : Cal P w K mg base lv_law_ranges "_law_ranges" ["numbers"] (spRgs K)) (C_ranges_of : Cal P w K mg base lv_ranges_of "ranges_of" ["numbers"] (spRgs K)) (C_numbers_of : Cal P w K mg base lv_numbers_of "numbers_of" ["ranges"] (spNumsOf K)) (C_law_same : CalG P w K mg base lv_law_same "_law_same" ["one", "other"] (spSame K)) : CalG P w K mg base lv_law_row_of "_law_row_of" ["box"] (spRowOf K) := by
  obtain ⟨f, fd, F, g⟩ := F
  refine ⟨f, fd, GT.FunD.okG F sc_law_row_of (fun vs H Q E h => ?_) (fun cdv A outer s H vs Q E hr hG h => ⟨_, PSs.nox
    (pss_cons (ps_setLc (i := 1) (own := [("k", 4)]) (g := gName 4) (by rfl) sc_law_row_of.nd rfl rfl (sw_true rfl rfl rfl (by decide +kernel)) (pi_range1 rfl B.range (pa_cons (pc_call C_law_draw (hr.mono (by decide)) (by rfl) (pa_cons (pv 0) (pa_cons pe_int pa_nil))) pa_nil)) (blkOk_by (N := ["box", "numbers", "due", "kept", "k"]) (own := [("k", 4)]) (sc := defScope s_law_row_of) (by decide +kernel)) (fun _ _ _ _ _ => (pg_name (i := 4) sc_law_row_of.nd rfl (Or.inl rfl))) (fun _ _ _ _ _ => pts_nil) (fun _ _ _ _ _ => (pe_op op_add (pc_call C_law_draw (hr.mono (by decide)) (by rfl) (pa_cons (pv 0) (pa_cons pe_int pa_nil))) (pe_op op_mul pe_int (pe_callTy call_int1 (by rfl) B.int boot_int (pa_cons (pe_cmpR op_eq (pc_call C_law_draw (hr.mono (by decide)) (by rfl) (pa_cons (pv 0) (pa_cons pe_int pa_nil))) pe_int (nomark _)) pa_nil))))))
    (pss_cons (ps_set (i := 2) sc_law_row_of.nd rfl (Or.inl rfl) (pc_call C_law_ranges (hr.mono (by decide)) (by rfl) (pa_cons (pv 1) pa_nil)))
    (pss_cons (ps_set (i := 3) sc_law_row_of.nd rfl (Or.inl rfl) (pe_callTy call_list_of (by rfl) B.list (by decide +kernel) (pa_cons (pv 1) pa_nil)))
    (pss_cons (ps_if (PW.pt (pw_or (pt_not (pt_val (pc_callG C_law_same hG (hr.mono (by decide)) (by rfl) (pa_cons (pc_call C_ranges_of (hr.mono (by decide)) (by rfl) (pa_cons (pv 1) pa_nil)) (pa_cons (pv 2) pa_nil))))) (pw_or1 (pt_cmpR (op_neTK (K := K) rfl hr.units) (pv 1) (pv 3) (nomark _)))))
      (pss_one (ps_ret pe_bl))
      pss_nil)
    (pss_one (ps_ret (pc_callG C_law_same hG (hr.mono (by decide)) (by rfl) (pa_cons (pc_call C_numbers_of (hr.mono (by decide)) (by rfl) (pa_cons (pv 2) pa_nil)) (pa_cons (pe_callB (cr_sortedSet rfl) (by rfl) B.sorted (by decide +kernel) (pa_cons (pe_callTy (cr_setI rfl) (by rfl) B_set (by decide +kernel) (pa_cons (pv 1) pa_nil)) pa_nil)) pa_nil))))))))), ?_⟩), g, F.kp, F.bindsN fun _ _ _ _ _ _ us hl => match us, hl with | [_], _ => rfl⟩
  · obtain ⟨b, dg, rfl, _⟩ := h
    rfl
  · obtain ⟨b, dg, rfl, bx, q⟩ := h
    repeat walk_at "h"
    refine i_Lc ?_
    repeat walk_at "h"
    refine ⟨b, dg, 13, rfl, by decide, bx, fun n H1 n0 n1 s1 b1 => ?_⟩
    refine ⟨n, rfl, by omega, by omega, fun p np => ?_⟩
    have pb := b1.nin np
    have pdg := b1.dgn np
    refine lc_range (lo := 0) (n := n.toNat) (fun i H' => Stp [b] H1 H' ∧ Box K b dg H' ∧ ∃ ns : List Int, H' p = some (.lst (ns.map V.int)) ∧ ns.length = i ∧ Num6 ns) ⟨.new np, b1.grow (.new np), [], upd_same, rfl, fun x hx => (nomatch hx)⟩ ?_ ?_
    · rintro j H2 hj ⟨s2, b2, ns, h2, l2, n6⟩
      repeat walk_at "h"
      refine ⟨rfl, i_Yes ?_⟩
      refine i_ite (fun _ => ?_) (fun z => nomatch z)
      repeat walk_at "h"
      refine ⟨b, dg, 14, rfl, by decide, b2, fun x H3 x0 x1 s3 b3 => ?_⟩
      repeat walk_at "h"
      refine ⟨b, dg, 6, rfl, by decide, b3, fun y H4 y0 y1 s4 b4 => ?_⟩
      repeat walk_at "h"
      refine .inr ⟨_, rfl, ?_⟩
      repeat walk_at "h"
      have h4 := (s3.trans s4).keep _ _ h2 pb
      obtain ⟨z, hz, z0, z1⟩ : ∃ z : Int, (x + 100000 * if decide (V.int y = V.int 0) = true then 1 else 0) = z ∧ 0 ≤ z ∧ z ≤ 1000000 := ⟨_, rfl, by split <;> omega, by split <;> omega⟩
      rw [hz]
      have s5 : Stp [p] H4 (upd H4 p (.lst (ns.map V.int ++ [.int z]))) := .wr (by simp) h4 fun _ z => nomatch z
      have pb' : b ≠ p := fun z => pb (by simp [z])
      refine ⟨_, h4, by rw [List.length_map]; exact Nat.lt_of_le_of_lt (show ns.length ≤ 100 by omega) (by decide), ((s2.trans s3).trans s4).mut np, b4.stp s5 (by simpa using pb') (by simpa using pdg), ns ++ [z], by rw [upd_same, List.map_append]; rfl, by rw [List.length_append, List.length_singleton, l2], fun v hv => ?_⟩
      rcases List.mem_append.mp hv with y | y
      · exact n6 v y
      · rw [List.mem_singleton.mp y]; exact ⟨z0, z1⟩
    · rintro H2 ⟨s2, b2, ns, h2, l2, n6⟩
      repeat walk_at "h"
      have l64 : ns.length < 64 := by omega
      have a1 := sset_asc ns
      have a2 : Num6 (sset ns) := fun x hx => n6 x ((sset_mem _ _).mp hx)
      have a3 := sset_le ns
      refine ⟨p, ns, rfl, SqL.of h2, l64, fun dp dw H3 ndp hdp dd s3 => ?_⟩
      have h3 := s3.keep _ _ h2 (by simp)
      repeat walk_at "h"
      refine ⟨p, _, rfl, .inl (SqL.of h3), fun kp nkp => ?_⟩
      have s4 : Stp [] H3 (upd H3 kp (.lst (ns.map V.int))) := .new nkp
      have k4 : upd H3 kp (.lst (ns.map V.int)) kp = some (.lst (ns.map V.int)) := upd_same
      have h4 := s4.keep _ _ h3 (by simp)
      have dp4 := s4.keep _ _ hdp (by simp)
      have dd4 := DtsAt.stp s4 _ _ (nms_flat _) dd
      have s04 := s3.trans s4
      generalize upd H3 kp (.lst (ns.map V.int)) = H4 at s4 k4 h4 dp4 dd4 s04 ⊢
      repeat walk_at "h"
      refine ⟨p, ns, rfl, SqL.of h4, l64, fun rp rw H5 nrp hrp dr s5 => ?_⟩
      have h5 := s5.keep _ _ h4 (by simp)
      have k5 := s5.keep _ _ k4 (by simp)
      have dp5 := s5.keep _ _ dp4 (by simp)
      have dd5 := DtsAt.stp s5 _ _ (nms_flat _) dd4
      have s05 := s04.trans s5
      repeat walk_at "h"
      refine ⟨_, _, rowD (rgs (sset ns)), rfl, .lst (SqL.of hrp) dr, .lst (SqL.of dp5) dd5, row_shows a1 a2 (by omega), ?_⟩
      repeat walk_at "h"
      refine iteF ?_
      repeat walk_at "h"
      have dn := Nat.le_trans (depthAll_map Dt.num 0 ns fun r _ => by simp [Dt.depth]) (Nat.le_refl 0)
      have dps : (Dt.lst (ns.map Dt.num)).depth ≤ 60 := by rw [Dt.depth]; omega
      refine i_NeT (.lst (SqL.of h5) (ints_dts _ _)) (.lst (SqL.of k5) (ints_dts _ _)) ?_ dps dps
      rw [Dt.beq_self]
      refine ⟨false, rfl, iteF ?_⟩
      repeat walk_at "h"
      refine ⟨dp, dw, sset ns, rfl, SqL.of dp5, dd5, a1, a2, by omega, fun np2 H6 nnp hnp s6 => ?_⟩
      have h6 := s6.keep _ _ h5 (by simp)
      repeat walk_at "h"
      refine sset_t (SqL.of h6) l64 fun sp H7 nsp hsp s7 => ?_
      have hnp7 := s7.keep _ _ hnp (by simp)
      have t7 := (s05.trans s6).trans s7
      repeat walk_at "h"
      refine ⟨_, _, .lst ((sset ns).map Dt.num), rfl, .lst (SqL.of hnp7) (ints_dts _ _), .lst (SqL.of hsp) (ints_dts _ _), ints_shows a2 (by omega), ?_⟩
      exact q H7 (s1.trans (s2.trans (t7.mono (by simp)))) (b2.grow t7)
end

/-! ### messages that can be read -/
section
theorem fieldsD_ok {z : Str} (h : z ∈ fieldsD) : (1 ≤ z.length ∧ z.length ≤ 8) ∧ azZ z := by
  simp only [fieldsD, List.mem_cons, List.not_mem_nil, or_false] at h
  rcases h with rfl | rfl | rfl | rfl <;> exact ⟨by decide, by unfold azZ; decide⟩
theorem textsD_ok {z : Str} (h : z ∈ textsD) : z.length ≤ 20 ∧ azZ z := by
  simp only [textsD, List.mem_cons, List.not_mem_nil, or_false] at h
  rcases h with rfl | rfl | rfl | rfl <;> exact ⟨by decide, by unfold azZ; decide⟩
theorem drawnD_ok {ns : List Nm} (hn : ∀ n ∈ ns, okNmL n) {c : Ch} (h : drawnD ns c) : OkChL c := by
  obtain ⟨h1, h2, h3, h4, h5⟩ := h
  refine ⟨⟨h1.1, by omega⟩, ⟨h2.1, by omega⟩, hn _ h3, fieldsD_ok h4, ?_⟩
  cases hq : c.va with
  | non => trivial
  | num i => rw [hq] at h5; exact ⟨by have := h5.1; omega, by have := h5.2; omega⟩
  | txt z => rw [hq] at h5; exact textsD_ok h5
  | tg s m => rw [hq] at h5; exact ⟨h5.1, hn _ h5.2⟩
theorem namesD_ok : ∀ n ∈ namesD, okNmL n := by
  intro n h
  simp only [namesD, List.mem_cons, List.not_mem_nil, or_false] at h
  rcases h with rfl | rfl | rfl | rfl | rfl <;> exact ⟨by decide, by decide⟩
theorem okChL_short {c : Ch} (h : OkChL c) : shortCh c := by
  refine ⟨by have := h.fd.1.2; omega, ?_⟩
  have v := h.va
  cases e : c.va with
  | txt z => rw [e] at v; show z.length ≤ 100; have := v.1; omega
  | non => trivial
  | num i => trivial
  | tg s m => trivial
theorem az_shown {c : Ch} (h : OkChL c) : azC c.fd ∧ shownVa c.va := by
  refine ⟨fun x hx => by have := h.fd.2 x hx; omega, ?_⟩
  have v := h.va
  cases e : c.va with
  | txt z => rw [e] at v; exact fun x hx => by have := v.2 x hx; omega
  | non => trivial
  | num i => trivial
  | tg s m => trivial
theorem chO_max {c : Ch} (h : OkChL c) : (chO c).length ≤ 41 := by
  have f := h.fd.1.2
  have v : (valO c.va).length ≤ 22 := by
    have v := h.va
    cases e : c.va with
    | non => simp [valO]
    | num i => simp [valO, octs_len]
    | txt z => rw [e] at v; have := v.1; simp only [valO, List.length_append, List.length_singleton, wordO_len]; omega
    | tg s n => simp [valO, nameO, octs_len]
  unfold chO nameO
  simp only [List.length_append, octs_len, wordO_len]; omega
theorem chOs_max : ∀ {cs : List Ch}, (∀ c ∈ cs, OkChL c) → ((cs.map chO).flatten).length ≤ 41 * cs.length
  | [], _ => by simp
  | c :: cs, h => by
    have h1 := chO_max (h c List.mem_cons_self)
    have h2 := chOs_max fun c hc => h c (List.mem_cons_of_mem _ hc)
    rw [List.map_cons, List.flatten_cons, List.length_append, List.length_cons]
    omega
/-- a message that is read, and short to show -/
structure OkMsg (m : Msg) (n : Nat) : Prop where
  sd : 0 ≤ m.1 ∧ m.1 ≤ 7
  nr : 0 ≤ m.2.1 ∧ m.2.1 ≤ 4294967295
  len : m.2.2.length ≤ n
  ok : ∀ c ∈ m.2.2, OkChL c
def msgOf (m : Msg) : List Int := msgO m.1 m.2.1 m.2.2
theorem OkMsg.reads {m : Msg} {n : Nat} (h : OkMsg m n) (hn : n ≤ 1000) : ∃ k, rMsg (msgOf m) 0 = .good m k := by
  have := h.len
  exact rMsg_fwd h.sd h.nr (by omega) h.ok
theorem OkMsg.inO {m : Msg} {n : Nat} (h : OkMsg m n) : GT.inO (msgOf m) := msgO_inO _ _ fun c hc => az_shown (h.ok c hc)
theorem OkMsg.size {m : Msg} {n : Nat} (h : OkMsg m n) : 9 ≤ (msgOf m).length ∧ (msgOf m).length ≤ 9 + 41 * n := by
  have cl := chOs_max h.ok
  have := h.len
  have e : (msgOf m).length = 9 + ((m.2.2.map chO).flatten).length := by
    unfold msgOf msgO msgB
    simp only [List.length_append, octs_len, chkO, List.length_cons, List.length_nil]; omega
  have : 41 * m.2.2.length ≤ 41 * n := Nat.mul_le_mul_left _ h.len
  omega
end

/-! ### what is lacking, in order -/
section
theorem ltN_anti {a b : Nm} (h : ltP2 a b = true) : ltP2 b a = false := by
  simp only [ltP2, decide_eq_true_eq, decide_eq_false_iff_not] at h ⊢; omega
theorem ascN_eq : ∀ {l m : List Nm}, (l.Pairwise fun a b => ltP2 a b = true) → (m.Pairwise fun a b => ltP2 a b = true) → (∀ k, k ∈ l ↔ k ∈ m) → l = m
  | [], [], _, _, _ => rfl
  | [], b :: m, _, _, h => absurd ((h b).mpr List.mem_cons_self) (by simp)
  | a :: l, [], _, _, h => absurd ((h a).mp List.mem_cons_self) (by simp)
  | a :: l, b :: m, hl, hm, h => by
    obtain ⟨l1, l2⟩ := List.pairwise_cons.mp hl
    obtain ⟨m1, m2⟩ := List.pairwise_cons.mp hm
    have no : ∀ {x y : Nm}, ltP2 x y = true → ltP2 y x = true → False := fun h1 h2 => by
      rw [ltN_anti h1] at h2; cases h2
    have e : a = b := by
      rcases List.mem_cons.mp ((h a).mp List.mem_cons_self) with z | z
      · exact z
      · rcases List.mem_cons.mp ((h b).mpr List.mem_cons_self) with y | y
        · exact y.symm
        · exact (no (m1 a z) (l1 b y)).elim
    subst e
    rw [ascN_eq l2 m2 fun k => ?_]
    constructor
    · intro hk
      rcases List.mem_cons.mp ((h k).mp (List.mem_cons_of_mem _ hk)) with z | z
      · have := l1 k hk
        rw [z, ltP2_irr] at this; cases this
      · exact z
    · intro hk
      rcases List.mem_cons.mp ((h k).mpr (List.mem_cons_of_mem _ hk)) with z | z
      · have := m1 k hk
        rw [z, ltP2_irr] at this; cases this
      · exact z
theorem numsK_mem {ks : List Nm} {p x : Int} : x ∈ numsK ks p ↔ (p, x) ∈ ks := by
  unfold numsK
  rw [List.mem_map]
  constructor
  · rintro ⟨k, hk, rfl⟩
    obtain ⟨h1, h2⟩ := List.mem_filter.mp hk
    have e : k.1 = p := by simpa using h2
    rw [← e]; exact h1
  · intro h
    exact ⟨(p, x), List.mem_filter.mpr ⟨h, by simp⟩, rfl⟩
theorem lackP_mem {ks kt : List Nm} {p : Nat} {k : Nm} : k ∈ lackP ks kt p ↔ k.1 = (p : Int) ∧ k ∈ kt ∧ k ∉ ks := by
  unfold lackP
  rw [List.mem_map]
  constructor
  · rintro ⟨x, hx, rfl⟩
    obtain ⟨h1, h2⟩ := List.mem_filter.mp hx
    have h2 := of_decide_eq_true h2
    rw [sset_mem, numsK_mem] at h1 h2
    exact ⟨rfl, h1, h2⟩
  · rintro ⟨h1, h2, h3⟩
    have e : ((p : Int), k.2) = k := Prod.ext h1.symm rfl
    refine ⟨k.2, List.mem_filter.mpr ⟨?_, decide_eq_true ?_⟩, e⟩
    · rw [sset_mem, numsK_mem, e]; exact h2
    · rw [sset_mem, numsK_mem, e]; exact h3
theorem lackK_mem {ks kt : List Nm} {k : Nm} : k ∈ lackK ks kt ↔ (0 ≤ k.1 ∧ k.1 < 8) ∧ k ∈ kt ∧ k ∉ ks := by
  unfold lackK
  rw [List.mem_flatten]
  constructor
  · rintro ⟨l, hl, hk⟩
    obtain ⟨p, hp, rfl⟩ := List.mem_map.mp hl
    have hp := List.mem_range.mp hp
    obtain ⟨h1, h2, h3⟩ := lackP_mem.mp hk
    exact ⟨by omega, h2, h3⟩
  · rintro ⟨h1, h2, h3⟩
    exact ⟨_, List.mem_map.mpr ⟨k.1.toNat, List.mem_range.mpr (by omega), rfl⟩, lackP_mem.mpr ⟨by omega, h2, h3⟩⟩
theorem lackK_asc (ks kt : List Nm) : (lackK ks kt).Pairwise fun a b => ltP2 a b = true := by
  unfold lackK
  rw [List.pairwise_flatten]
  refine ⟨fun l hl => ?_, ?_⟩
  · obtain ⟨p, _, rfl⟩ := List.mem_map.mp hl
    unfold lackP
    rw [List.pairwise_map]
    exact ((sset_asc _).filter _).imp fun {a b} h => by simpa [ltP2] using h
  · rw [List.pairwise_map]
    refine List.pairwise_lt_range.imp fun {a b} h x hx y hy => ?_
    have h1 := (lackP_mem.mp hx).1
    have h2 := (lackP_mem.mp hy).1
    simp only [ltP2, decide_eq_true_eq]; omega
theorem due_eq {ns ks kt : List Nm} (o : ns.Pairwise fun a b => ltP2 b a = false) (nd : ns.Nodup) (kin : ∀ k ∈ kt, k ∈ ns) (r : ∀ k ∈ ns, 0 ≤ k.1 ∧ k.1 ≤ 7) : ns.filter (fun k => decide (k ∈ kt) && decide (k ∉ ks)) = lackK ks kt := by
  refine ascN_eq ?_ (lackK_asc ks kt) fun k => ?_
  · refine List.Pairwise.filter _ ?_
    refine (o.and nd).imp fun {a b} h => ?_
    cases e : ltP2 a b with
    | true => rfl
    | false => exact absurd (ltP2_tri e h.1) h.2
  · rw [lackK_mem, List.mem_filter, Bool.and_eq_true, decide_eq_true_eq, decide_eq_true_eq]
    constructor
    · rintro ⟨h1, h2, h3⟩
      have := r k h1
      exact ⟨by omega, h2, h3⟩
    · rintro ⟨_, h2, h3⟩
      exact ⟨kin k h2, h2, h3⟩
theorem lackK_nodup (ks kt : List Nm) : (lackK ks kt).Nodup := (lackK_asc ks kt).imp fun {a b} h e => by
  rw [e, ltP2_irr] at h; cases h
theorem lackK_none {ks kt : List Nm} (h : ∀ k ∈ kt, k ∈ ks) : lackK ks kt = [] := by
  refine List.eq_nil_iff_forall_not_mem.mpr fun k hk => ?_
  obtain ⟨_, h1, h2⟩ := lackK_mem.mp hk
  exact h2 (h k h1)
/-- the changes of the messages l, in this order -/
def chsL (rs : List MRow) (l : List Nm) : List Ch := (l.map (chsK rs)).flatten
/-- these messages, in this order -/
def kcs (rs : List MRow) (l : List Nm) : List (Nm × List Ch) := l.map fun k => (k, chsK rs k)
theorem kcs_chs (rs : List MRow) (l : List Nm) : ((kcs rs l).map (·.2)).flatten = chsL rs l := by
  unfold kcs chsL
  rw [List.map_map]; rfl
theorem kcs_names (rs : List MRow) (l : List Nm) : (kcs rs l).map (·.1) = l := by
  unfold kcs
  rw [List.map_map]; simp [Function.comp_def]
theorem kcs_app (rs : List MRow) (l m : List Nm) : kcs rs (l ++ m) = kcs rs l ++ kcs rs m := by simp [kcs]
/-- a replica that has just these -/
structure HasK (rs : List MRow) (l : List Nm) (s : RS) : Prop where
  ms : mcs s.ms = kcs rs l
  cl : s.cl = cellsOf (chsL rs l)
theorem HasK.names {rs : List MRow} {l : List Nm} {s : RS} (h : HasK rs l s) : s.ms.map (·.1) = l := by
  have e := congrArg (List.map Prod.fst) h.ms
  rw [kcs_names] at e
  unfold mcs at e
  rw [List.map_map] at e
  exact e
theorem HasK.go {rs : List MRow} {l : List Nm} {s0 s : RS} {L : List (Nm × List Ch)} (h : HasK rs l s0) (a : AccL s0 L s) {m : List Nm} (e : L = kcs rs m) : HasK rs (l ++ m) s := by
  subst e
  refine ⟨by rw [a.ms, h.ms, kcs_app], ?_⟩
  rw [a.cl, h.cl, kcs_chs]
  unfold chsL cellsOf
  rw [List.map_append, List.flatten_append, List.foldl_append]
theorem HasK.chs {rs : List MRow} {l : List Nm} {s : RS} (h : HasK rs l s) (nd : l.Nodup) {k : Nm} (hk : k ∈ l) : chsK s.ms k = chsK rs k := by
  have hn := h.names
  rw [← hn] at hk
  obtain ⟨m, hm, rfl⟩ := List.mem_map.mp hk
  rw [chsK_of (by rw [hn]; exact nd) hm]
  have : (m.1, m.2.2) ∈ kcs rs l := by rw [← h.ms]; exact List.mem_map.mpr ⟨m, hm, rfl⟩
  obtain ⟨k, _, e⟩ := List.mem_map.mp this
  injection e with e1 e2
  rw [← e1, ← e2]
theorem HasK.row {rs : List MRow} {l : List Nm} {s : RS} (h : HasK rs l s) {m : MRow} (hm : m ∈ s.ms) : m.1 ∈ l ∧ m.2.2 = chsK rs m.1 := by
  have : (m.1, m.2.2) ∈ kcs rs l := by rw [← h.ms]; exact List.mem_map.mpr ⟨m, hm, rfl⟩
  obtain ⟨k, hk, e⟩ := List.mem_map.mp this
  injection e with e1 e2
  rw [← e1, ← e2]
  exact ⟨hk, rfl⟩
theorem HasK.br {rs : List MRow} {l : List Nm} {s : RS} (h : HasK rs l s) (nd : l.Nodup) {m : List Nm} (sub : ∀ k ∈ m, k ∈ l) : brL s m = kcs rs m := by
  unfold brL kcs
  exact List.map_congr_left fun k hk => by rw [h.chs nd (sub k hk)]
end

/-! ### messages that are drawn -/
section
variable {P : Program} {w : World} {K : PySem.W.Frag} {mg : Str → Option Value} {base : Heap} {C CS : Addr}
def spPickI (K : PySem.W.Frag) : Sp := fun vs H Q _ => ∃ (b dg r : Addr) (ns : List Int), vs = [.ref b, .ref r] ∧ Box K b dg H ∧ H r = some (.lst (ns.map V.int)) ∧ 0 < ns.length ∧ ns.length ≤ 900 ∧ r ∉ [b] ∧
  ∀ (n : Int) (H1 : Hp), n ∈ ns → Stp [b] H H1 → Box K b dg H1 → Q (.int n) H1
theorem cal_law_pickI (F : Df K mg d_law_pick) (B : Blt mg) (C_law_draw : Cal P w K mg base lv_law_draw "_law_draw" ["box", "many"] (spDraw K)) : Cal P w K mg base lv_law_pick "_law_pick" ["box", "row"] (spPickI K) := by
  obtain ⟨f, fd, F, g⟩ := F
  refine ⟨f, fd, F.ok sc_law_pick (fun vs H Q E h => ?_) (fun cdv A outer s H vs Q E hr h => ⟨_, PSs.nox
    (pss_one (ps_ret (pe_ix (ix_listK (K := K) rfl) (pv 1) (pe_op op_mod (pe_callTy call_int1 (by rfl) B.int boot_int (pa_cons (pc_call C_law_draw (hr.mono (by decide)) (by rfl) (pa_cons (pv 0) (pa_cons pe_int pa_nil))) pa_nil)) (pe_callB call_len_seq (by rfl) B.len boot_len (pa_cons (pv 1) pa_nil))) (fun _ _ => rfl)))), ?_⟩), g, F.kp, F.bindsN fun _ _ _ _ _ _ us hl => match us, hl with | [_, _], _ => rfl⟩
  · obtain ⟨b, dg, r, ns, rfl, _⟩ := h
    rfl
  · obtain ⟨b, dg, r, ns, rfl, hb, hr, l0, l1, rb, q⟩ := h
    repeat walk_at "h"
    refine ⟨b, dg, 900, rfl, by decide, hb, fun d H1 d0 d1 s1 b1 => ?_⟩
    have hr1 := s1.keep _ _ hr rb
    repeat walk_at "h"
    refine .inl ⟨d, rfl, ?_⟩
    repeat walk_at "h"
    refine ⟨r, _, rfl, .inl (SqL.of hr1), ?_⟩
    rw [List.length_map]
    have n0 : (0 : Int) < (ns.length : Int) := by omega
    refine i_I (show (0 : Int) < (ns.length : Int) from n0) ?_
    have m0 := Int.emod_nonneg d (b := (ns.length : Int)) (by omega)
    have m1 := Int.emod_lt_of_pos d n0
    obtain ⟨k, hk⟩ : ∃ k : Nat, d % (ns.length : Int) = (k : Int) := ⟨(d % (ns.length : Int)).toNat, by omega⟩
    rw [hk] at m1 ⊢
    have lk : k < ns.length := by omega
    obtain ⟨n, hn⟩ : ∃ n, ns[k]? = some n := ⟨_, List.getElem?_eq_getElem lk⟩
    refine i_IxL (SqL.of hr1) (at_of (j := k) rfl (v := .int n) (by rw [List.getElem?_map, hn]; rfl)) ?_
    exact q n H1 (List.mem_of_getElem? hn) s1 b1
structure MOk (r : MRow) : Prop where
  sd : 0 ≤ r.1.1 ∧ r.1.1 ≤ 7
  nr : 1 ≤ r.1.2 ∧ r.1.2 ≤ 8
  len : r.2.2.length ≤ 3
  ok : ∀ c ∈ r.2.2, OkChL c
def names2 : List Nm := [(0, 0), (1, 0)]
def spMessages (P : Program) (w : World) (K : PySem.W.Frag) : Sp := fun vs H Q _ => ∃ (b dg : Addr), vs = [.ref b] ∧ Box K b dg H ∧ ∀ (d : Addr) (rs : List MRow) (H1 : Hp), H d = none → (∀ r ∈ rs, H r.2.1 = none ∧ r.2.1 ≠ d) → MB P w K H1 d rs → rs.length ≤ 20 → (∀ r ∈ rs, MOk r) → Stp [b] H H1 → Box K b dg H1 → Q (.ref d) H1
theorem worth_ok {x : Va} (h : drawnVaD names2 x) : okVaL x := by
  cases x with
  | non => trivial
  | num i => exact ⟨by have := h.1; omega, by have := h.2; omega⟩
  | txt z => exact textsD_ok h
  | tg s m =>
    refine ⟨h.1, ?_⟩
    have hm := h.2
    simp only [names2, List.mem_cons, List.not_mem_nil, or_false] at hm
    rcases hm with rfl | rfl <;> exact ⟨by decide, by decide⟩
theorem cal_law_messages (F : Df K mg d_law_messages) (B : Blt mg) (C_law_draw : Cal P w K mg base lv_law_draw "_law_draw" ["box", "many"] (spDraw K)) (C_law_pick : Cal P w K mg base lv_law_pick "_law_pick" ["box", "row"] (spPickI K)) (C_law_field : Cal P w K mg base lv_law_field "_law_field" ["box"] (spFieldD K)) (C_law_worth : Cal P w K mg base lv_law_worth "_law_worth" ["box", "names"] (spWorthD K)) : Cal P w K mg base lv_law_messages "_law_messages" ["box"] (spMessages P w K) := by
  obtain ⟨f, fd, F, g⟩ := F
  refine ⟨f, fd, F.ok sc_law_messages (fun vs H Q E h => ?_) (fun cdv A outer s H vs Q E hr h => ⟨_, PSs.nox
    (pss_cons (ps_set (i := 1) sc_law_messages.nd rfl (Or.inl rfl) pe_dnewN)
    (pss_cons (ps_set (i := 2) sc_law_messages.nd rfl (Or.inl rfl) pe_int)
    (pss_cons (ps_for PassesOwn.never rfl (pi_range1 rfl B.range (pa_cons pe_int pa_nil)) (pg_name (i := 3) sc_law_messages.nd rfl (Or.inl rfl))
      (pss_cons (ps_set (i := 4) sc_law_messages.nd rfl (Or.inl rfl) (pe_tup (pa_cons (pc_call C_law_pick (hr.mono (by decide)) (by rfl) (pa_cons (pv 0) (pa_cons (pe_lst (pa_cons pe_int (pa_cons pe_int (pa_cons pe_int (pa_cons pe_int pa_nil))))) pa_nil))) (pa_cons (pe_op op_add pe_int (pc_call C_law_draw (hr.mono (by decide)) (by rfl) (pa_cons (pv 0) (pa_cons pe_int pa_nil)))) pa_nil))))
        (pss_one (ps_if (pt_cmp (pc_nnotinK (P := P) (w := w) (K := K) rfl rfl rfl hr (pv 4) (pv 1)))
          (pss_cons (ps_set (i := 5) sc_law_messages.nd rfl (Or.inl rfl) (pe_lst pa_nil))
            (pss_cons (ps_for PassesOwn.never rfl (pi_range1 rfl B.range (pa_cons (pe_op op_add pe_int (pc_call C_law_draw (hr.mono (by decide)) (by rfl) (pa_cons (pv 0) (pa_cons pe_int pa_nil)))) pa_nil)) (pg_name (i := 6) sc_law_messages.nd rfl (Or.inl rfl))
              (pss_cons (ps_set (i := 2) sc_law_messages.nd rfl (Or.inl rfl) (pe_op op_add (pv 2) pe_int))
                (pss_cons (ps_set (i := 7) sc_law_messages.nd rfl (Or.inl rfl) (pe_tup (pa_cons (pc_call C_law_draw (hr.mono (by decide)) (by rfl) (pa_cons (pv 0) (pa_cons pe_int pa_nil))) (pa_cons (pc_call C_law_draw (hr.mono (by decide)) (by rfl) (pa_cons (pv 0) (pa_cons pe_int pa_nil))) pa_nil))))
                (pss_one (ps_expr (pe_bm PySem.F.plainAttrs_list PySem.F.slot_list_append PySem.F.type_list_append mt_append (pv 5) (pa_cons (pe_tup (pa_cons (pe_tup (pa_cons (pv 2) (pa_cons (pe_ix (ix_tupK (K := K) rfl) (pv 4) pe_int (fun _ _ => rfl)) pa_nil))) (pa_cons (pv 7) (pa_cons (pc_call C_law_field (hr.mono (by decide)) (by rfl) (pa_cons (pv 0) pa_nil)) (pa_cons (pc_call C_law_worth (hr.mono (by decide)) (by rfl) (pa_cons (pv 0) (pa_cons (pe_lst (pa_cons (pe_tup (pa_cons pe_int (pa_cons pe_int pa_nil))) (pa_cons (pe_tup (pa_cons pe_int (pa_cons pe_int pa_nil))) pa_nil))) pa_nil))) pa_nil))))) pa_nil)))))))
            (pss_one (ps_nput hr (pv 1) (pv 4) (pv 5) rfl))))
          pss_nil))))
    (pss_one (ps_ret (pv 1)))))), ?_⟩), g, F.kp, F.bindsN fun _ _ _ _ _ _ us hl => match us, hl with | [_], _ => rfl⟩
  · obtain ⟨b, dg, rfl, _⟩ := h
    rfl
  · obtain ⟨b, dg, rfl, hb, q⟩ := h
    repeat walk_at "h"
    intro d H1 nd n1 s1
    have b1 := hb.grow s1
    repeat walk_at "h"
    refine ⟨20, rfl, by decide, by decide, ?_⟩
    have db : d ∉ [b] := hb.nin nd
    refine for_range (lo := 0) (n := 20) (fun i σ H' => ∃ (y3 y4 y5 y6 y7 : Option V) (ck : Int) (rs : List MRow), σ = [some (.ref b), some (.ref d), some (.int ck), y3, y4, y5, y6, y7] ∧ Box K b dg H' ∧ MB P w K H' d rs ∧ rs.length ≤ i ∧ (0 ≤ ck ∧ ck ≤ 3 * i) ∧ (∀ r ∈ rs, MOk r ∧ H r.2.1 = none ∧ r.2.1 ≠ d) ∧ Stp [b] H H')
      ⟨_, _, _, _, _, 0, [], rfl, b1, ⟨n1, by simp, by simp⟩, Nat.zero_le _, by omega, by simp, s1.mono (by simp)⟩ ?_ ?_
    · rintro i σ H2 hi ⟨y3, y4, y5, y6, y7, ck, rs, rfl, b2, m2, lr, c2, ro, s2⟩
      have m2d : d ∉ [b] := db
      have rb2 : ∀ r ∈ rs, r.2.1 ∉ [b] := fun r hr => hb.nin (ro r hr).2.1
      repeat walk_at "h"
      refine ⟨(by decide : 4 ≤ sizeLine), fun lp nlp => ?_⟩
      have s3 : Stp [] H2 (upd H2 lp (.lst [.int 0, .int 1, .int 5, .int 7])) := .new nlp
      have l3 : upd H2 lp (.lst [.int 0, .int 1, .int 5, .int 7]) lp = some (.lst (([0, 1, 5, 7] : List Int).map V.int)) := upd_same
      have b3 := b2.grow s3
      have m3 := m2.stp s3 (by simp) (by simp)
      have lpb := b2.nin nlp
      have s03 := s2.trans (s3.mono (M' := [b]) (by simp))
      generalize upd H2 lp (.lst [.int 0, .int 1, .int 5, .int 7]) = H3 at s3 l3 b3 m3 s03 ⊢
      clear s3 nlp b2 m2 s2
      refine ⟨b, dg, lp, [0, 1, 5, 7], rfl, b3, l3, by decide, by decide, lpb, fun sd H4 hsd s4 b4 => ?_⟩
      have sd7 : 0 ≤ sd ∧ sd ≤ 7 := by
        simp only [List.mem_cons, List.not_mem_nil, or_false] at hsd
        omega
      repeat walk_at "h"
      refine ⟨b, dg, 8, rfl, by decide, b4, fun nr H5 nr0 nr1 s5 b5 => ?_⟩
      repeat walk_at "h"
      refine ⟨(by decide : 2 ≤ sizeLine), fun kt nkt => ?_⟩
      have s6 : Stp [] H5 (upd H5 kt (.tup [.int sd, .int (1 + nr)])) := .new nkt
      have t6 : TupAt K (upd H5 kt (.tup [.int sd, .int (1 + nr)])) kt [.int sd, .int (1 + nr)] := .inl upd_same
      have k6 : DtAt K (upd H5 kt (.tup [.int sd, .int (1 + nr)])) (.ref kt) (nmD (sd, 1 + nr)) := nm_mk (n := (sd, 1 + nr)) upd_same
      have s36 := (s4.trans s5).trans (s6.mono (M' := [b]) (by simp))
      have b6 := b5.grow s6
      have m6 := m3.stp s36 m2d rb2
      have s06 := s03.trans s36
      generalize upd H5 kt (.tup [.int sd, .int (1 + nr)]) = H6 at s6 t6 k6 s36 b6 m6 s06 ⊢
      clear s6 nkt b5 b4 s5 s4 b3 m3 s03 s36 l3
      repeat walk_at "h"
      refine ⟨d, kt, mKvs rs, (nmD (sd, 1 + nr)).key, rfl, rfl, m6.nd.r, KyAt.of k6 rfl (by simp [nmD, Dt.depth, Dt.depthAll]), ?_⟩
      rw [m_isSome]
      by_cases hm : (sd, 1 + nr) ∈ rs.map (·.1)
      · rw [decide_eq_true hm]
        refine ⟨_, rfl, iteF ?_⟩
        repeat walk_at "h"
        exact ⟨_, _, _, _, _, ck, rs, rfl, b6, m6, by omega, by omega, ro, s06⟩
      · rw [decide_eq_false hm]
        refine ⟨_, rfl, iteT ?_⟩
        repeat walk_at "h"
        refine ⟨Nat.zero_le _, fun fp nfp => ?_⟩
        have s7 : Stp [] H6 (upd H6 fp (.lst [])) := .new nfp
        have f7 : upd H6 fp (.lst []) fp = some (.lst []) := upd_same
        have b7 := b6.grow s7
        have m7 := m6.stp s7 (by simp) (by simp)
        have k7 := DtAt.stp s7 _ _ rfl k6
        have t7 : TupAt K (upd H6 fp (.lst [])) kt [.int sd, .int (1 + nr)] := t6.stp s7
        have s07 := s06.trans (s7.mono (M' := [b]) (by simp))
        have nfH : H fp = none := by
          cases e : H fp with
          | none => rfl
          | some o =>
            by_cases z : fp = b
            · exact absurd (by simp [z]) (b6.nin nfp)
            · rw [s06.keep _ _ e (by simpa using z)] at nfp; cases nfp
        have fpd : d ≠ fp := fun z => by
          obtain ⟨o, e, _⟩ := m6.nd
          rw [z, nfp] at e; cases e
        have fpr : ∀ r ∈ rs, r.2.1 ≠ fp := fun r hr z => by
          obtain ⟨vs, e, _⟩ := m6.at_ r hr
          rw [z, nfp] at e; cases e
        generalize upd H6 fp (.lst []) = H7 at s7 f7 b7 m7 k7 t7 s07 ⊢
        clear s7 nfp b6 m6 k6 t6 s06
        have fb : fp ∉ [b] := hb.nin nfH
        repeat walk_at "h"
        refine ⟨b, dg, 3, rfl, by decide, b7, fun n H8 n0 n1 s8 b8 => ?_⟩
        have f8 := s8.keep _ _ f7 fb
        have m8 := m7.stp s8 m2d rb2
        have k8 := DtAt.stp s8 _ _ rfl k7
        have t8 := t7.stp s8
        have s08 := s07.trans s8
        clear s8 b7 f7 m7 k7 t7 s07
        repeat walk_at "h"
        refine ⟨1 + n, rfl, by omega, by omega, ?_⟩
        refine for_range (lo := 0) (n := (1 + n).toNat) (fun j σ H' => ∃ (y6 y7 : Option V) (ck' : Int) (fw : List V) (cs : List Ch), σ = [some (.ref b), some (.ref d), some (.int ck'), some (.int (0 + (i : Int))), some (.ref kt), some (.ref fp), y6, y7] ∧ Box K b dg H' ∧ MB P w K H' d rs ∧ DtAt K H' (.ref kt) (nmD (sd, 1 + nr)) ∧ TupAt K H' kt [.int sd, .int (1 + nr)] ∧ H' fp = some (.lst fw) ∧ DtsAt K H' fw (cs.map chD) ∧ cs.length ≤ j ∧ (0 ≤ ck' ∧ ck' ≤ ck + j) ∧ (∀ c ∈ cs, OkChL c) ∧ Stp [b] H H')
          ⟨_, _, ck, [], [], rfl, b8, m8, k8, t8, f8, .nil, Nat.zero_le _, by omega, by simp, s08⟩ ?_ ?_
        · clear b8 m8 k8 t8 f8 s08
          rintro j σ H9 hj ⟨y6, y7, ck', fw, cs, rfl, b9, m9, k9, t9, f9, d9, lc, c9, okc, s9⟩
          have fl : fw.length = cs.length := by have := d9.length; rwa [List.length_map] at this
          repeat walk_at "h"
          refine ⟨b, dg, 3, rfl, by decide, b9, fun na H10 na0 na1 s10 b10 => ?_⟩
          repeat walk_at "h"
          refine ⟨b, dg, 3, rfl, by decide, b10, fun nb H11 nb0 nb1 s11 b11 => ?_⟩
          repeat walk_at "h"
          refine ⟨(by decide : 2 ≤ sizeLine), fun nt nnt => ?_⟩
          have s12 : Stp [] H11 (upd H11 nt (.tup [.int na, .int nb])) := .new nnt
          have n12 : DtAt K (upd H11 nt (.tup [.int na, .int nb])) (.ref nt) (nmD (na, nb)) := nm_mk (n := (na, nb)) upd_same
          have b12 := b11.grow s12
          have s912 := (s10.trans s11).trans (s12.mono (M' := [b]) (by simp))
          have f12 := s912.keep _ _ f9 fb
          have t12 := t9.stp s912
          generalize upd H11 nt (.tup [.int na, .int nb]) = H12 at s12 n12 b12 s912 f12 t12 ⊢
          clear s10 s11 s12 b9 b10 b11 nnt
          repeat walk_at "h"
          refine ⟨.inl ⟨rfl, _, SqL.of f12⟩, ?_⟩
          repeat walk_at "h"
          refine i_IxT t12.sqt (at_of (j := 0) rfl rfl) ?_
          repeat walk_at "h"
          refine ⟨(by decide : 2 ≤ sizeLine), fun st nst => ?_⟩
          have s13 : Stp [] H12 (upd H12 st (.tup [.int (ck' + 1), .int sd])) := .new nst
          have st13 : DtAt K (upd H12 st (.tup [.int (ck' + 1), .int sd])) (.ref st) (nmD (ck' + 1, sd)) := nm_mk (n := (ck' + 1, sd)) upd_same
          have b13 := b12.grow s13
          have n13 := DtAt.stp s13 _ _ rfl n12
          have s913 := s912.trans (s13.mono (M' := [b]) (by simp))
          generalize upd H12 st (.tup [.int (ck' + 1), .int sd]) = H13 at s13 st13 b13 n13 s913 ⊢
          clear s13 b12 n12 nst f12 t12 s912
          repeat walk_at "h"
          refine ⟨b, dg, rfl, b13, fun z H14 hz s14 b14 => ?_⟩
          have st14 := DtAt.stp s14 _ _ rfl st13
          have n14 := DtAt.stp s14 _ _ rfl n13
          have s914 := s913.trans s14
          clear s14 b13 st13 n13 s913
          repeat walk_at "h"
          refine ⟨(by decide : 2 ≤ sizeLine), fun q1 nq1 => ?_⟩
          have s15 : Stp [] H14 (upd H14 q1 (.tup [.int 0, .int 0])) := .new nq1
          have q15 : DtAt K (upd H14 q1 (.tup [.int 0, .int 0])) (.ref q1) (nmD (0, 0)) := nm_mk (n := (0, 0)) upd_same
          generalize upd H14 q1 (.tup [.int 0, .int 0]) = H15 at s15 q15 ⊢
          repeat walk_at "h"
          refine ⟨(by decide : 2 ≤ sizeLine), fun q2 nq2 => ?_⟩
          have s16 : Stp [] H15 (upd H15 q2 (.tup [.int 1, .int 0])) := .new nq2
          have q16 : DtAt K (upd H15 q2 (.tup [.int 1, .int 0])) (.ref q2) (nmD (1, 0)) := nm_mk (n := (1, 0)) upd_same
          have q16' := DtAt.stp s16 _ _ rfl q15
          generalize upd H15 q2 (.tup [.int 1, .int 0]) = H16 at s16 q16 q16' ⊢
          repeat walk_at "h"
          refine ⟨(by decide : 2 ≤ sizeLine), fun nl nnl => ?_⟩
          have s17 : Stp [] H16 (upd H16 nl (.lst [.ref q1, .ref q2])) := .new nnl
          have l17 : upd H16 nl (.lst [.ref q1, .ref q2]) nl = some (.lst [.ref q1, .ref q2]) := upd_same
          have d17 : DtsAt K (upd H16 nl (.lst [.ref q1, .ref q2])) [.ref q1, .ref q2] (names2.map nmD) := .cons (DtAt.stp s17 _ _ rfl q16') (.cons (DtAt.stp s17 _ _ rfl q16) .nil)
          have s1417 := (s15.trans s16).trans s17
          have b17 := b14.grow s1417
          have nlb : nl ∉ [b] := (b14.grow (s15.trans s16)).nin nnl
          have st17 := DtAt.stp s1417 _ _ rfl st14
          have n17 := DtAt.stp s1417 _ _ rfl n14
          have s917 := s914.trans (s1417.mono (M' := [b]) (by simp))
          generalize upd H16 nl (.lst [.ref q1, .ref q2]) = H17 at s17 l17 d17 s1417 b17 st17 n17 s917 ⊢
          clear s15 s16 s17 s1417 q15 q16 q16' b14 st14 n14 s914 nq1 nq2 nnl
          refine ⟨b, dg, nl, [.ref q1, .ref q2], names2, rfl, b17, l17, d17, by decide, by decide, nlb, fun v x H18 hx dv s18 b18 => ?_⟩
          have st18 := DtAt.stp s18 _ _ rfl st17
          have n18 := DtAt.stp s18 _ _ rfl n17
          have s918 := s917.trans s18
          repeat walk_at "h"
          refine ⟨(by decide : 4 ≤ sizeLine), fun c nc => ?_⟩
          have s19 : Stp [] H18 (upd H18 c (.tup [.ref st, .ref nt, .str z, v])) := .new nc
          have dc : DtAt K (upd H18 c (.tup [.ref st, .ref nt, .str z, v])) (.ref c) (chD ⟨(ck' + 1, sd), (na, nb), z, x⟩) :=
            ch_mk (c := ⟨(ck' + 1, sd), (na, nb), z, x⟩) (.inl upd_same) (DtAt.stp s19 _ _ rfl st18) (DtAt.stp s19 _ _ rfl n18) (DtAt.stp s19 _ _ (vaD_flat _) dv)
          have b19 := b18.grow s19
          have s919 := s918.trans (s19.mono (M' := [b]) (by simp))
          generalize upd H18 c (.tup [.ref st, .ref nt, .str z, v]) = H19 at s19 dc b19 s919 ⊢
          clear s19 s18 st18 n18 s918 b18 dv st17 n17 s917 b17 l17 d17 nc
          have f19 := s919.keep _ _ f9 fb
          have d19 := chs_stp d9 s919
          have m19 := m9.stp s919 m2d rb2
          have k19 := DtAt.stp s919 _ _ rfl k9
          have t19 := t9.stp s919
          have s019 := s9.trans s919
          clear s919 f9 d9 m9 k9 t9 s9
          repeat walk_at "h"
          refine ⟨fp, fw, .ref c, rfl, rfl, f19, Nat.lt_of_le_of_lt (show fw.length ≤ 1000 by omega) (by decide), ?_⟩
          have s20 : Stp [fp] H19 (upd H19 fp (.lst (fw ++ [.ref c]))) := .wr (by simp) f19 fun _ z => nomatch z
          repeat walk_at "h"
          refine ⟨_, _, ck' + 1, fw ++ [.ref c], cs ++ [⟨(ck' + 1, sd), (na, nb), z, x⟩], rfl, hb.off (M := []) b19 nfH s20, m19.stp s20 (by simpa using fpd) (fun r hr => by simpa using fpr r hr), DtAt.stp s20 _ _ rfl k19, t19.stp s20, upd_same, dts_map (chs_stp d19 s20) (DtAt.stp s20 _ _ (chD_flat _) dc), by rw [List.length_append, List.length_singleton]; omega, by omega, fun e he => ?_, s019.into nfH (s20.mono (by simp))⟩
          rcases List.mem_append.mp he with he | he
          · exact okc e he
          · rw [List.mem_singleton.mp he]
            refine ⟨⟨by show 1 ≤ ck' + 1; omega, by show ck' + 1 ≤ 4294967295; omega⟩, sd7, ⟨⟨na0, by show na ≤ 7; omega⟩, ⟨nb0, by show nb ≤ 4294967295; omega⟩⟩, fieldsD_ok hz, worth_ok hx⟩
        · rintro σ H9 ⟨y6, y7, ck', fw, cs, rfl, b9, m9, k9, t9, f9, d9, lc, c9, okc, s9⟩
          repeat walk_at "h"
          refine ⟨d, kt, mKvs rs, (nmD (sd, 1 + nr)).key, rfl, rfl, m9.nd, KyAt.of k9 rfl (by simp [nmD, Dt.depth, Dt.depthAll]), ?_, fun H10 n10 s10 _ => ?_⟩
          · unfold mKvs
            rw [List.length_map]
            exact Nat.lt_of_le_of_lt (show rs.length ≤ 200 by omega) (by decide)
          have ll : cs.length ≤ 3 := by omega
          refine ⟨_, _, _, _, _, ck', rs ++ [((sd, 1 + nr), fp, cs)], rfl, hb.off (M := []) b9 nd s10, m9.put s10 n10 hm (fun r hr => (ro r hr).2.2) ⟨fw, s10.keep _ _ f9 (by simpa using fpd.symm), chs_stp d9 s10⟩, by rw [List.length_append, List.length_singleton]; omega, by omega, fun r hr => ?_, s9.into nd (s10.mono (by simp))⟩
          rcases List.mem_append.mp hr with y | y
          · exact ro r y
          · rw [List.mem_singleton.mp y]
            exact ⟨⟨sd7, ⟨by show 1 ≤ 1 + nr; omega, by show 1 + nr ≤ 8; omega⟩, ll, okc⟩, nfH, fpd.symm⟩
    · rintro σ H2 ⟨y3, y4, y5, y6, y7, ck, rs, rfl, b2, m2, lr, c2, ro, s2⟩
      repeat walk_at "h"
      exact q d rs H2 nd (fun r hr => (ro r hr).2) m2 lr (fun r hr => (ro r hr).1) s2 b2
end

/-! ### two replicas and what the law holds -/
section
variable {P : Program} {w : World} {K : PySem.W.Frag} {mg : Str → Option Value} {base : Heap} {C CS : Addr}
structure LW (P : Program) (w : World) (K : PySem.W.Frag) (C CS : Addr) (H : Hp) (d : Addr) (rs : List MRow) (rp kp : Addr) (rv kv : List V) (k0 k1 : Addr) (ks0 ks1 : List Nm) (A : RA) (s : RS) (B : RA) (t : RS) : Prop where
  M : MB P w K H d rs
  rpv : H rp = some (.lst rv)
  kpv : H kp = some (.lst kv)
  h0 : ∃ ws, H k0 = some (.lst ws) ∧ DtsAt K H ws (ks0.map nmD)
  h1 : ∃ ws, H k1 = some (.lst ws) ∧ DtsAt K H ws (ks1.map nmD)
  ra : RpAt P w K C CS H A s
  rb : RpAt P w K C CS H B t
  dA : d ∉ [A.r, A.d, A.ml]
  dB : d ∉ [B.r, B.d, B.ml]
  f3 : ∀ x ∈ foot A s.ms, x ∉ foot B t.ms
theorem RpAt.off {H : Hp} {a : RA} {s : RS} (R : RpAt P w K C CS H a s) {x : Addr} (e : ∃ xs, H x = some (.lst xs)) : x ∉ [a.r, a.d, a.ml] := by
  obtain ⟨h1, _, h3, h4⟩ := R.lst e
  simp only [List.mem_cons, List.not_mem_nil, or_false, not_or]
  exact ⟨h1, h3, h4⟩
section
variable {H H1 : Hp} {d rp kp k0 k1 : Addr} {rs : List MRow} {ks0 ks1 : List Nm} {rv kv : List V} {A B : RA} {s t s' : RS}
theorem LW.swap (L : LW P w K C CS H d rs rp kp rv kv k0 k1 ks0 ks1 A s B t) : LW P w K C CS H d rs rp kp rv kv k1 k0 ks1 ks0 B t A s :=
  ⟨L.M, L.rpv, L.kpv, L.h1, L.h0, L.rb, L.ra, L.dB, L.dA, fun x hx z => L.f3 x z hx⟩
theorem LW.go (L : LW P w K C CS H d rs rp kp rv kv k0 k1 ks0 ks1 A s B t) (S : Stp [A.r, A.d, A.ml] H H1) (R' : RpAt P w K C CS H1 A s') (f : ∀ x ∈ foot A s'.ms, x ∉ foot B t.ms) : LW P w K C CS H1 d rs rp kp rv kv k0 k1 ks0 ks1 A s' B t := by
  obtain ⟨w0, e0, d0⟩ := L.h0
  obtain ⟨w1, e1, d1⟩ := L.h1
  have o : ∀ {x : Addr} {xs : List V}, H x = some (.lst xs) → H1 x = some (.lst xs) := fun {x xs} e => S.keep _ _ e (L.ra.off ⟨xs, e⟩)
  refine ⟨L.M.stp S L.dA (fun r hr => ?_), o L.rpv, o L.kpv, ⟨w0, o e0, DtsAt.stp S _ _ (nms_flat _) d0⟩, ⟨w1, o e1, DtsAt.stp S _ _ (nms_flat _) d1⟩, R', L.rb.stp S (fun x hx z => ?_), L.dA, L.dB, f⟩
  · obtain ⟨vs, e, _⟩ := L.M.at_ r hr
    exact L.ra.off ⟨vs, e⟩
  · refine L.f3 x (List.mem_append_left _ ?_) hx
    simp only [List.mem_cons, List.not_mem_nil, or_false] at z
    rcases z with h | h | h <;> rw [h] <;> simp
theorem LW.grow (L : LW P w K C CS H d rs rp kp rv kv k0 k1 ks0 ks1 A s B t) (S : Stp [] H H1) : LW P w K C CS H1 d rs rp kp rv kv k0 k1 ks0 ks1 A s B t :=
  L.go (S.mono (by simp)) (L.ra.grow S) L.f3
theorem LW.acc (L : LW P w K C CS H d rs rp kp rv kv k0 k1 ks0 ks1 A s B t) {k : Nm} {q : Addr} {cs : List Ch} (hq : H q = none) (R : RpAt P w K C CS H1 A (acceptR s k q cs)) (S : Stp [A.r, A.d, A.ml] H H1) : LW P w K C CS H1 d rs rp kp rv kv k0 k1 ks0 ks1 A (acceptR s k q cs) B t := by
  refine L.go S R fun x hx z => ?_
  have ems : (acceptR s k q cs).ms = s.ms ++ [(k, q, cs)] := (fold_ms cs _).1
  rw [ems] at hx
  unfold foot at hx
  rw [List.map_append] at hx
  rcases List.mem_append.mp hx with y | y
  · exact L.f3 x (List.mem_append_left _ y) z
  · rcases List.mem_append.mp y with y | y
    · exact L.f3 x (List.mem_append_right _ y) z
    · simp only [List.map_cons, List.map_nil, List.mem_singleton] at y
      rw [y] at z
      exact L.rb.there z hq
end
theorem nm_any (ks : List Nm) (k : Nm) : ((ks.map nmD).any fun z => Dt.beq z (nmD k)) = decide (k ∈ ks) := by
  rw [Bool.eq_iff_iff, List.any_eq_true, decide_eq_true_eq]
  constructor
  · rintro ⟨x, hx, hb⟩
    obtain ⟨n, hn, rfl⟩ := List.mem_map.mp hx
    rw [nmD_beq] at hb
    rw [← of_decide_eq_true hb]; exact hn
  · intro h
    exact ⟨nmD k, List.mem_map.mpr ⟨k, h, rfl⟩, Dt.beq_self _⟩
theorem HasK.start (rs : List MRow) (p ck bg : Int) (rts : List Nm) (pd : List Ch) : HasK rs [] ⟨p, ck, bg, [], rts, pd, []⟩ := ⟨rfl, rfl⟩
theorem HasK.ok {rs : List MRow} {l : List Nm} {s : RS} (h : HasK rs l s) (mok : ∀ r ∈ rs, MOk r) (nd : (rs.map (·.1)).Nodup) (sub : ∀ k ∈ l, k ∈ rs.map (·.1)) {m : MRow} (hm : m ∈ s.ms) : m.2.2.length ≤ 3 ∧ ∀ c ∈ m.2.2, OkChL c := by
  obtain ⟨h1, h2⟩ := h.row hm
  obtain ⟨r, hr, e⟩ := List.mem_map.mp (sub _ h1)
  rw [h2, ← e, chsK_of nd hr]
  exact ⟨(mok r hr).len, (mok r hr).ok⟩
theorem keys_ok {rs : List MRow} (mok : ∀ r ∈ rs, MOk r) {l : List Nm} (sub : ∀ k ∈ l, k ∈ rs.map (·.1)) (ll : l.length ≤ 60) : KeysOk l := by
  refine ⟨by omega, fun k hk => ?_⟩
  obtain ⟨r, hr, e⟩ := List.mem_map.mp (sub k hk)
  have := (mok r hr).nr
  rw [← e]; omega
end

/-! ### what a replica has, by the law -/
section
variable {P : Program} {w : World} {K : PySem.W.Frag} {mg : Str → Option Value} {base : Heap} {C CS : Addr}
theorem told_shows {ks : List Nm} (h : KeysOk ks) : (Dt.lst ((toldK ks).map rowD)).Shows := by
  have row : ∀ rs ∈ toldK ks, ∃ p : Nat, rs = rgs (sset (numsK ks p)) := fun rs hr => by
    unfold toldK at hr
    obtain ⟨p, _, e⟩ := List.mem_map.mp hr
    exact ⟨p, e.symm⟩
  have tl : (toldK ks).length = 8 := by simp [toldK]
  have one : ∀ rs ∈ toldK ks, (rowD rs).brief = true ∧ (rowD rs).mass ≤ 1000 ∧ (rowD rs).depth ≤ 10 := fun rs hr => by
    obtain ⟨p, rfl⟩ := row rs hr
    obtain ⟨n6, ll⟩ := h.nums (p : Int)
    have rl := rgs_len (sset (numsK ks p))
    obtain ⟨ok, inl, _⟩ := rgs_ok _ (sset_asc (numsK ks p))
    refine ⟨?_, ?_, ?_⟩
    · unfold rowD
      rw [Dt.brief]
      refine briefAll_map nmD _ fun r hr => nm_brief6 ?_
      have h1 := n6 _ ((inl r.1).mp ⟨r, hr, Int.le_refl _, ok.le r hr⟩)
      have h2 := n6 _ ((inl r.2).mp ⟨r, hr, ok.le r hr, Int.le_refl _⟩)
      exact ⟨by omega, by omega⟩
    · unfold rowD
      rw [Dt.mass]
      have := massAll_map nmD 2 (rgs (sset (numsK ks p))) fun r _ => by simp [nmD, Dt.mass, Dt.massAll]
      omega
    · unfold rowD
      rw [Dt.depth]
      have := depthAll_map nmD 1 (rgs (sset (numsK ks p))) fun r _ => by simp [nmD, Dt.depth, Dt.depthAll]
      omega
  refine Dt.shows_of ?_ ?_ ?_
  · rw [Dt.brief]
    exact briefAll_map rowD _ fun r hr => (one r hr).1
  · rw [Dt.mass]
    have := massAll_map rowD 1000 (toldK ks) fun r hr => (one r hr).2.1
    have e : (2 : Nat) ^ 20 = 1048576 := by decide
    omega
  · rw [Dt.depth]
    have := depthAll_map rowD 10 (toldK ks) fun r hr => (one r hr).2.2
    omega
theorem chsL_snoc (rs : List MRow) (l : List Nm) (k : Nm) : chsL rs (l ++ [k]) = chsL rs l ++ chsK rs k := by simp [chsL]
theorem chsL_len {rs : List MRow} (h : ∀ r ∈ rs, r.2.2.length ≤ 3) (nd : (rs.map (·.1)).Nodup) : ∀ {l : List Nm}, (∀ k ∈ l, k ∈ rs.map (·.1)) → (chsL rs l).length ≤ 3 * l.length
  | [], _ => by simp [chsL]
  | k :: l, hk => by
    have ih := chsL_len h nd (l := l) fun k' h' => hk k' (List.mem_cons_of_mem _ h')
    obtain ⟨r, hr, rfl⟩ := List.mem_map.mp (hk k List.mem_cons_self)
    have := h r hr
    unfold chsL at ih ⊢
    rw [List.map_cons, List.flatten_cons, List.length_append, List.length_cons, chsK_of nd hr]
    omega
def spHas (P : Program) (w : World) (K : PySem.W.Frag) (C CS : Addr) : Sp := fun vs H Q _ => ∃ (a : RA) (s : RS) (d : Addr) (rs : List MRow) (kl : Addr) (kw : List V) (ks : List Nm), vs = [.ref a.r, .ref d, .ref kl] ∧ RpAt P w K C CS H a s ∧ MB P w K H d rs ∧ (∀ r ∈ rs, MOk r) ∧ H kl = some (.lst kw) ∧ DtsAt K H kw (ks.map nmD) ∧ KeysOk ks ∧ (∀ k ∈ ks, k ∈ rs.map (·.1)) ∧ HasK rs ks s ∧
  ∀ H1, Stp [] H H1 → Q (.bl true) H1
theorem cal_law_has (F : Df K mg d_law_has) (B : Blt mg) (S : RpC K C) (CL_State : Cls K CS) (NA : NoAttr K CS "cells") (C_told : Cal P w K mg base lv_told "told" ["replica"] (spTold P w K C CS)) (C_law_told : Cal P w K mg base lv_law_told "_law_told" ["keys"] (spToldL K)) (C_law_same : CalG P w K mg base lv_law_same "_law_same" ["one", "other"] (spSame K)) (C_law_cells : Cal P w K mg base lv_law_cells "_law_cells" ["changes"] (spCells P w K)) : CalG P w K mg base lv_law_has "_law_has" ["replica", "messages", "keys"] (spHas P w K C CS) := by
  obtain ⟨f, fd, F, g⟩ := F
  refine ⟨f, fd, GT.FunD.okG F sc_law_has (fun vs H Q E h => ?_) (fun cdv A outer s H vs Q E hr hG h => ⟨_, PSs.nox
    (pss_cons (ps_if (pt_not (pt_val (pc_callG C_law_same hG (hr.mono (by decide)) (by rfl) (pa_cons (pc_call C_told (hr.mono (by decide)) (by rfl) (pa_cons (pv 0) pa_nil)) (pa_cons (pc_call C_law_told (hr.mono (by decide)) (by rfl) (pa_cons (pv 2) pa_nil)) pa_nil)))))
      (pss_one (ps_ret pe_bl))
      pss_nil)
    (pss_cons (ps_set (i := 3) sc_law_has.nd rfl (Or.inl rfl) (pe_lst pa_nil))
    (pss_cons (ps_for PassesOwn.never rfl (pi_list (pv 2)) (pg_name (i := 4) sc_law_has.nd rfl (Or.inl rfl))
      (pss_one (ps_set (i := 3) sc_law_has.nd rfl (Or.inl rfl) (pe_op op_cat (pv 3) (pe_ngetK (P := P) (w := w) (K := K) rfl rfl rfl hr (pv 1) (pv 4) (fun _ _ => rfl))))))
    (pss_one (ps_ret (pe_cmpR (op_eqN (P := P) (w := w) (K := K) rfl rfl rfl hr.units) (pe_fld (pe_fld (pv 0) rfl) rfl) (pc_call C_law_cells (hr.mono (by decide)) (by rfl) (pa_cons (pv 3) pa_nil)) (nomark _))))))), ?_⟩), g, F.kp, F.bindsN fun _ _ _ _ _ _ us hl => match us, hl with | [_, _, _], _ => rfl⟩
  · obtain ⟨a, s, d, rs, kl, kw, ks, rfl, _⟩ := h
    rfl
  · obtain ⟨a, s, d, rs, kl, kw, ks, rfl, R, M, mok, hk, dk, ok, sub, hs, q⟩ := h
    have kwl : kw.length = ks.length := by have := dk.length; rwa [List.length_map] at this
    have sn := hs.names
    have sl : s.ms.length < 64 := by have := ok.1; rw [← sn, List.length_map] at this; exact this
    repeat walk_at "h"
    refine ⟨a, s, rfl, R, sl, fun tp tw H1 ntp htp dt s1 => ?_⟩
    rw [toldR_K, sn] at dt
    have hk1 := s1.keep _ _ hk (by simp)
    have dk1 := DtsAt.stp s1 _ _ (nms_flat _) dk
    repeat walk_at "h"
    refine ⟨kl, kw, ks, rfl, hk1, dk1, ok.1, fun lp lw H2 nlp hlp dl s2 => ?_⟩
    have htp2 := s2.keep _ _ htp (by simp)
    have dt2 := DtsAt.grow s2 _ _ dt
    repeat walk_at "h"
    refine ⟨_, _, .lst ((toldK ks).map rowD), rfl, .lst (SqL.of htp2) dt2, .lst (SqL.of hlp) dl, told_shows ok, ?_⟩
    repeat walk_at "h"
    refine iteF ?_
    have s02 := s1.trans s2
    repeat walk_at "h"
    refine ⟨Nat.zero_le _, fun p np => ?_⟩
    have s3 : Stp [] H2 (upd H2 p (.lst [])) := .new np
    have p3 : upd H2 p (.lst []) p = some (.lst []) := upd_same
    have s03 := s02.trans s3
    generalize upd H2 p (.lst []) = H3 at s3 p3 s03 ⊢
    clear s1 s2 s3 s02 hk1 dk1 htp dt htp2 dt2 hlp dl nlp ntp np
    have hk3 := s03.keep _ _ hk (by simp)
    repeat walk_at "h"
    refine ⟨kl, rfl, ⟨_, SqL.of hk3⟩, ?_⟩
    refine for_list (xs := kw) (fun i σ H' => ∃ (y4 : Option V) (p : Addr) (ws : List V), σ = [some (.ref a.r), some (.ref d), some (.ref kl), some (.ref p), y4] ∧ Stp [] H3 H' ∧ H' p = some (.lst ws) ∧ DtsAt K H' ws ((chsL rs (ks.take i)).map chD))
      ⟨_, p, [], rfl, .refl _, p3, by simp [chsL]; exact .nil⟩ (fun i σ H' _ ⟨_, _, _, _, h, _⟩ => SqL.of (h.keep _ _ hk3 (by simp))) ?_ ?_
    · rintro i v σ H4 hv ⟨y4, p4, ws, rfl, s4, h4, d4⟩
      obtain ⟨dd, hdd, dv⟩ := (DtsAt.stp (s03.trans s4) _ _ (nms_flat _) dk).getV hv
      rw [List.getElem?_map] at hdd
      obtain ⟨k, hk', rfl⟩ := Option.map_eq_some_iff.mp hdd
      have kin := List.mem_of_getElem? hk'
      obtain ⟨r, hr, rfl⟩ := List.mem_map.mp (sub k kin)
      obtain ⟨ka, rfl, hka⟩ := nmAt dv
      have tk : ks.take (i + 1) = ks.take i ++ [r.1] := by rw [List.take_add_one, hk']; rfl
      have M4 := M.stp (s03.trans s4) (by simp) (by simp)
      obtain ⟨rv, hrv, drv⟩ := M4.at_ r hr
      have wl : ws.length ≤ 3 * ks.length := by
        have h1 := d4.length
        rw [List.length_map] at h1
        have h2 := chsL_len (fun r hr => (mok r hr).len) M.names (l := ks.take i) fun k hk => sub k (List.mem_of_mem_take hk)
        rw [List.length_take] at h2; omega
      have rl : rv.length ≤ 3 := by
        have h1 := drv.length
        rw [List.length_map] at h1
        have := (mok r hr).len
        omega
      have kl6 := ok.1
      repeat walk_at "h"
      refine ⟨d, ka, _, (nmD r.1).key, _, rfl, rfl, M4.nd.r, KyAt.of dv rfl (by simp [nmD, Dt.depth, Dt.depthAll]), m_get M4.names hr, ?_⟩
      refine ⟨_, _, _, _, rfl, rfl, h4, hrv, Nat.le_trans (show ws.length + rv.length ≤ 1000 by omega) (by decide), fun c nc => ?_⟩
      have s5 : Stp [] H4 (upd H4 c (.lst (ws ++ rv))) := .new nc
      repeat walk_at "h"
      refine ⟨_, c, _, rfl, s4.trans s5, upd_same, ?_⟩
      rw [tk, chsL_snoc, List.map_append, chsK_of M.names hr]
      exact (chs_stp d4 s5).append (chs_stp drv s5)
    · rintro σ H4 ⟨y4, p4, ws, rfl, s4, h4, d4⟩
      rw [kwl, List.take_length] at d4
      have s04 := s03.trans s4
      have R4 := R.grow s04
      have wl : ws.length ≤ 1000 := by
        have h1 := d4.length
        rw [List.length_map] at h1
        have h2 := chsL_len (fun r hr => (mok r hr).len) M.names sub
        have := ok.1
        omega
      repeat walk_at "h"
      refine ⟨a.r, C, a.dx, _, _, rfl, R4.at_, S.cls, S.state, rfl, ?_⟩
      refine ⟨a.st, CS, a.sx, _, _, rfl, R4.S.at_, CL_State, NA, rfl, ?_⟩
      repeat walk_at "h"
      refine ⟨p4, ws, chsL rs ks, rfl, SqL.of h4, d4, wl, fun ce kvs H5 nce n5 dd5 s5 => ?_⟩
      obtain ⟨kv1, nd1, dd1⟩ := (R4.grow s5).S.nd
      refine ⟨a.d, ce, kv1, kvs, _, _, rfl, rfl, nd1.r, n5.r, dd1, dd5, fun na nb => ?_⟩
      have ed : dEq (toD s.cl) (toD (cellsOf (chsL rs ks))) = true := (dEq_toD na nb).mpr fun k => by rw [hs.cl]
      rw [ed]
      exact q _ (s04.trans s5)
end

/-! ### a drawn part of the messages -/
section
variable {P : Program} {w : World} {K : PySem.W.Frag} {mg : Str → Option Value} {base : Heap} {C CS : Addr}
theorem DtsAt.erase {H : Hp} : ∀ {vs : List V} {ds : List Dt} (j : Nat), DtsAt K H vs ds → DtsAt K H (vs.eraseIdx j) (ds.eraseIdx j)
  | _, _, _, .nil => .nil
  | _, _, 0, .cons _ t => t
  | _, _, j + 1, .cons h t => .cons h (DtsAt.erase j t)
theorem map_erase {α β : Type} (f : α → β) : ∀ (l : List α) (j : Nat), (l.map f).eraseIdx j = (l.eraseIdx j).map f
  | [], _ => rfl
  | _ :: _, 0 => rfl
  | x :: l, j + 1 => by
    rw [List.map_cons, List.eraseIdx_cons_succ, List.eraseIdx_cons_succ, List.map_cons, map_erase f l j]
theorem erase_perm {α : Type} : ∀ {l : List α} {j : Nat} {x : α}, l[j]? = some x → l.Perm (x :: l.eraseIdx j)
  | [], j, x, h => by simp at h
  | y :: l, 0, x, h => by simp at h; subst h; exact .refl _
  | y :: l, j + 1, x, h => by
    have h : l[j]? = some x := by simpa using h
    rw [List.eraseIdx_cons_succ]
    exact ((erase_perm h).cons y).trans (.swap x y _)
def spSome (P : Program) (w : World) (K : PySem.W.Frag) : Sp := fun vs H Q _ => ∃ (b dg d : Addr) (rs : List MRow), vs = [.ref b, .ref d] ∧ Box K b dg H ∧ MB P w K H d rs ∧ rs.length ≤ 20 ∧ (∀ r ∈ rs, r.2.1 ≠ b) ∧
  ∀ (p : Addr) (ws : List V) (ks : List Nm) (H1 : Hp), H p = none → H1 p = some (.lst ws) → DtsAt K H1 ws (ks.map nmD) → ks.Nodup → (∀ k ∈ ks, k ∈ rs.map (·.1)) → ks.length ≤ 20 → Stp [b] H H1 → Box K b dg H1 → Q (.ref p) H1
theorem cal_law_some (F : Df K mg d_law_some) (B : Blt mg) (C_law_draw : Cal P w K mg base lv_law_draw "_law_draw" ["box", "many"] (spDraw K)) : Cal P w K mg base lv_law_some "_law_some" ["box", "messages"] (spSome P w K) := by
  obtain ⟨f, fd, F, g⟩ := F
  refine ⟨f, fd, F.ok sc_law_some (fun vs H Q E h => ?_) (fun cdv A outer s H vs Q E hr h => ⟨_, PSs.nox
    (pss_cons (ps_setLc (i := 2) (own := [("key", 4)]) (g := gName 4) (by rfl) sc_law_some.nd rfl rfl (sw_true rfl rfl rfl (by decide +kernel)) (pi_list (pe_callB (cr_sortK (P := P) (w := w) (K := K) rfl rfl rfl rfl hr.units) (by rfl) B.sorted (by decide +kernel) (pa_cons (pv 1) pa_nil))) (blkOk_by (N := ["box", "messages", "keys", "found", "key"]) (own := [("key", 4)]) (sc := defScope s_law_some) (by decide +kernel)) (fun _ _ _ _ _ => (pg_name (i := 4) sc_law_some.nd rfl (Or.inl rfl))) (fun _ _ _ _ _ => (pts_one (pt_cmpR op_eq (pc_call C_law_draw (hr.mono (by decide)) (by rfl) (pa_cons (pv 0) (pa_cons pe_int pa_nil))) pe_int (nomark _)))) (fun _ _ _ _ _ => (pv 4)))
    (pss_cons (ps_set (i := 3) sc_law_some.nd rfl (Or.inl rfl) (pe_lst pa_nil))
    (pss_cons (ps_while PassesOwn.never (pt_truth (pv 2) (by intro _; rfl))
      (pss_one (ps_expr (pe_bm PySem.F.plainAttrs_list PySem.F.slot_list_append PySem.F.type_list_append mt_append (pv 3) (pa_cons (pe_bm PySem.F.plainAttrs_list PySem.F.slot_list_pop PySem.F.type_list_pop mt_popAt (pv 2) (pa_cons (pe_op op_mod (pe_callTy call_int1 (by rfl) B.int boot_int (pa_cons (pc_call C_law_draw (hr.mono (by decide)) (by rfl) (pa_cons (pv 0) (pa_cons pe_int pa_nil))) pa_nil)) (pe_callB call_len_seq (by rfl) B.len boot_len (pa_cons (pv 2) pa_nil))) pa_nil)) pa_nil)))))
    (pss_one (ps_ret (pv 3)))))), ?_⟩), g, F.kp, F.bindsN fun _ _ _ _ _ _ us hl => match us, hl with | [_, _], _ => rfl⟩
  · obtain ⟨b, dg, d, rs, rfl, _⟩ := h
    rfl
  · obtain ⟨b, dg, d, rs, rfl, bx, M, lr, rb, q⟩ := h
    repeat walk_at "h"
    obtain ⟨ks, pk, ak, ek⟩ := dt_order nmD (rs.map (·.1))
    refine i_Lc (i_List ?_)
    repeat walk_at "h"
    refine ⟨d, mKvs rs, (rs.map (·.1)).map nmD, rfl, M.nd.r, (by unfold mKvs; rw [List.map_map, List.map_map, List.map_map]; rfl), nms_flat _, Nat.le_trans (nms_depth _) (by decide), nms_alike _, nms_sortable _, fun kl kw nkl dkw => ?_⟩
    rw [ek] at dkw
    have kwl : kw.length = ks.length := by have := dkw.length; rwa [List.length_map] at this
    have ksl : ks.length ≤ 20 := by rw [pk.length_eq, List.length_map]; exact lr
    have ksn : ks.Nodup := pk.nodup_iff.mpr M.names
    have s1 : Stp [] H (upd H kl (.lst kw)) := .new nkl
    have k1 : upd H kl (.lst kw) kl = some (.lst kw) := upd_same
    have dk1 := DtsAt.stp s1 _ _ (nms_flat _) dkw
    have b1 := bx.grow s1
    have klb : kl ∉ [b] := bx.nin nkl
    generalize upd H kl (.lst kw) = H1 at s1 k1 dk1 b1 ⊢
    clear dkw
    refine ⟨kl, rfl, ⟨_, SqL.of k1⟩, fun p np => ?_⟩
    have pH : H p = none := s1.free np (by simp)
    have pkl : kl ≠ p := ne_of_none k1 np
    refine lc_list (xs := kw) (fun i H' => Stp [b] H1 H' ∧ Box K b dg H' ∧ ∃ (acc : List V) (es : List Nm), H' p = some (.lst acc) ∧ DtsAt K H' acc (es.map nmD) ∧ es.Sublist (ks.take i)) ⟨(show Stp [] H1 (upd H1 p (.lst [])) from .new np).mono (by simp), b1.grow (.new np), [], [], upd_same, .nil, by simp⟩ (fun i H' _ h => SqL.of (h.1.keep _ _ k1 klb)) ?_ ?_
    · rintro i v H2 hv ⟨s2, b2, acc, es, h2, d2, sub⟩
      obtain ⟨dd, hdd, dv⟩ := (DtsAt.stp s2 _ _ (nms_flat _) dk1).getV hv
      rw [List.getElem?_map] at hdd
      obtain ⟨k, hk, rfl⟩ := Option.map_eq_some_iff.mp hdd
      have tk : ks.take (i + 1) = ks.take i ++ [k] := by rw [List.take_add_one, hk]; rfl
      have el : es.length ≤ 20 := by
        have := sub.length_le
        rw [List.length_take] at this; omega
      have al : acc.length = es.length := by have := d2.length; rwa [List.length_map] at this
      have pb : p ∉ [b] := bx.nin pH
      repeat walk_at "h"
      refine ⟨rfl, ?_⟩
      repeat walk_at "h"
      refine ⟨b, dg, 2, rfl, by decide, b2, fun x H3 x0 x1 s3 b3 => ?_⟩
      have h3 := s3.keep _ _ h2 pb
      have d3 := DtsAt.stp s3 _ _ (nms_flat _) d2
      have dv3 := DtAt.stp s3 _ _ rfl dv
      repeat walk_at "h"
      refine i_iteD (fun _ => ?_) (fun _ => ?_)
      · repeat walk_at "h"
        have s4 : Stp [p] H3 (upd H3 p (.lst (acc ++ [v]))) := .wr (by simp) h3 fun _ z => nomatch z
        refine ⟨acc, h3, Nat.lt_of_le_of_lt (show acc.length ≤ 100 by omega) (by decide), (s2.trans s3).mut np, bx.off (M := []) b3 pH s4, acc ++ [v], es ++ [k], upd_same, ?_, by rw [tk]; exact sub.append (.refl _)⟩
        rw [List.map_append]
        exact (DtsAt.stp s4 _ _ (nms_flat _) d3).append (.cons (DtAt.stp s4 _ _ rfl dv3) .nil)
      · exact ⟨s2.trans s3, b3, acc, es, h3, d3, by rw [tk]; exact sub.trans (List.sublist_append_left _ _)⟩
    · rintro H2 ⟨s2, b2, acc, es, h2, d2, sub⟩
      rw [kwl, List.take_length] at sub
      have esn : es.Nodup := sub.nodup ksn
      have esi : ∀ k ∈ es, k ∈ rs.map (·.1) := fun k hk => pk.mem_iff.mp (sub.subset hk)
      have esl : es.length ≤ 20 := Nat.le_trans sub.length_le ksl
      have s02 := (s1.mono (M' := [b]) (by simp)).trans s2
      have pb : p ∉ [b] := bx.nin pH
      clear sub s2 b1 k1 dk1 s1 np pkl
      repeat walk_at "h"
      refine ⟨Nat.zero_le _, fun fp nfp => ?_⟩
      have s3 : Stp [] H2 (upd H2 fp (.lst [])) := .new nfp
      have f3 : upd H2 fp (.lst []) fp = some (.lst []) := upd_same
      have h3 := s3.keep _ _ h2 (by simp)
      have d3 := DtsAt.stp s3 _ _ (nms_flat _) d2
      have b3 := b2.grow s3
      have pf : p ≠ fp := ne_of_none h2 nfp
      have fH : H fp = none := by
        cases e : H fp with
        | none => rfl
        | some o =>
          by_cases z : fp = b
          · exact absurd (by simp [z]) (b2.nin nfp)
          · rw [s02.keep _ _ e (by simpa using z)] at nfp; cases nfp
      have fb : fp ∉ [b] := bx.nin fH
      have s03 := s02.trans (s3.mono (M' := [b]) (by simp))
      generalize upd H2 fp (.lst []) = H3 at s3 f3 h3 d3 b3 s03 ⊢
      clear s3 s02 h2 d2 b2 nfp
      repeat walk_at "h"
      refine ⟨fun m σ H' => ∃ (y4 : Option V) (kv fv : List V) (us fs : List Nm), σ = [some (.ref b), some (.ref d), some (.ref p), some (.ref fp), y4] ∧ m = kv.length ∧ Box K b dg H' ∧ H' p = some (.lst kv) ∧ DtsAt K H' kv (us.map nmD) ∧ H' fp = some (.lst fv) ∧ DtsAt K H' fv (fs.map nmD) ∧ es.Perm (us ++ fs) ∧ Stp [b] H H', ⟨_, _, acc, [], es, [], rfl, rfl, b3, h3, d3, f3, .nil, by simp, s03⟩, ?_⟩
      clear b3 h3 d3 f3 s03
      rintro m σ H4 ⟨y4, kv, fv, us, fs, rfl, rfl, b4, h4, d4, f4, g4, pm, s4⟩
      have kvl : kv.length = us.length := by have := d4.length; rwa [List.length_map] at this
      have fvl : fv.length = fs.length := by have := g4.length; rwa [List.length_map] at this
      have pl := pm.length_eq
      rw [List.length_append] at pl
      repeat walk_at "h"
      refine ⟨_, .inl ⟨kv, SqL.of h4, rfl⟩, ?_⟩
      rcases kv with _ | ⟨v0, kv0⟩
      · refine iteF ?_
        repeat walk_at "h"
        have u0 : us = [] := List.length_eq_zero_iff.mp (by rw [← kvl]; rfl)
        rw [u0, List.nil_append] at pm
        exact q fp fv fs H4 fH f4 g4 (pm.nodup_iff.mp esn) (fun k hk => esi k (pm.mem_iff.mpr hk)) (by omega) s4 b4
      · refine iteT ⟨fun σ' H' => ∃ (y4 : Option V) (kv fv : List V) (us fs : List Nm), σ' = [some (.ref b), some (.ref d), some (.ref p), some (.ref fp), y4] ∧ kv.length < (v0 :: kv0).length ∧ Box K b dg H' ∧ H' p = some (.lst kv) ∧ DtsAt K H' kv (us.map nmD) ∧ H' fp = some (.lst fv) ∧ DtsAt K H' fv (fs.map nmD) ∧ es.Perm (us ++ fs) ∧ Stp [b] H H', fun σ' H' h => ?_, ?_⟩
        · obtain ⟨y4, kv, fv, us, fs, e, l, r⟩ := h
          exact ⟨kv.length, l, y4, kv, fv, us, fs, e, rfl, r⟩
        generalize hkv : v0 :: kv0 = kv at *
        have kvp : 0 < kv.length := by rw [← hkv]; simp
        clear hkv
        repeat walk_at "h"
        refine ⟨.inl ⟨rfl, _, SqL.of f4⟩, ?_⟩
        repeat walk_at "h"
        refine ⟨.inl ⟨rfl, _, SqL.of h4⟩, ?_⟩
        repeat walk_at "h"
        refine ⟨b, dg, 900, rfl, by decide, b4, fun x H5 x0 x1 s5 b5 => ?_⟩
        have pb : p ∉ [b] := bx.nin pH
        have h5 := s5.keep _ _ h4 pb
        have f5 := s5.keep _ _ f4 fb
        have d5 := DtsAt.stp s5 _ _ (nms_flat _) d4
        have g5 := DtsAt.stp s5 _ _ (nms_flat _) g4
        have s05 := s4.trans s5
        clear s5 b4 h4 d4 f4 g4 s4
        repeat walk_at "h"
        refine .inl ⟨x, rfl, ?_⟩
        repeat walk_at "h"
        refine ⟨p, _, rfl, .inl (SqL.of h5), ?_⟩
        have n0 : (0 : Int) < (kv.length : Int) := by omega
        refine i_I n0 ?_
        have m0 := Int.emod_nonneg x (b := (kv.length : Int)) (by omega)
        have m1 := Int.emod_lt_of_pos x n0
        obtain ⟨k, hk⟩ : ∃ k : Nat, x % (kv.length : Int) = (k : Int) := ⟨(x % (kv.length : Int)).toNat, by omega⟩
        rw [hk] at m1 ⊢
        have lk : k < kv.length := by omega
        obtain ⟨v, hv⟩ : ∃ v, kv[k]? = some v := ⟨_, List.getElem?_eq_getElem lk⟩
        obtain ⟨dd, hdd, dv⟩ := d5.getV hv
        rw [List.getElem?_map] at hdd
        obtain ⟨n, hn, rfl⟩ := Option.map_eq_some_iff.mp hdd
        refine i_Nil ⟨p, kv, (k : Int), k, v, rfl, rfl, h5, by omega, by omega, ?_, hv, ?_⟩
        · unfold seqIndex?
          simp only []
          split <;> first | omega | simp_all
        have s6 : Stp [p] H5 (upd H5 p (.lst (kv.eraseIdx k))) := .wr (by simp) h5 fun _ z => nomatch z
        have h6 : upd H5 p (.lst (kv.eraseIdx k)) p = some (.lst (kv.eraseIdx k)) := upd_same
        have d6 : DtsAt K (upd H5 p (.lst (kv.eraseIdx k))) (kv.eraseIdx k) ((us.eraseIdx k).map nmD) := by
          rw [← map_erase]
          exact (DtsAt.stp s6 _ _ (nms_flat _) d5).erase k
        have f6 := s6.keep _ _ f5 (by simpa using pf.symm)
        have g6 := DtsAt.stp s6 _ _ (nms_flat _) g5
        have dv6 := DtAt.stp s6 _ _ rfl dv
        have b6 := bx.off (M := []) b5 pH s6
        have s06 := s05.into pH (s6.mono (by simp))
        generalize upd H5 p (.lst (kv.eraseIdx k)) = H6 at s6 h6 d6 f6 g6 dv6 b6 s06 ⊢
        refine i_Nil ⟨fp, fv, v, rfl, rfl, f6, Nat.lt_of_le_of_lt (show fv.length ≤ 100 by omega) (by decide), ?_⟩
        have s7 : Stp [fp] H6 (upd H6 fp (.lst (fv ++ [v]))) := .wr (by simp) f6 fun _ z => nomatch z
        refine ⟨y4, kv.eraseIdx k, fv ++ [v], us.eraseIdx k, fs ++ [n], rfl, ?_, bx.off (M := []) b6 fH s7, s7.keep _ _ h6 (by simpa using pf), DtsAt.stp s7 _ _ (nms_flat _) d6, upd_same, ?_, ?_, s06.into fH (s7.mono (by simp))⟩
        · rw [List.length_eraseIdx]; split <;> omega
        · rw [List.map_append]
          exact (DtsAt.stp s7 _ _ (nms_flat _) g6).append (.cons (DtAt.stp s7 _ _ rfl dv6) .nil)
        · refine pm.trans ?_
          rw [← List.append_assoc]
          refine ((erase_perm hn).append_right fs).trans ?_
          rw [List.cons_append]
          exact (List.perm_append_singleton n _).symm
end

/-! ### the law -/
section
variable {P : Program} {w : World} {K : PySem.W.Frag} {mg : Str → Option Value} {base : Heap} {C CS CE : Addr}
def spLaw (K : PySem.W.Frag) : Sp := fun vs H Q _ => ∃ (a : Addr) (ns : List Int), vs = [.ref a] ∧ SqL K H a (ns.map V.int) ∧ ∀ H', Q (.bl true) H'
theorem bl_shows (b : Bool) : (Dt.bl b).Shows := Dt.shows_of rfl (by simp [Dt.mass]) (by simp [Dt.depth])
theorem nms_shows {l : List Nm} (h : ∀ n ∈ l, n.1.natAbs < 10 ^ 12 ∧ n.2.natAbs < 10 ^ 12) (ll : l.length ≤ 100) : (Dt.lst (l.map nmD)).Shows := by
  refine Dt.shows_of ?_ ?_ ?_
  · rw [Dt.brief]
    exact briefAll_map nmD _ fun r hr => nm_brief6 (h r hr)
  · rw [Dt.mass]
    have := massAll_map nmD 2 l fun r _ => by simp [nmD, Dt.mass, Dt.massAll]
    have e : (2 : Nat) ^ 20 = 1048576 := by decide
    omega
  · rw [Dt.depth]
    have := depthAll_map nmD 1 l fun r _ => by simp [nmD, Dt.depth, Dt.depthAll]
    omega
/-- a message as a tuple -/
def mgD (m : Nm × List Ch) : Dt := .tup [.num m.1.1, .num m.1.2, .lst (m.2.map chD)]
def MgAt (K : PySem.W.Frag) (p : Addr) (H : Hp) (v : V) (m : Nm × List Ch) : Prop := ∃ (t a : Addr) (ws : List V), v = .ref t ∧ H t = some (.tup [.int m.1.1, .int m.1.2, .ref a]) ∧ a ≠ p ∧ H a = some (.lst ws) ∧ DtsAt K H ws (m.2.map chD)
theorem mg_stp {p : Addr} {H H1 : Hp} {M : List Addr} {vs : List V} {ms : List (Nm × List Ch)} (h : Paired (MgAt K p H) vs ms) (s : Stp M H H1) (n : ∀ a, a ≠ p → a ∉ M) : Paired (MgAt K p H1) vs ms := by
  induction h with
  | nil => exact .nil
  | cons x _ ih =>
    obtain ⟨t, a, ws, e, ht, ne, h1, h2⟩ := x
    exact .cons ⟨t, a, ws, e, s.tups _ _ ht, ne, s.keep _ _ h1 (n a ne), chs_stp h2 s⟩ ih
theorem mg_dts {p : Addr} {H : Hp} {vs : List V} {ms : List (Nm × List Ch)} (h : Paired (MgAt K p H) vs ms) : DtsAt K H vs (ms.map mgD) := by
  induction h with
  | nil => exact .nil
  | cons x _ ih =>
    obtain ⟨t, a, ws, e, ht, ne, h1, h2⟩ := x
    rw [e]
    exact .cons (.tup (.inl ht) (.cons (.num _) (.cons (.num _) (.cons (.lst (SqL.of h1) h2) .nil)))) ih
theorem chs_dep5 (cs : List Ch) : Dt.depthAll (cs.map chD) ≤ 3 := depthAll_map chD 3 cs fun c _ => chD_depth c
theorem mgs_deep (ms : List (Nm × List Ch)) : (Dt.lst (ms.map mgD)).depth ≤ 60 := by
  rw [Dt.depth]
  have := depthAll_map mgD 10 ms fun m _ => by
    have := chs_dep5 m.2
    simp [mgD, Dt.depth, Dt.depthAll]; omega
  omega
/-- the octets of the message k -/
def ocK (rs : List MRow) (k : Nm) : List Int := msgO k.1 k.2 (chsK rs k)
def ocD (rs : List MRow) (k : Nm) : Dt := .lst ((ocK rs k).map Dt.num)
theorem oc_shows {rs : List MRow} {l : List Nm} (h : ∀ k ∈ l, (ocK rs k).length ≤ 200 ∧ inO (ocK rs k)) (ll : l.length ≤ 20) : (Dt.lst (l.map (ocD rs))).Shows := by
  refine Dt.shows_of ?_ ?_ ?_
  · rw [Dt.brief]
    refine briefAll_map (ocD rs) _ fun k hk => ?_
    unfold ocD
    rw [Dt.brief]
    refine briefAll_map Dt.num _ fun x hx => ?_
    have := (h k hk).2 x hx
    simp only [Dt.brief, decide_eq_true_eq]; omega
  · rw [Dt.mass]
    have := massAll_map (ocD rs) 300 l fun k hk => by
      unfold ocD
      rw [Dt.mass]
      have := massAll_map Dt.num 0 (ocK rs k) fun r _ => by simp [Dt.mass]
      have := (h k hk).1
      omega
    have e : (2 : Nat) ^ 20 = 1048576 := by decide
    omega
  · rw [Dt.depth]
    have := depthAll_map (ocD rs) 5 l fun k hk => by
      unfold ocD
      rw [Dt.depth]
      have := depthAll_map Dt.num 0 (ocK rs k) fun r _ => by simp [Dt.depth]
      omega
    omega
/-- octets of messages of rs, told by their names -/
def OcAt2 (rs : List MRow) (p : Addr) (H : Hp) (v : V) (k : Nm) : Prop := ∃ b : Addr, v = .ref b ∧ b ≠ p ∧ H b = some (.lst ((ocK rs k).map V.int))
theorem oc_stp {rs : List MRow} {p : Addr} {H H1 : Hp} {M : List Addr} {vs : List V} {ks : List Nm} (h : Paired (OcAt2 rs p H) vs ks) (s : Stp M H H1) (n : ∀ a, a ≠ p → a ∉ M) : Paired (OcAt2 rs p H1) vs ks := by
  induction h with
  | nil => exact .nil
  | cons x _ ih =>
    obtain ⟨b, e, ne, h1⟩ := x
    exact .cons ⟨b, e, ne, s.keep _ _ h1 (n b ne)⟩ ih
theorem oc_dts {rs : List MRow} {p : Addr} {H : Hp} {vs : List V} {ks : List Nm} (h : Paired (OcAt2 rs p H) vs ks) : DtsAt K H vs (ks.map (ocD rs)) := by
  induction h with
  | nil => exact .nil
  | cons x _ ih =>
    obtain ⟨b, e, ne, h1⟩ := x
    rw [e]
    exact .cons (.lst (SqL.of h1) (ints_dts _ _)) ih
theorem ans_oc {rs : List MRow} {l : List Nm} {t : RS} {p : Addr} {H : Hp} {vs : List V} {ks : List Nm} (hB : HasK rs l t) (h : Paired (AnsAt t.ms p H) vs ks) : Paired (OcAt2 rs p H) vs ks := by
  induction h with
  | nil => exact .nil
  | cons x _ ih =>
    obtain ⟨b, m, e, ne, hm, ek, h1⟩ := x
    refine .cons ⟨b, e, ne, ?_⟩ ih
    unfold ocK
    rw [h1, ← ek, (hB.row hm).2]
theorem pd_get {α β : Type} {F : α → β → Prop} : ∀ {l : List α} {m : List β} {i : Nat} {a : α}, Paired F l m → l[i]? = some a → ∃ b, m[i]? = some b ∧ F a b
  | _, _, i, _, .nil, e => by simp at e
  | _, _, 0, _, .cons h _, e => by simp at e; subst e; exact ⟨_, rfl, h⟩
  | _, _, i + 1, _, .cons _ t, e => by
    obtain ⟨b, h1, h2⟩ := pd_get (i := i) t (by simpa using e)
    exact ⟨b, by simpa using h1, h2⟩
theorem kcs_snoc (rs : List MRow) (l : List Nm) (k : Nm) : kcs rs (l ++ [k]) = kcs rs l ++ [(k, chsK rs k)] := by simp [kcs]
theorem ok_law {f : Addr} {fd : FuncData} (F : FunD K d_law.name d_law.qual d_law.params d_law.body d_law.scope [] [] f fd) (B : Blt mg) (S : RpC K C) (CL_State : Cls K CS) (NA : NoAttr K CS "cells") (C_law_box : Cal P w K mg base lv_law_box "_law_box" ["script", "first", "last"] (spBox K)) (C_law_draw : Cal P w K mg base lv_law_draw "_law_draw" ["box", "many"] (spDraw K)) (C_law_row_of : CalG P w K mg base lv_law_row_of "_law_row_of" ["box"] (spRowOf K)) (C_law_messages : Cal P w K mg base lv_law_messages "_law_messages" ["box"] (spMessages P w K))
    (I_Replica : Mki P w K mg base lv_Replica_init C "Replica" ["self", "peer"] (spRpInit P w K C CS)) (C_law_some : Cal P w K mg base lv_law_some "_law_some" ["box", "messages"] (spSome P w K)) (M_Replica_accept : Mth P w K mg base lv_Replica_accept C "accept" ["self", "sender", "number", "changes"] (spAccept P w K C CS)) (C_law_has : CalG P w K mg base lv_law_has "_law_has" ["replica", "messages", "keys"] (spHas P w K C CS)) (C_told : Cal P w K mg base lv_told "told" ["replica"] (spTold P w K C CS)) (C_lacking : Cal P w K mg base lv_lacking "lacking" ["mine", "theirs"] (spLacking K)) (C_answer : Cal P w K mg base lv_answer "answer" ["replica", "theirs"] (spAnswer P w K C CS))
    (C_law_same : CalG P w K mg base lv_law_same "_law_same" ["one", "other"] (spSame K)) (C_read_message : Cal P w K mg base lv_read_message "read_message" ["octets"] (calm (spRMsgX K CE))) (M_Replica_copy_of : Mth P w K mg base lv_Replica_copy_of C "copy_of" ["self", "sender", "number"] (spCopyOf P w K C CS)) (C_bring : Cal P w K mg base lv_bring "bring" ["replica", "other"] (spBring P w K C CS)) :
    GT.FnG P w K mg base CX0 lv_law f fd ["script"] (spLaw K) := by
  have CL_Replica := S.cls
  refine GT.FunD.okG F sc_law (fun vs H Q E h => ?_) (fun cdv A outer s H vs Q E hr hG h => ⟨_, PSs.nox
    (pss_cons (ps_set (i := 1) sc_law.nd rfl (Or.inl rfl) (pc_call C_law_box (hr.mono (by decide)) (by rfl) (pa_cons (pv 0) (pa_cons pe_int (pa_cons pe_int pa_nil)))))
    (pss_cons (ps_for PassesOwn.never rfl (pi_range1 rfl B.range (pa_cons pe_int pa_nil)) (pg_name (i := 2) sc_law.nd rfl (Or.inl rfl))
      (pss_one (ps_if (pt_not (pt_val (pc_callG C_law_row_of hG (hr.mono (by decide)) (by rfl) (pa_cons (pv 1) pa_nil))))
          (pss_one (ps_ret pe_bl))
          pss_nil)))
    (pss_cons (ps_set (i := 3) sc_law.nd rfl (Or.inr rfl) (pc_call C_law_messages (hr.mono (by decide)) (by rfl) (pa_cons (pv 1) pa_nil)))
    (pss_cons (ps_set (i := 4) sc_law.nd rfl (Or.inr rfl) (pe_lst (pa_cons (pc_make I_Replica (hr.mono (by decide)) (by rfl) (pa_cons (pc_call C_law_draw (hr.mono (by decide)) (by rfl) (pa_cons (pv 1) (pa_cons pe_int pa_nil))) pa_nil)) (pa_cons (pc_make I_Replica (hr.mono (by decide)) (by rfl) (pa_cons (pe_op op_add pe_int (pc_call C_law_draw (hr.mono (by decide)) (by rfl) (pa_cons (pv 1) (pa_cons pe_int pa_nil)))) pa_nil)) pa_nil))))
    (pss_cons (ps_set (i := 5) sc_law.nd rfl (Or.inr rfl) (pe_lst (pa_cons (pc_call C_law_some (hr.mono (by decide)) (by rfl) (pa_cons (pv 1) (pa_cons (pv 3) pa_nil))) (pa_cons (pc_call C_law_some (hr.mono (by decide)) (by rfl) (pa_cons (pv 1) (pa_cons (pv 3) pa_nil))) pa_nil))))
    (pss_cons (ps_for PassesOwn.never rfl (pi_range1 rfl B.range (pa_cons pe_int pa_nil)) (pg_name (i := 6) sc_law.nd rfl (Or.inl rfl))
      (pss_cons (ps_for PassesOwn.never rfl (pi_list (pe_ix (ix_listK (K := K) rfl) (pv 5) (pv 6) (fun _ _ => rfl))) (pg_name (i := 7) sc_law.nd rfl (Or.inl rfl))
          (pss_one (ps_if (pt_cmpR op_notBl (pc_meth (pe_ix (ix_listK (K := K) rfl) (pv 4) (pv 6) (fun _ _ => rfl)) CL_Replica M_Replica_accept (hr.mono (by decide)) (pa_cons (pe_ix (ix_tupK (K := K) rfl) (pv 7) pe_int (fun _ _ => rfl)) (pa_cons (pe_ix (ix_tupK (K := K) rfl) (pv 7) pe_int (fun _ _ => rfl)) (pa_cons (pe_callTy call_list_of (by rfl) B.list (by decide +kernel) (pa_cons (pe_ngetK (P := P) (w := w) (K := K) rfl rfl rfl hr (pv 3) (pv 7) (fun _ _ => rfl)) pa_nil)) pa_nil)))) pe_bl (nomark _))
              (pss_one (ps_ret pe_bl))
              pss_nil)))
        (pss_one (ps_if (pt_not (pt_val (pc_callG C_law_has hG (hr.mono (by decide)) (by rfl) (pa_cons (pe_ix (ix_listK (K := K) rfl) (pv 4) (pv 6) (fun _ _ => rfl)) (pa_cons (pv 3) (pa_cons (pe_ix (ix_listK (K := K) rfl) (pv 5) (pv 6) (fun _ _ => rfl)) pa_nil))))))
          (pss_one (ps_ret pe_bl))
          pss_nil))))
    (pss_cons (ps_setLc (i := 8) (own := [("key", 7)]) (g := gName 7) (by rfl) sc_law.nd rfl rfl (sw_true rfl rfl rfl (by decide +kernel)) (pi_list (pe_callB (cr_sortK (P := P) (w := w) (K := K) rfl rfl rfl rfl hr.units) (by rfl) B.sorted (by decide +kernel) (pa_cons (pv 3) pa_nil))) (blkOk_by (N := ["script", "box", "turn", "messages", "replicas", "keys", "k", "key", "due", "mine", "octets", "row"]) (own := [("key", 7)]) (sc := defScope s_law) (by decide +kernel)) (fun _ _ _ _ _ => (pg_name (i := 7) sc_law.nd rfl (Or.inl rfl))) (fun _ _ _ _ _ => (pts_one (PW.pt (pw_and (pt_cmpR (op_inTK (K := K) rfl hr.units) (pv 7) (pe_ix (ix_listK (K := K) rfl) (pv 5) pe_int (fun _ _ => rfl)) (by rfl)) (pw_and1 (pt_cmpR (op_notInTK (K := K) rfl hr.units) (pv 7) (pe_ix (ix_listK (K := K) rfl) (pv 5) pe_int (fun _ _ => rfl)) (by rfl))))))) (fun _ _ _ _ _ => (pv 7)))
    (pss_cons (ps_set (i := 9) sc_law.nd rfl (Or.inl rfl) (pc_call C_told (hr.mono (by decide)) (by rfl) (pa_cons (pe_ix (ix_listK (K := K) rfl) (pv 4) pe_int (fun _ _ => rfl)) pa_nil)))
    (pss_cons (ps_if (PW.pt (pw_or (pt_not (pt_val (pc_callG C_law_same hG (hr.mono (by decide)) (by rfl) (pa_cons (pc_call C_lacking (hr.mono (by decide)) (by rfl) (pa_cons (pv 9) (pa_cons (pc_call C_told (hr.mono (by decide)) (by rfl) (pa_cons (pe_ix (ix_listK (K := K) rfl) (pv 4) pe_int (fun _ _ => rfl)) pa_nil)) pa_nil))) (pa_cons (pv 8) pa_nil))))) (pw_or1 (pt_cmpR (op_neTK (K := K) rfl hr.units) (pc_call C_lacking (hr.mono (by decide)) (by rfl) (pa_cons (pv 9) (pa_cons (pv 9) pa_nil))) (pe_lst pa_nil) (nomark _)))))
      (pss_one (ps_ret pe_bl))
      pss_nil)
    (pss_cons (ps_set (i := 10) sc_law.nd rfl (Or.inl rfl) (pc_call C_answer (hr.mono (by decide)) (by rfl) (pa_cons (pe_ix (ix_listK (K := K) rfl) (pv 4) pe_int (fun _ _ => rfl)) (pa_cons (pv 9) pa_nil))))
    (pss_cons (ps_if (pt_cmpR (op_neTK (K := K) rfl hr.units) (pe_lc (own := [("row", 11)]) (g := gName 11) (by rfl) sc_law.nd (pi_list (pv 10)) (blkOk_by (N := ["script", "box", "turn", "messages", "replicas", "keys", "k", "key", "due", "mine", "octets", "row"]) (own := [("row", 11)]) (sc := defScope s_law) (by decide +kernel)) (fun _ _ _ _ _ => (pg_name (i := 11) sc_law.nd rfl (Or.inl rfl))) (fun _ _ _ _ _ => pts_nil) (fun _ _ _ _ _ => (pc_call C_read_message (hr.mono (by decide)) (by rfl) (pa_cons (pv 11) pa_nil)))) (pe_lc (own := [("key", 7)]) (g := gName 7) (by rfl) sc_law.nd (pi_list (pv 8)) (blkOk_by (N := ["script", "box", "turn", "messages", "replicas", "keys", "k", "key", "due", "mine", "octets", "row"]) (own := [("key", 7)]) (sc := defScope s_law) (by decide +kernel)) (fun _ _ _ _ _ => (pg_name (i := 7) sc_law.nd rfl (Or.inl rfl))) (fun _ _ _ _ _ => pts_nil) (fun _ _ _ _ _ => (pe_tup (pa_cons (pe_ix (ix_tupK (K := K) rfl) (pv 7) pe_int (fun _ _ => rfl)) (pa_cons (pe_ix (ix_tupK (K := K) rfl) (pv 7) pe_int (fun _ _ => rfl)) (pa_cons (pe_ngetK (P := P) (w := w) (K := K) rfl rfl rfl hr (pv 3) (pv 7) (fun _ _ => rfl)) pa_nil)))))) (nomark _))
      (pss_one (ps_ret pe_bl))
      pss_nil)
    (pss_cons (ps_if (pt_not (pt_val (pc_callG C_law_same hG (hr.mono (by decide)) (by rfl) (pa_cons (pv 10) (pa_cons (pe_lc (own := [("key", 7)]) (g := gName 7) (by rfl) sc_law.nd (pi_list (pv 8)) (blkOk_by (N := ["script", "box", "turn", "messages", "replicas", "keys", "k", "key", "due", "mine", "octets", "row"]) (own := [("key", 7)]) (sc := defScope s_law) (by decide +kernel)) (fun _ _ _ _ _ => (pg_name (i := 7) sc_law.nd rfl (Or.inl rfl))) (fun _ _ _ _ _ => pts_nil) (fun _ _ _ _ _ => (pc_meth (pe_ix (ix_listK (K := K) rfl) (pv 4) pe_int (fun _ _ => rfl)) CL_Replica M_Replica_copy_of (hr.mono (by decide)) (pa_cons (pe_ix (ix_tupK (K := K) rfl) (pv 7) pe_int (fun _ _ => rfl)) (pa_cons (pe_ix (ix_tupK (K := K) rfl) (pv 7) pe_int (fun _ _ => rfl)) pa_nil))))) pa_nil)))))
      (pss_one (ps_ret pe_bl))
      pss_nil)
    (pss_cons (ps_if (PW.pt (pw_or (pt_not (pt_val (pc_callG C_law_same hG (hr.mono (by decide)) (by rfl) (pa_cons (pc_call C_bring (hr.mono (by decide)) (by rfl) (pa_cons (pe_ix (ix_listK (K := K) rfl) (pv 4) pe_int (fun _ _ => rfl)) (pa_cons (pe_ix (ix_listK (K := K) rfl) (pv 4) pe_int (fun _ _ => rfl)) pa_nil))) (pa_cons (pe_callB call_len_seq (by rfl) B.len boot_len (pa_cons (pv 8) pa_nil)) pa_nil))))) (pw_or1 (pt_not (pt_val (pc_callG C_law_same hG (hr.mono (by decide)) (by rfl) (pa_cons (pc_call C_bring (hr.mono (by decide)) (by rfl) (pa_cons (pe_ix (ix_listK (K := K) rfl) (pv 4) pe_int (fun _ _ => rfl)) (pa_cons (pe_ix (ix_listK (K := K) rfl) (pv 4) pe_int (fun _ _ => rfl)) pa_nil))) (pa_cons pe_int pa_nil))))))))
      (pss_one (ps_ret pe_bl))
      pss_nil)
    (pss_one (ps_ret (pe_and (pc_callG C_law_has hG (hr.mono (by decide)) (by rfl) (pa_cons (pe_ix (ix_listK (K := K) rfl) (pv 4) pe_int (fun _ _ => rfl)) (pa_cons (pv 3) (pa_cons (pe_op op_cat (pe_ix (ix_listK (K := K) rfl) (pv 5) pe_int (fun _ _ => rfl)) (pv 8)) pa_nil)))) (pe_one (pc_callG C_law_has hG (hr.mono (by decide)) (by rfl) (pa_cons (pe_ix (ix_listK (K := K) rfl) (pv 4) pe_int (fun _ _ => rfl)) (pa_cons (pv 3) (pa_cons (pe_ix (ix_listK (K := K) rfl) (pv 5) pe_int (fun _ _ => rfl)) pa_nil))))))))))))))))))))), ?_⟩)
  · obtain ⟨a, ns, rfl, _⟩ := h
    rfl
  · obtain ⟨a0, ns, rfl, hs, q⟩ := h
    repeat walk_at "h"
    refine ⟨a0, ns, 0, 40, rfl, by decide, by decide, by decide, hs, fun b dg H1 nb ndg b1 s1 => ?_⟩
    clear s1 hs nb ndg
    repeat walk_at "h"
    refine ⟨3, rfl, by decide, by decide, ?_⟩
    refine for_range (lo := 0) (n := 3) (fun i σ H' => ∃ (y2 : Option V), σ = [some (.ref a0), some (.ref b), y2, none, none, none, none, none, none, none, none, none] ∧ Box K b dg H')
      ⟨none, rfl, b1⟩ ?_ ?_
    · rintro i σ H2 hi ⟨y2, rfl, b2⟩
      repeat walk_at "h"
      refine ⟨b, dg, rfl, b2, fun H3 s3 b3 => ?_⟩
      repeat walk_at "h"
      refine iteF ?_
      repeat walk_at "h"
      exact ⟨_, rfl, b3⟩
    · rintro σ H2 ⟨y2, rfl, b2⟩
      repeat walk_at "h"
      refine ⟨b, dg, rfl, b2, fun d rs H3 nd rn M3 lr mok s3 b3 => ?_⟩
      have rnb : ∀ r ∈ rs, r.2.1 ≠ b := fun r hr z => b2.nin (rn r hr).1 (by simp [z])
      have db : d ≠ b := fun z => b2.nin nd (by simp [z])
      clear s3 b1 b2 rn nd
      repeat walk_at "h"
      refine ⟨b, dg, 4, rfl, by decide, b3, fun p0 H4 p00 p04 s4 b4 => ?_⟩
      have M4 := M3.stp s4 (by simpa using db) (fun r hr => by simpa using rnb r hr)
      clear s4 b3 M3
      repeat walk_at "h"
      refine fun x dx nx ndx ne => ⟨x, dx, p0, rfl, p00, by omega, upd_same, fun ra H5 ex R5 s5 ft => ⟨rfl, ?_⟩⟩
      have sm : Stp [] H4 (upd (upd H4 dx (.own x)) x (.ins C dx [])) := (Stp.new ndx).add (by rw [upd_ne (Ne.symm ne)]; exact nx)
      have s45 : Stp [] H4 H5 := sm.into nx s5
      have fA : ∀ y ∈ foot ra [], H4 y = none := fun y hy => by
        rcases ft y hy with e | e
        · rw [e]; exact nx
        · exact sm.free e (by simp)
      have b5 := b4.grow s45
      have M5 := M4.stp s45 (by simp) (by simp)
      have fAb : ∀ y ∈ foot ra [], y ∉ [b] := fun y hy => b4.nin (fA y hy)
      have dA : d ∉ [ra.r, ra.d, ra.ml] := fun z => by
        obtain ⟨o, e, _⟩ := M4.nd
        have : d ∈ foot ra [] := by
          simp only [List.mem_cons, List.not_mem_nil, or_false] at z
          rcases z with h | h | h <;> rw [h] <;> simp [foot]
        rw [fA d this] at e; cases e
      clear sm s5 ft ne ndx nx b4 M4 s45 fA
      repeat walk_at "h"
      refine ⟨b, dg, 4, rfl, by decide, b5, fun p1 H6 p10 p14 s6 b6 => ?_⟩
      have M6 := M5.stp s6 (by simpa using db) (fun r hr => by simpa using rnb r hr)
      have R6 := R5.stp s6 fAb
      clear s6 b5 M5 R5
      repeat walk_at "h"
      refine fun x2 dx2 nx2 ndx2 ne2 => ⟨x2, dx2, 4 + p1, rfl, by omega, by omega, upd_same, fun rb H7 ex2 R7 s7 ft2 => ⟨rfl, ?_⟩⟩
      have sm2 : Stp [] H6 (upd (upd H6 dx2 (.own x2)) x2 (.ins C dx2 [])) := (Stp.new ndx2).add (by rw [upd_ne (Ne.symm ne2)]; exact nx2)
      have s67 : Stp [] H6 H7 := sm2.into nx2 s7
      have fB : ∀ y ∈ foot rb [], H6 y = none := fun y hy => by
        rcases ft2 y hy with e | e
        · rw [e]; exact nx2
        · exact sm2.free e (by simp)
      have b7 := b6.grow s67
      have M7 := M6.stp s67 (by simp) (by simp)
      have RA7 := R6.grow s67
      have fBb : ∀ y ∈ foot rb [], y ∉ [b] := fun y hy => b6.nin (fB y hy)
      have f3 : ∀ y ∈ foot ra [], y ∉ foot rb [] := fun y hy z => R6.there hy (fB y z)
      have dB : d ∉ [rb.r, rb.d, rb.ml] := fun z => by
        obtain ⟨o, e, _⟩ := M6.nd
        have : d ∈ foot rb [] := by
          simp only [List.mem_cons, List.not_mem_nil, or_false] at z
          rcases z with h | h | h <;> rw [h] <;> simp [foot]
        rw [fB d this] at e; cases e
      clear sm2 s7 ft2 ne2 ndx2 nx2 b6 M6 s67 fB R6
      repeat walk_at "h"
      refine ⟨(by decide : 2 ≤ sizeLine), fun rp nrp => ?_⟩
      have s8 : Stp [] H7 (upd H7 rp (.lst [.ref x, .ref x2])) := .new nrp
      have e8 : upd H7 rp (.lst [.ref x, .ref x2]) rp = some (.lst [.ref x, .ref x2]) := upd_same
      have b8 := b7.grow s8
      have M8 := M7.stp s8 (by simp) (by simp)
      have RA8 := RA7.grow s8
      have RB8 := R7.grow s8
      have rpb : rp ∉ [b] := b7.nin nrp
      generalize upd H7 rp (.lst [.ref x, .ref x2]) = H8 at s8 e8 b8 M8 RA8 RB8 ⊢
      clear s8 nrp b7 M7 RA7 R7
      repeat walk_at "h"
      refine ⟨b, dg, d, rs, rfl, b8, M8, lr, rnb, fun k0 kw0 ks0 H9 nk0 hk0 dk0 nd0 sub0 ll0 s9 b9 => ?_⟩
      have k0b : k0 ∉ [b] := b8.nin nk0
      have e9 := s9.keep _ _ e8 rpb
      have M9 := M8.stp s9 (by simpa using db) (fun r hr => by simpa using rnb r hr)
      have RA9 := RA8.stp s9 fAb
      have RB9 := RB8.stp s9 fBb
      clear s9 b8 M8 RA8 RB8 e8 nk0
      repeat walk_at "h"
      refine ⟨b, dg, d, rs, rfl, b9, M9, lr, rnb, fun k1 kw1 ks1 H10 nk1 hk1 dk1 nd1 sub1 ll1 s10 b10 => ?_⟩
      have e10 := s10.keep _ _ e9 rpb
      have hk0' := s10.keep _ _ hk0 k0b
      have dk0' := DtsAt.stp s10 _ _ (nms_flat _) dk0
      have M10 := M9.stp s10 (by simpa using db) (fun r hr => by simpa using rnb r hr)
      have RA10 := RA9.stp s10 fAb
      have RB10 := RB9.stp s10 fBb
      clear s10 b9 M9 RA9 RB9 e9 nk1 hk0 dk0
      repeat walk_at "h"
      refine ⟨(by decide : 2 ≤ sizeLine), fun kp nkp => ?_⟩
      have s11 : Stp [] H10 (upd H10 kp (.lst [.ref k0, .ref k1])) := .new nkp
      have e11 : upd H10 kp (.lst [.ref k0, .ref k1]) kp = some (.lst [.ref k0, .ref k1]) := upd_same
      have L11 : LW P w K C CS (upd H10 kp (.lst [.ref k0, .ref k1])) d rs rp kp [.ref x, .ref x2] [.ref k0, .ref k1] k0 k1 ks0 ks1 ra _ rb _ :=
        ⟨M10.stp s11 (by simp) (by simp), s11.keep _ _ e10 (by simp), e11, ⟨kw0, s11.keep _ _ hk0' (by simp), DtsAt.stp s11 _ _ (nms_flat _) dk0'⟩, ⟨kw1, s11.keep _ _ hk1 (by simp), DtsAt.stp s11 _ _ (nms_flat _) dk1⟩, RA10.grow s11, RB10.grow s11, dA, dB, f3⟩
      generalize upd H10 kp (.lst [.ref k0, .ref k1]) = H11 at L11 ⊢
      have names := L11.M.names
      clear s11 e11 b10 M10 RA10 RB10 e10 hk0' dk0' hk1 dk1 nkp f3 dA dB fAb fBb k0b rpb db rnb
      repeat walk_at "h"
      refine ⟨2, rfl, by decide, by decide, ?_⟩
      refine for_range (lo := 0) (n := 2) (fun i σ H' => ∃ (s t : RS) (y6 y7 : Option V), σ = [some (.ref a0), some (.ref b), y2, some (.ref d), some (.ref rp), some (.ref kp), y6, y7, none, none, none, none] ∧ LW P w K C CS H' d rs rp kp [.ref x, .ref x2] [.ref k0, .ref k1] k0 k1 ks0 ks1 ra s rb t ∧ HasK rs (if i = 0 then [] else ks0) s ∧ HasK rs (if i ≤ 1 then [] else ks1) t)
        ⟨_, _, none, none, rfl, L11, HasK.start .., HasK.start ..⟩ ?_ ?_
      · clear L11
        rintro i σ H12 hi ⟨s, t, y6, y7, rfl, L, hA, hB⟩
        obtain ⟨X, Y, sx, ty, ol, ol', os, os', LX, HX, ix, ik, ndo, subo, llo, back⟩ : ∃ (X Y : RA) (sx ty : RS) (ol ol' : Addr) (os os' : List Nm), LW P w K C CS H12 d rs rp kp [.ref x, .ref x2] [.ref k0, .ref k1] ol ol' os os' X sx Y ty ∧ HasK rs [] sx ∧ atI [V.ref x, .ref x2] (0 + (i : Int)) = some (.ref X.r) ∧ atI [V.ref k0, .ref k1] (0 + (i : Int)) = some (.ref ol) ∧ os.Nodup ∧ (∀ k ∈ os, k ∈ rs.map (·.1)) ∧ os.length ≤ 20 ∧
            (∀ (H' : Hp) (sx' : RS), LW P w K C CS H' d rs rp kp [.ref x, .ref x2] [.ref k0, .ref k1] ol ol' os os' X sx' Y ty → HasK rs os sx' → ∃ s t, LW P w K C CS H' d rs rp kp [.ref x, .ref x2] [.ref k0, .ref k1] k0 k1 ks0 ks1 ra s rb t ∧ HasK rs (if i + 1 = 0 then [] else ks0) s ∧ HasK rs (if i + 1 ≤ 1 then [] else ks1) t) := by
          have hi2 : i = 0 ∨ i = 1 := by omega
          rcases hi2 with rfl | rfl
          · exact ⟨ra, rb, s, t, k0, k1, ks0, ks1, L, hA, by rw [ex]; rfl, rfl, nd0, sub0, ll0, fun H' sx' L' h' => ⟨sx', t, L', h', hB⟩⟩
          · exact ⟨rb, ra, t, s, k1, k0, ks1, ks0, L.swap, hB, by rw [ex2]; rfl, rfl, nd1, sub1, ll1, fun H' sx' L' h' => ⟨s, sx', L'.swap, hA, h'⟩⟩
        clear L hA hB
        obtain ⟨ow, ho, do_⟩ := LX.h0
        repeat walk_at "h"
        refine i_IxL (SqL.of LX.kpv) ik ?_
        refine ⟨ol, rfl, ⟨_, SqL.of ho⟩, ?_⟩
        refine for_list (xs := ow) (fun j σ H' => ∃ (sx' : RS) (y7 : Option V), σ = [some (.ref a0), some (.ref b), y2, some (.ref d), some (.ref rp), some (.ref kp), some (.int (0 + (i : Int))), y7, none, none, none, none] ∧ LW P w K C CS H' d rs rp kp [.ref x, .ref x2] [.ref k0, .ref k1] ol ol' os os' X sx' Y ty ∧ HasK rs (os.take j) sx' ∧ H' ol = some (.lst ow) ∧ DtsAt K H' ow (os.map nmD))
          ⟨sx, _, rfl, LX, HX, ho, do_⟩ (fun i σ H' _ ⟨_, _, _, _, _, h, _⟩ => SqL.of h) ?_ ?_
        · clear LX HX ho do_
          rintro j v σ H13 hv ⟨sx', y7, rfl, L, HX, ho, do_⟩
          obtain ⟨dd, hdd, dv⟩ := do_.getV hv
          rw [List.getElem?_map] at hdd
          obtain ⟨k, hk, rfl⟩ := Option.map_eq_some_iff.mp hdd
          obtain ⟨ka, rfl, hka⟩ := nmAt dv
          have kin := List.mem_of_getElem? hk
          have jl := (List.getElem?_eq_some_iff.mp hk).1
          obtain ⟨r, hr, rfl⟩ := List.mem_map.mp (subo k kin)
          have tk : os.take (j + 1) = os.take j ++ [r.1] := by rw [List.take_add_one, hk]; rfl
          have fresh : r.1 ∉ sx'.ms.map (·.1) := by
            rw [HX.names]
            intro z
            have this : (os.take j ++ os.drop j).Nodup := by rw [List.take_append_drop]; exact ndo
            rw [List.nodup_append] at this
            have hd : r.1 ∈ os.drop j := by
              rw [List.drop_eq_getElem_cons jl]
              have : os[j] = r.1 := by rw [List.getElem?_eq_getElem jl] at hk; exact Option.some.inj hk
              rw [this]; exact List.mem_cons_self
            exact this.2.2 _ z _ hd rfl
          repeat walk_at "h"
          refine i_IxL (SqL.of L.rpv) ix ?_
          repeat walk_at "h"
          have jl20 : (os.take j).length ≤ 20 := by rw [List.length_take]; omega
          have msl : sx'.ms.length ≤ 900 := by
            have := congrArg List.length HX.names
            rw [List.length_map] at this
            omega
          have cll : sx'.cl.length ≤ 60 := by
            rw [HX.cl]
            have h1 := cellsOf_len (chsL rs (os.take j))
            have h2 := chsL_len (fun r hr => (mok r hr).len) names (l := os.take j) fun k hk => subo k (List.mem_of_mem_take hk)
            omega
          have rl3 := (mok r hr).len
          refine ⟨X.r, X.dx, _, rfl, L.ra.at_, rfl, ?_⟩
          repeat walk_at "h"
          refine i_IxT hka.sqt (at_of (j := 0) rfl rfl) ?_
          repeat walk_at "h"
          refine i_IxT hka.sqt (at_of (j := 1) rfl rfl) ?_
          repeat walk_at "h"
          obtain ⟨rv, hrv, drv⟩ := L.M.at_ r hr
          refine ⟨d, ka, _, (nmD r.1).key, _, rfl, rfl, L.M.nd.r, KyAt.of dv rfl (by simp [nmD, Dt.depth, Dt.depthAll]), m_get names hr, ?_⟩
          refine ⟨r.2.1, rv, rfl, .inl (SqL.of hrv), fun qa nqa => ?_⟩
          have s14 : Stp [] H13 (upd H13 qa (.lst rv)) := .new nqa
          have e14 : upd H13 qa (.lst rv) qa = some (.lst rv) := upd_same
          have L14 := L.grow s14
          have drv14 := chs_stp drv s14
          have ho14 := s14.keep _ _ ho (by simp)
          have do14 := DtsAt.stp s14 _ _ (nms_flat _) do_
          generalize upd H13 qa (.lst rv) = H14 at s14 e14 L14 drv14 ho14 do14 ⊢
          clear s14 L hrv drv ho do_ nqa dv hka
          repeat walk_at "h"
          refine ⟨X, sx', r.1, qa, rv, r.2.2, rfl, L14.ra, e14, drv14, by omega, msl, fun z => absurd z fresh, fun _ q2 H15 nq R15 s15 => ?_⟩
          have L15 := L14.acc nq R15 s15
          have ho15 := s15.keep _ _ ho14 (L14.ra.off ⟨_, ho14⟩)
          have do15 := DtsAt.stp s15 _ _ (nms_flat _) do14
          have HX15 : HasK rs (os.take (j + 1)) (acceptR sx' r.1 q2 r.2.2) := by
            rw [tk]
            exact HX.go ((AccL.nil sx').step r.1 q2 r.2.2) (by simp [kcs, chsK_of names hr])
          repeat walk_at "h"
          refine ⟨true, true, rfl, rfl, ?_⟩
          refine ⟨false, rfl, iteF ?_⟩
          repeat walk_at "h"
          exact ⟨_, _, rfl, L15, HX15, ho15, do15⟩
        · clear LX HX ho do_
          rintro σ H13 ⟨sx', y7, rfl, L, HX, ho, do_⟩
          have owl : ow.length = os.length := by have := do_.length; rwa [List.length_map] at this
          rw [owl, List.take_length] at HX
          repeat walk_at "h"
          refine i_IxL (SqL.of L.rpv) ix ?_
          repeat walk_at "h"
          refine i_IxL (SqL.of L.kpv) ik ?_
          repeat walk_at "h"
          refine ⟨X, sx', d, rs, ol, ow, os, rfl, L.ra, L.M, mok, ho, do_, keys_ok mok subo (by omega), subo, HX, fun H14 s14 => ?_⟩
          obtain ⟨s2, t2, L2, hA2, hB2⟩ := back H14 sx' (L.grow s14) HX
          repeat walk_at "h"
          refine iteF ?_
          repeat walk_at "h"
          exact ⟨s2, t2, _, _, rfl, L2, hA2, hB2⟩
      · clear L11
        rintro σ H12 ⟨s, t, y6, y7, rfl, L, hA, hB⟩
        have hA : HasK rs ks0 s := hA
        have hB : HasK rs ks1 t := hB
        obtain ⟨ns, pk, ak, ek⟩ := dt_order nmD (rs.map (·.1))
        repeat walk_at "h"
        refine i_Lc (i_List ?_)
        repeat walk_at "h"
        refine ⟨d, mKvs rs, (rs.map (·.1)).map nmD, rfl, L.M.nd.r, (by unfold mKvs; rw [List.map_map, List.map_map, List.map_map]; rfl), nms_flat _, Nat.le_trans (nms_depth _) (by decide), nms_alike _, nms_sortable _, fun nl nw nnl dnw => ?_⟩
        rw [ek] at dnw
        have nwl : nw.length = ns.length := by have := dnw.length; rwa [List.length_map] at this
        have nsl : ns.length ≤ 20 := by rw [pk.length_eq, List.length_map]; exact lr
        have due := due_eq (ns := ns) (ks := ks0) (kt := ks1) (ak.imp fun {a b} h => by rw [leD_nm] at h; simpa using h) (pk.nodup_iff.mpr names) (fun k hk => pk.mem_iff.mpr (sub1 k hk)) (fun k hk => by
          obtain ⟨r, hr, e⟩ := List.mem_map.mp (pk.mem_iff.mp hk)
          rw [← e]; exact (mok r hr).sd)
        have s13 : Stp [] H12 (upd H12 nl (.lst nw)) := .new nnl
        have n13 : upd H12 nl (.lst nw) nl = some (.lst nw) := upd_same
        have dn13 := DtsAt.stp s13 _ _ (nms_flat _) dnw
        have L13 := L.grow s13
        generalize upd H12 nl (.lst nw) = H13 at s13 n13 dn13 L13 ⊢
        clear s13 L dnw nnl
        refine ⟨nl, rfl, ⟨_, SqL.of n13⟩, fun dp ndp => ?_⟩
        refine lc_list (xs := nw) (fun i H' => Stp [] H13 H' ∧ ∃ acc, H' dp = some (.lst acc) ∧ DtsAt K H' acc (((ns.take i).filter fun k => decide (k ∈ ks1) && decide (k ∉ ks0)).map nmD)) ⟨.new ndp, [], upd_same, .nil⟩ (fun i H' _ h => SqL.of (h.1.keep _ _ n13 (by simp))) ?_ ?_
        · rintro i v H14 hv ⟨s14, acc, h14, d14⟩
          obtain ⟨dd, hdd, dv⟩ := (DtsAt.stp s14 _ _ (nms_flat _) dn13).getV hv
          rw [List.getElem?_map] at hdd
          obtain ⟨k, hk, rfl⟩ := Option.map_eq_some_iff.mp hdd
          have tk : ns.take (i + 1) = ns.take i ++ [k] := by rw [List.take_add_one, hk]; rfl
          have L14 := L13.grow s14
          obtain ⟨w0, e0, d0⟩ := L14.h0
          obtain ⟨w1, e1, d1⟩ := L14.h1
          have al : acc.length ≤ 20 := by
            have h1 := d14.length
            rw [List.length_map] at h1
            have h2 := List.length_filter_le (fun k => decide (k ∈ ks1) && decide (k ∉ ks0)) (ns.take i)
            rw [List.length_take] at h2
            omega
          rw [tk, List.filter_append, List.map_append]
          repeat walk_at "h"
          refine ⟨rfl, ?_⟩
          repeat walk_at "h"
          refine i_IxL (SqL.of L14.kpv) (at_of (j := 1) rfl rfl) ?_
          repeat walk_at "h"
          refine ⟨nmD k, ks1.map nmD, dv, .lst (SqL.of e1) d1, by simp [Dt.depth, Dt.depthAll], Nat.le_trans (nms_dep _) (by decide), ?_⟩
          rw [nm_any]
          by_cases c1 : k ∈ ks1
          · rw [decide_eq_true c1]
            refine ⟨_, rfl, iteT ?_⟩
            repeat walk_at "h"
            refine i_IxL (SqL.of L14.kpv) (at_of (j := 0) rfl rfl) ?_
            repeat walk_at "h"
            refine ⟨nmD k, ks0.map nmD, dv, .lst (SqL.of e0) d0, by simp [Dt.depth, Dt.depthAll], Nat.le_trans (nms_dep _) (by decide), ?_⟩
            rw [nm_any]
            by_cases c0 : k ∈ ks0
            · rw [decide_eq_true c0]
              refine ⟨_, rfl, iteF ?_⟩
              have ef : List.filter (fun k => decide (k ∈ ks1) && decide (k ∉ ks0)) [k] = [] := by simp [c0]
              refine ⟨s14, acc, h14, ?_⟩
              rw [ef, List.map_nil, List.append_nil]
              exact d14
            · rw [decide_eq_false c0]
              refine ⟨_, rfl, iteT ?_⟩
              have ef : List.filter (fun k => decide (k ∈ ks1) && decide (k ∉ ks0)) [k] = [k] := by simp [c0, c1]
              repeat walk_at "h"
              have s15 : Stp [dp] H14 (upd H14 dp (.lst (acc ++ [v]))) := .wr (by simp) h14 fun _ z => nomatch z
              refine ⟨acc, h14, Nat.lt_of_le_of_lt (show acc.length ≤ 100 by omega) (by decide), s14.into ndp s15, _, upd_same, ?_⟩
              rw [ef]
              exact (DtsAt.stp s15 _ _ (nms_flat _) d14).append (.cons (DtAt.stp s15 _ _ rfl dv) .nil)
          · rw [decide_eq_false c1]
            refine ⟨_, rfl, iteF ?_⟩
            have ef : List.filter (fun k => decide (k ∈ ks1) && decide (k ∉ ks0)) [k] = [] := by simp [c1]
            refine ⟨s14, acc, h14, ?_⟩
            rw [ef, List.map_nil, List.append_nil]
            exact d14
        · rintro H14 ⟨s14, acc, h14, d14⟩
          rw [nwl, List.take_length, due] at d14
          have L14 := L13.grow s14
          have okA := keys_ok mok sub0 (by omega)
          have okB := keys_ok mok sub1 (by omega)
          have nA := hA.names
          have nB := hB.names
          have sl : s.ms.length < 64 := by have := congrArg List.length nA; rw [List.length_map] at this; omega
          have tl : t.ms.length < 64 := by have := congrArg List.length nB; rw [List.length_map] at this; omega
          have lkr : ∀ k ∈ lackK ks0 ks1, k.1.natAbs < 10 ^ 12 ∧ k.2.natAbs < 10 ^ 12 := fun k hk => by
            obtain ⟨r, hr, e⟩ := List.mem_map.mp (sub1 k (lackK_mem.mp hk).2.1)
            have h1 := (mok r hr).sd
            have h2 := (mok r hr).nr
            rw [← e]; omega
          have lkl : (lackK ks0 ks1).length ≤ 20 := by
            rw [← due]
            exact Nat.le_trans (List.length_filter_le _ _) nsl
          have accl : acc.length = (lackK ks0 ks1).length := by have := d14.length; rwa [List.length_map] at this
          clear s14 L13 n13 dn13 ndp ak pk ek due nwl nsl
          subst ex ex2
          repeat walk_at "h"
          refine i_IxL (SqL.of L14.rpv) (at_of (j := 0) rfl rfl) ?_
          repeat walk_at "h"
          refine ⟨ra, s, rfl, L14.ra, sl, fun mp mw H15 nmp hmp dm s15 => ?_⟩
          rw [toldR_K, nA] at dm
          have L15 := L14.grow s15
          have h15 := s15.keep _ _ h14 (by simp)
          have d15 := DtsAt.stp s15 _ _ (nms_flat _) d14
          clear s15 L14 h14 d14 nmp
          repeat walk_at "h"
          refine i_IxL (SqL.of L15.rpv) (at_of (j := 1) rfl rfl) ?_
          repeat walk_at "h"
          refine ⟨rb, t, rfl, L15.rb, tl, fun tp tw H16 ntp htp dt s16 => ?_⟩
          rw [toldR_K, nB] at dt
          have L16 := L15.grow s16
          have h16 := s16.keep _ _ h15 (by simp)
          have d16 := DtsAt.stp s16 _ _ (nms_flat _) d15
          have hmp16 := s16.keep _ _ hmp (by simp)
          have dm16 := DtsAt.grow s16 _ _ dm
          clear s16 L15 h15 d15 hmp dm ntp
          repeat walk_at "h"
          refine ⟨mp, tp, mw, tw, ks0, ks1, rfl, hmp16, dm16, htp, dt, okA, okB, fun lp lw H17 nlp hlp dl s17 => ?_⟩
          have L17 := L16.grow s17
          have h17 := s17.keep _ _ h16 (by simp)
          have d17 := DtsAt.stp s17 _ _ (nms_flat _) d16
          have hmp17 := s17.keep _ _ hmp16 (by simp)
          have dm17 := DtsAt.grow s17 _ _ dm16
          clear s17 L16 h16 d16 hmp16 dm16 nlp htp dt
          repeat walk_at "h"
          refine ⟨_, _, .lst ((lackK ks0 ks1).map nmD), rfl, .lst (SqL.of hlp) dl, .lst (SqL.of h17) d17, nms_shows lkr (by omega), ?_⟩
          repeat walk_at "h"
          refine iteF ?_
          repeat walk_at "h"
          refine ⟨mp, mp, mw, mw, ks0, ks0, rfl, hmp17, dm17, hmp17, dm17, okA, okA, fun lp2 lw2 H18 nlp2 hlp2 dl2 s18 => ?_⟩
          rw [lackK_none (fun k hk => hk)] at dl2
          have L18 := L17.grow s18
          have h18 := s18.keep _ _ h17 (by simp)
          have d18 := DtsAt.stp s18 _ _ (nms_flat _) d17
          have hmp18 := s18.keep _ _ hmp17 (by simp)
          have dm18 := DtsAt.grow s18 _ _ dm17
          clear s18 L17 h17 d17 hmp17 dm17 nlp2 hlp dl
          repeat walk_at "h"
          refine ⟨Nat.zero_le _, fun ep nep => ?_⟩
          have s19 : Stp [] H18 (upd H18 ep (.lst [])) := .new nep
          have e19 : upd H18 ep (.lst []) ep = some (.lst []) := upd_same
          have L19 := L18.grow s19
          have h19 := s19.keep _ _ h18 (by simp)
          have d19 := DtsAt.stp s19 _ _ (nms_flat _) d18
          have hmp19 := s19.keep _ _ hmp18 (by simp)
          have dm19 := DtsAt.grow s19 _ _ dm18
          have hlp19 := s19.keep _ _ hlp2 (by simp)
          have dl19 : DtsAt K (upd H18 ep (.lst [])) lw2 [] := DtsAt.grow s19 _ _ dl2
          generalize upd H18 ep (.lst []) = H19 at s19 e19 L19 h19 d19 hmp19 dm19 hlp19 dl19 ⊢
          clear s19 L18 h18 d18 hmp18 dm18 hlp2 dl2 nep
          refine i_NeT (.lst (SqL.of hlp19) dl19) (.lst (SqL.of e19) .nil) ?_ (by simp [Dt.depth, Dt.depthAll]) (by simp [Dt.depth, Dt.depthAll])
          rw [Dt.beq_self]
          refine ⟨false, rfl, iteF ?_⟩
          clear e19 hlp19 dl19
          repeat walk_at "h"
          refine i_IxL (SqL.of L19.rpv) (at_of (j := 1) rfl rfl) ?_
          repeat walk_at "h"
          have okT : ∀ m ∈ t.ms, m.2.2.length ≤ 3 ∧ ∀ c ∈ m.2.2, OkChL c := fun m hm => hB.ok mok names sub1 hm
          refine ⟨rb, t, mp, mw, ks0, rfl, L19.rb, hmp19, dm19, okA, by rw [nB]; exact okB, fun m hm => ⟨by have := (okT m hm).1; omega, fun c hc => okChL_short ((okT m hm).2 c hc)⟩, fun op ow H20 nop hop pan s20 => ?_⟩
          rw [nB] at pan
          have pan := ans_oc hB pan
          have L20 := L19.grow s20
          have h20 := s20.keep _ _ h19 (by simp)
          have d20 := DtsAt.stp s20 _ _ (nms_flat _) d19
          clear s20 L19 h19 d19 hmp19 dm19
          have owl := Paired.length pan
          have msK : ∀ k ∈ lackK ks0 ks1, ∃ r ∈ rs, r.1 = k ∧ chsK rs k = r.2.2 := fun k hk => by
            obtain ⟨r, hr, e⟩ := List.mem_map.mp (sub1 k (lackK_mem.mp hk).2.1)
            exact ⟨r, hr, e, by rw [← e]; exact chsK_of names hr⟩
          have okM : ∀ k ∈ lackK ks0 ks1, OkMsg (k.1, k.2, chsK rs k) 3 := fun k hk => by
            obtain ⟨r, hr, e, e2⟩ := msK k hk
            have h1 := (mok r hr).sd
            have h2 := (mok r hr).nr
            rw [e2, ← e]
            exact ⟨h1, ⟨by show 0 ≤ r.1.2; omega, by show r.1.2 ≤ 4294967295; omega⟩, (mok r hr).len, (mok r hr).ok⟩
          generalize hlk : lackK ks0 ks1 = lk at *
          repeat walk_at "h"
          refine i_Lc (i_List (i_var rfl ⟨op, rfl, ⟨_, SqL.of hop⟩, fun p1 np1 => ?_⟩))
          have op1 : op ≠ p1 := ne_of_none hop np1
          refine lc_list (xs := ow) (fun i H' => Stp [] H20 H' ∧ ∃ ac, H' p1 = some (.lst ac) ∧ Paired (MgAt K p1 H') ac (kcs rs (lk.take i))) ⟨.new np1, [], upd_same, .nil⟩ (fun i H' _ h => SqL.of (h.1.keep _ _ hop (by simp))) ?_ ?_
          · rintro i v H21 hv ⟨s21, ac, h21, d21⟩
            obtain ⟨k, hk, o, rfl, _, ho⟩ := pd_get pan hv
            have ho21 := s21.keep _ _ ho (by simp)
            have kin := List.mem_of_getElem? hk
            have tk : lk.take (i + 1) = lk.take i ++ [k] := by rw [List.take_add_one, hk]; rfl
            have acl : ac.length ≤ 20 := by
              have h1 := Paired.length d21
              unfold kcs at h1
              rw [List.length_map, List.length_take] at h1
              omega
            rw [tk, kcs_snoc]
            have om := okM k kin
            obtain ⟨kk, hkk⟩ := om.reads (by decide)
            have osz := om.size
            repeat walk_at "h"
            refine ⟨rfl, ?_⟩
            repeat walk_at "h"
            refine iteT ?_
            repeat walk_at "h"
            refine ⟨o, ocK rs k, rfl, ho21, Nat.le_trans osz.2 (by decide), ?_⟩
            have hkk : rMsg (ocK rs k) 0 = _ := hkk
            rw [hkk]
            intro H22 s22 pa wa ta npa hpa dpa hta
            have h22 := s22.keep _ _ h21 (by simp)
            have pa1 : pa ≠ p1 := (ne_of_none h21 npa).symm
            have s23 : Stp [p1] H22 (upd H22 p1 (.lst (ac ++ [.ref ta]))) := .wr (by simp) h22 fun _ z => nomatch z
            exact ⟨ac, h22, Nat.lt_of_le_of_lt (show ac.length ≤ 100 by omega) (by decide), (s21.trans s22).into np1 s23, _, upd_same, Paired.snoc (mg_stp (mg_stp d21 s22 (fun _ _ => by simp)) s23 (fun z hz => by simpa using hz)) ⟨ta, pa, wa, rfl, s23.tups _ _ hta, pa1, s23.keep _ _ hpa (by simpa using pa1), chs_stp dpa s23⟩⟩
          · rintro H21 ⟨s21, ac, h21, d21⟩
            rw [owl, List.take_length] at d21
            have L21 := L20.grow s21
            have hop21 := s21.keep _ _ hop (by simp)
            have pan21 := oc_stp pan s21 (fun _ _ => by simp)
            have hdp21 := s21.keep _ _ h20 (by simp)
            have d21' := DtsAt.stp s21 _ _ (nms_flat _) d20
            clear s21 L20 h20 d20 hop pan np1 op1
            repeat walk_at "h"
            refine i_Lc (i_List (i_var rfl ⟨dp, rfl, ⟨_, SqL.of hdp21⟩, fun p2 np2 => ?_⟩))
            refine lc_list (xs := acc) (fun i H' => Stp [] H21 H' ∧ ∃ ac, H' p2 = some (.lst ac) ∧ Paired (MgAt K p2 H') ac (kcs rs (lk.take i))) ⟨.new np2, [], upd_same, .nil⟩ (fun i H' _ h => SqL.of (h.1.keep _ _ hdp21 (by simp))) ?_ ?_
            · rintro i v H22 hv ⟨s22, ac2, h22, d22⟩
              obtain ⟨dd, hdd, dv⟩ := (DtsAt.stp s22 _ _ (nms_flat _) d21').getV hv
              rw [List.getElem?_map] at hdd
              obtain ⟨k, hk, rfl⟩ := Option.map_eq_some_iff.mp hdd
              obtain ⟨ka, rfl, hka⟩ := nmAt dv
              have kin := List.mem_of_getElem? hk
              have tk : lk.take (i + 1) = lk.take i ++ [k] := by rw [List.take_add_one, hk]; rfl
              have acl : ac2.length ≤ 20 := by
                have h1 := Paired.length d22
                unfold kcs at h1
                rw [List.length_map, List.length_take] at h1
                omega
              obtain ⟨r, hr, rfl, erk⟩ := msK k kin
              rw [tk, kcs_snoc, erk]
              have M22 := L21.M.stp s22 (by simp) (by simp)
              obtain ⟨rv, hrv, drv⟩ := M22.at_ r hr
              have rp2 : r.2.1 ≠ p2 := by
                obtain ⟨vs, e, _⟩ := L21.M.at_ r hr
                exact ne_of_none e np2
              repeat walk_at "h"
              refine ⟨rfl, ?_⟩
              repeat walk_at "h"
              refine iteT ?_
              repeat walk_at "h"
              refine i_IxT hka.sqt (at_of (j := 0) rfl rfl) ?_
              repeat walk_at "h"
              refine i_IxT hka.sqt (at_of (j := 1) rfl rfl) ?_
              repeat walk_at "h"
              refine ⟨d, ka, _, (nmD r.1).key, _, rfl, rfl, M22.nd.r, KyAt.of dv rfl (by simp [nmD, Dt.depth, Dt.depthAll]), m_get names hr, ?_⟩
              repeat walk_at "h"
              refine ⟨(by decide : 3 ≤ sizeLine), fun ta nta => ?_⟩
              have s23 : Stp [] H22 (upd H22 ta (.tup [.int r.1.1, .int r.1.2, .ref r.2.1])) := .new nta
              have e23 : upd H22 ta (.tup [.int r.1.1, .int r.1.2, .ref r.2.1]) ta = some (.tup [.int r.1.1, .int r.1.2, .ref r.2.1]) := upd_same
              have hrv23 := s23.keep _ _ hrv (by simp)
              have drv23 := chs_stp drv s23
              have h23 := s23.keep _ _ h22 (by simp)
              have d23 := mg_stp d22 s23 (fun _ _ => by simp)
              generalize upd H22 ta (.tup [.int r.1.1, .int r.1.2, .ref r.2.1]) = H23 at s23 e23 hrv23 drv23 h23 d23 ⊢
              have s24 : Stp [p2] H23 (upd H23 p2 (.lst (ac2 ++ [.ref ta]))) := .wr (by simp) h23 fun _ z => nomatch z
              exact ⟨ac2, h23, Nat.lt_of_le_of_lt (show ac2.length ≤ 100 by omega) (by decide), (s22.trans s23).into np2 s24, _, upd_same, Paired.snoc (mg_stp d23 s24 (fun z hz => by simpa using hz)) ⟨ta, r.2.1, rv, rfl, s24.tups _ _ e23, rp2, s24.keep _ _ hrv23 (by simpa using rp2), chs_stp drv23 s24⟩⟩
            · rintro H22 ⟨s22, ac2, h22, d22⟩
              rw [accl, List.take_length] at d22
              have L22 := L21.grow s22
              have hop22 := s22.keep _ _ hop21 (by simp)
              have pan22 := oc_stp pan21 s22 (fun _ _ => by simp)
              have hdp22 := s22.keep _ _ hdp21 (by simp)
              have dd22 := DtsAt.stp s22 _ _ (nms_flat _) d21'
              have h21' := s22.keep _ _ h21 (by simp)
              have g21 := mg_stp d21 s22 (fun _ _ => by simp)
              clear s22 L21 hop21 pan21 hdp21 d21' h21 d21 np2
              repeat walk_at "h"
              refine i_NeT (.lst (SqL.of h21') (mg_dts g21)) (.lst (SqL.of h22) (mg_dts d22)) ?_ (mgs_deep _) (mgs_deep _)
              rw [Dt.beq_self]
              refine ⟨false, rfl, iteF ?_⟩
              clear h21' g21 h22 d22
              repeat walk_at "h"
              refine i_Lc (i_List (i_var rfl ⟨dp, rfl, ⟨_, SqL.of hdp22⟩, fun p3 np3 => ?_⟩))
              refine lc_list (xs := acc) (fun i H' => Stp [] H22 H' ∧ ∃ ac, H' p3 = some (.lst ac) ∧ Paired (OcAt2 rs p3 H') ac (lk.take i)) ⟨.new np3, [], upd_same, .nil⟩ (fun i H' _ h => SqL.of (h.1.keep _ _ hdp22 (by simp))) ?_ ?_
              · rintro i v H23 hv ⟨s23, ac3, h23, d23⟩
                obtain ⟨dd, hdd, dv⟩ := (DtsAt.stp s23 _ _ (nms_flat _) dd22).getV hv
                rw [List.getElem?_map] at hdd
                obtain ⟨k, hk, rfl⟩ := Option.map_eq_some_iff.mp hdd
                obtain ⟨ka, rfl, hka⟩ := nmAt dv
                have kin := List.mem_of_getElem? hk
                have tk : lk.take (i + 1) = lk.take i ++ [k] := by rw [List.take_add_one, hk]; rfl
                have acl : ac3.length ≤ 20 := by
                  have h1 := Paired.length d23
                  rw [List.length_take] at h1
                  omega
                have L23 := L22.grow s23
                have k1in : k ∈ t.ms.map (·.1) := by
                  rw [nB]
                  rw [← hlk] at kin
                  exact (lackK_mem.mp kin).2.1
                obtain ⟨m, hm, rfl⟩ := List.mem_map.mp k1in
                rw [tk]
                repeat walk_at "h"
                refine ⟨rfl, ?_⟩
                repeat walk_at "h"
                refine iteT ?_
                repeat walk_at "h"
                refine i_IxL (SqL.of L23.rpv) (at_of (j := 1) rfl rfl) ?_
                repeat walk_at "h"
                refine ⟨rb.r, rb.dx, _, rfl, L23.rb.at_, rfl, ?_⟩
                repeat walk_at "h"
                refine i_IxT hka.sqt (at_of (j := 0) rfl rfl) ?_
                repeat walk_at "h"
                refine i_IxT hka.sqt (at_of (j := 1) rfl rfl) ?_
                refine ⟨rb, t, m, rfl, L23.rb, hm, by have := (okT m hm).1; omega, fun c hc => okChL_short ((okT m hm).2 c hc), fun o H24 no ho s24 => ?_⟩
                have h24 := s24.keep _ _ h23 (by simp)
                have d24 := oc_stp d23 s24 (fun _ _ => by simp)
                have op3 : o ≠ p3 := (ne_of_none h23 no).symm
                have s25 : Stp [p3] H24 (upd H24 p3 (.lst (ac3 ++ [.ref o]))) := .wr (by simp) h24 fun _ z => nomatch z
                rw [(hB.row hm).2] at ho
                exact ⟨ac3, h24, Nat.lt_of_le_of_lt (show ac3.length ≤ 100 by omega) (by decide), (s23.trans s24).into np3 s25, _, upd_same, Paired.snoc (oc_stp d24 s25 (fun z hz => by simpa using hz)) ⟨o, rfl, op3, s25.keep _ _ ho (by simpa using op3)⟩⟩
              · rintro H23 ⟨s23, ac3, h23, d23⟩
                rw [accl, List.take_length] at d23
                have L23 := L22.grow s23
                have hop23 := s23.keep _ _ hop22 (by simp)
                have pan23 := oc_stp pan22 s23 (fun _ _ => by simp)
                have hdp23 := s23.keep _ _ hdp22 (by simp)
                have dd23 := DtsAt.stp s23 _ _ (nms_flat _) dd22
                clear s23 L22 hop22 pan22 hdp22 dd22 np3
                have oksh : ∀ k ∈ lk, (ocK rs k).length ≤ 200 ∧ inO (ocK rs k) := fun k hk => ⟨Nat.le_trans (okM k hk).size.2 (by decide), (okM k hk).inO⟩
                repeat walk_at "h"
                refine ⟨_, _, .lst (lk.map (ocD rs)), rfl, .lst (SqL.of hop23) (oc_dts pan23), .lst (SqL.of h23) (oc_dts d23), oc_shows oksh lkl, ?_⟩
                repeat walk_at "h"
                refine iteF ?_
                clear hop23 pan23 h23 d23
                repeat walk_at "h"
                refine i_IxL (SqL.of L23.rpv) (at_of (j := 0) rfl rfl) ?_
                repeat walk_at "h"
                refine i_IxL (SqL.of L23.rpv) (at_of (j := 1) rfl rfl) ?_
                repeat walk_at "h"
                have elk : lackK (s.ms.map (·.1)) (t.ms.map (·.1)) = lk := by rw [nA, nB]; exact hlk
                have lk1 : ∀ k ∈ lk, k ∈ ks1 ∧ k ∉ ks0 := fun k hk => by
                  rw [← hlk] at hk
                  exact (lackK_mem.mp hk).2
                have rs3 : ∀ r ∈ rs, r.2.2.length ≤ 3 := fun r hr => (mok r hr).len
                have scl : s.cl.length ≤ 200 := by
                  rw [hA.cl]
                  have h1 := cellsOf_len (chsL rs ks0)
                  have h2 := chsL_len rs3 names sub0
                  omega
                have nds : lk.Nodup := by rw [← hlk]; exact lackK_nodup _ _
                refine ⟨ra, rb, s, t, rfl, L23.ra, L23.rb, L23.f3, by rw [nA]; exact okA, by rw [nB]; exact okB, fun m hm => (okT m hm).1, scl, by rw [elk, nA]; exact fun k hk => (lk1 k hk).2, by rw [elk]; exact nds, by rw [elk]; omega, fun s' H24 ac RA24 RB24 f24 s24 => ?_⟩
                rw [elk] at ac ⊢
                have L24 := L23.go s24 RA24 f24
                have hdp24 := s24.keep _ _ hdp23 (L23.ra.off ⟨_, hdp23⟩)
                have dd24 := DtsAt.stp s24 _ _ (nms_flat _) dd23
                have hA24 := hA.go ac (hB.br nd1 (m := lk) fun k hk => (lk1 k hk).1)
                clear s24 L23 hdp23 dd23 RA24 RB24 f24
                have sub24 : ∀ k ∈ ks0 ++ lk, k ∈ rs.map (·.1) := fun k hk => by
                  rcases List.mem_append.mp hk with z | z
                  · exact sub0 k z
                  · exact sub1 k (lk1 k z).1
                have len24 : (ks0 ++ lk).length ≤ 40 := by rw [List.length_append]; omega
                have ok24 := keys_ok mok sub24 (by omega)
                have n24 := hA24.names
                have elk2 : lackK (s'.ms.map (·.1)) (t.ms.map (·.1)) = [] := by
                  rw [n24, nB]
                  refine lackK_none fun k hk => ?_
                  by_cases z : k ∈ ks0
                  · exact List.mem_append_left _ z
                  · refine List.mem_append_right _ ?_
                    rw [← hlk]
                    obtain ⟨r, hr, e⟩ := List.mem_map.mp (sub1 k hk)
                    have := (mok r hr).sd
                    exact lackK_mem.mpr ⟨by rw [← e]; omega, hk, z⟩
                have scl24 : s'.cl.length ≤ 200 := by
                  rw [hA24.cl]
                  have h1 := cellsOf_len (chsL rs (ks0 ++ lk))
                  have h2 := chsL_len rs3 names sub24
                  omega
                repeat walk_at "h"
                refine ⟨dp, acc, rfl, .inl (SqL.of hdp24), ?_⟩
                rw [accl]
                refine ⟨_, _, .num ((lk.length : Nat) : Int), rfl, .num _, .num _, Dt.shows_of (by simp only [Dt.brief, decide_eq_true_eq]; omega) (by simp [Dt.mass]) (by simp [Dt.depth]), ?_⟩
                repeat walk_at "h"
                refine iteF ?_
                repeat walk_at "h"
                refine i_IxL (SqL.of L24.rpv) (at_of (j := 0) rfl rfl) ?_
                repeat walk_at "h"
                refine i_IxL (SqL.of L24.rpv) (at_of (j := 1) rfl rfl) ?_
                repeat walk_at "h"
                refine ⟨ra, rb, s', t, rfl, L24.ra, L24.rb, L24.f3, by rw [n24]; exact ok24, by rw [nB]; exact okB, fun m hm => (okT m hm).1, scl24, by rw [elk2]; exact fun k hk => (nomatch hk), by rw [elk2]; exact List.nodup_nil, by rw [elk2]; exact Nat.zero_le _, fun s2 H25 ac2 RA25 RB25 f25 s25 => ?_⟩
                rw [elk2] at ac2 ⊢
                have L25 := L24.go s25 RA25 f25
                have hdp25 := s25.keep _ _ hdp24 (L24.ra.off ⟨_, hdp24⟩)
                have dd25 := DtsAt.stp s25 _ _ (nms_flat _) dd24
                have hA25 : HasK rs (ks0 ++ lk) s2 := by
                  have := hA24.go ac2 (m := []) rfl
                  rwa [List.append_nil] at this
                clear s25 L24 hdp24 dd24 RA25 RB25 f25
                repeat walk_at "h"
                refine ⟨_, _, .num 0, rfl, .num _, .num _, Dt.shows_of (by simp [Dt.brief]) (by simp [Dt.mass]) (by simp [Dt.depth]), ?_⟩
                repeat walk_at "h"
                refine iteF ?_
                obtain ⟨w0, e0, d0⟩ := L25.h0
                have w0l : w0.length = ks0.length := by have := d0.length; rwa [List.length_map] at this
                repeat walk_at "h"
                refine i_IxL (SqL.of L25.rpv) (at_of (j := 0) rfl rfl) ?_
                repeat walk_at "h"
                refine i_IxL (SqL.of L25.kpv) (at_of (j := 0) rfl rfl) ?_
                repeat walk_at "h"
                refine ⟨_, _, _, _, rfl, rfl, e0, hdp25, Nat.le_trans (show w0.length + acc.length ≤ 1000 by omega) (by decide), fun cl ncl => ?_⟩
                have s26 : Stp [] H25 (upd H25 cl (.lst (w0 ++ acc))) := .new ncl
                have e26 : upd H25 cl (.lst (w0 ++ acc)) cl = some (.lst (w0 ++ acc)) := upd_same
                have L26 := L25.grow s26
                have d26 : DtsAt K (upd H25 cl (.lst (w0 ++ acc))) (w0 ++ acc) ((ks0 ++ lk).map nmD) := by
                  rw [List.map_append]
                  exact (DtsAt.stp s26 _ _ (nms_flat _) d0).append (DtsAt.stp s26 _ _ (nms_flat _) dd25)
                generalize upd H25 cl (.lst (w0 ++ acc)) = H26 at s26 e26 L26 d26 ⊢
                repeat walk_at "h"
                refine ⟨ra, s2, d, rs, cl, _, ks0 ++ lk, rfl, L26.ra, L26.M, mok, e26, d26, ok24, sub24, hA25, fun H27 s27 => ?_⟩
                have L27 := L26.grow s27
                obtain ⟨w1, e1, d1⟩ := L27.h1
                refine i_blV (i_ite (fun _ => ?_) (fun z => nomatch z))
                repeat walk_at "h"
                refine i_IxL (SqL.of L27.rpv) (at_of (j := 1) rfl rfl) ?_
                repeat walk_at "h"
                refine i_IxL (SqL.of L27.kpv) (at_of (j := 1) rfl rfl) ?_
                repeat walk_at "h"
                refine ⟨rb, t, d, rs, k1, w1, ks1, rfl, L27.rb, L27.M, mok, e1, d1, okB, sub1, hB, fun H28 s28 => ?_⟩
                repeat walk_at "h"
                exact q _
end

theorem facts {P : Program} {w : World} {K : PySem.W.Frag} {h : Heap} {mg : Str → Option Value} {f : Addr} (X : K.In h) (G : h.Ns mainGlobals mg) (hfa : mg ("law" : Str) = some (.ref f)) (c : He.SaysX fa fn [] tf exB w h K) :
    ∃ fd : FuncData, (∀ (s : Shared) (v : Value), BindsTo s fd ⟨[v], []⟩ [("script", v)]) ∧ ∀ base : Heap, K.In base → base.Ns mainGlobals mg → GT.FnG P w K mg base CX0 lv_law f fd ["script"] (spLaw K) := by
  have D_is_peer : Df K mg d_is_peer := by obtain ⟨fd, F⟩ := c.t.d.def_ 0 (d := d_is_peer) rfl; exact ⟨_, fd, F, He.glo_ok X G (c.t.d.fact 0 (f := .glo "is_peer") rfl)⟩
  have D_reference : Df K mg d_reference := by obtain ⟨fd, F⟩ := c.t.d.def_ 1 (d := d_reference) rfl; exact ⟨_, fd, F, He.glo_ok X G (c.t.d.fact 1 (f := .glo "reference") rfl)⟩
  have D_linked_name : Df K mg d_linked_name := by obtain ⟨fd, F⟩ := c.t.d.def_ 2 (d := d_linked_name) rfl; exact ⟨_, fd, F, He.glo_ok X G (c.t.d.fact 2 (f := .glo "linked_name") rfl)⟩
  have D_ranges_of : Df K mg d_ranges_of := by obtain ⟨fd, F⟩ := c.t.d.def_ 3 (d := d_ranges_of) rfl; exact ⟨_, fd, F, He.glo_ok X G (c.t.d.fact 3 (f := .glo "ranges_of") rfl)⟩
  have D_numbers_of : Df K mg d_numbers_of := by obtain ⟨fd, F⟩ := c.t.d.def_ 4 (d := d_numbers_of) rfl; exact ⟨_, fd, F, He.glo_ok X G (c.t.d.fact 4 (f := .glo "numbers_of") rfl)⟩
  have D_told : Df K mg d_told := by obtain ⟨fd, F⟩ := c.t.d.def_ 5 (d := d_told) rfl; exact ⟨_, fd, F, He.glo_ok X G (c.t.d.fact 5 (f := .glo "told") rfl)⟩
  have D_lacking : Df K mg d_lacking := by obtain ⟨fd, F⟩ := c.t.d.def_ 6 (d := d_lacking) rfl; exact ⟨_, fd, F, He.glo_ok X G (c.t.d.fact 6 (f := .glo "lacking") rfl)⟩
  have D_answer : Df K mg d_answer := by obtain ⟨fd, F⟩ := c.t.d.def_ 7 (d := d_answer) rfl; exact ⟨_, fd, F, He.glo_ok X G (c.t.d.fact 7 (f := .glo "answer") rfl)⟩
  have D_bring : Df K mg d_bring := by obtain ⟨fd, F⟩ := c.t.d.def_ 8 (d := d_bring) rfl; exact ⟨_, fd, F, He.glo_ok X G (c.t.d.fact 8 (f := .glo "bring") rfl)⟩
  have D_numbers_without : Df K mg d_numbers_without := by obtain ⟨fd, F⟩ := c.t.d.def_ 9 (d := d_numbers_without) rfl; exact ⟨_, fd, F, He.glo_ok X G (c.t.d.fact 9 (f := .glo "_numbers_without") rfl)⟩
  obtain ⟨fd_CodeError_init, F_CodeError_init⟩ := c.t.d.def_ 10 (d := d_CodeError_init) rfl
  obtain ⟨fd_BadPeer_init, F_BadPeer_init⟩ := c.t.d.def_ 11 (d := d_BadPeer_init) rfl
  obtain ⟨fd_NoSuchMessage_init, F_NoSuchMessage_init⟩ := c.t.d.def_ 12 (d := d_NoSuchMessage_init) rfl
  have D_is_later : Df K mg d_is_later := by obtain ⟨fd, F⟩ := c.t.d.def_ 13 (d := d_is_later) rfl; exact ⟨_, fd, F, He.glo_ok X G (c.t.d.fact 10 (f := .glo "is_later") rfl)⟩
  have D_sorted_changes : Df K mg d_sorted_changes := by obtain ⟨fd, F⟩ := c.t.d.def_ 14 (d := d_sorted_changes) rfl; exact ⟨_, fd, F, He.glo_ok X G (c.t.d.fact 11 (f := .glo "sorted_changes") rfl)⟩
  obtain ⟨fd_State_init, F_State_init⟩ := c.t.d.def_ 15 (d := d_State_init) rfl
  obtain ⟨fd_State_take, F_State_take⟩ := c.t.d.def_ 16 (d := d_State_take) rfl
  obtain ⟨fd_State_value, F_State_value⟩ := c.t.d.def_ 17 (d := d_State_value) rfl
  obtain ⟨fd_State_stamp, F_State_stamp⟩ := c.t.d.def_ 18 (d := d_State_stamp) rfl
  obtain ⟨fd_State_fields, F_State_fields⟩ := c.t.d.def_ 19 (d := d_State_fields) rfl
  obtain ⟨fd_State_names, F_State_names⟩ := c.t.d.def_ 20 (d := d_State_names) rfl
  obtain ⟨fd_State_changes, F_State_changes⟩ := c.t.d.def_ 21 (d := d_State_changes) rfl
  obtain ⟨fd_Reader_init, F_Reader_init⟩ := c.t.d.def_ 22 (d := d_Reader_init) rfl
  obtain ⟨fd_Reader_next_octet, F_Reader_next_octet⟩ := c.t.d.def_ 23 (d := d_Reader_next_octet) rfl
  obtain ⟨fd_Reader_next_number, F_Reader_next_number⟩ := c.t.d.def_ 24 (d := d_Reader_next_number) rfl
  obtain ⟨fd_Reader_next_word, F_Reader_next_word⟩ := c.t.d.def_ 25 (d := d_Reader_next_word) rfl
  obtain ⟨fd_Reader_next_plain, F_Reader_next_plain⟩ := c.t.d.def_ 26 (d := d_Reader_next_plain) rfl
  obtain ⟨fd_Reader_finish, F_Reader_finish⟩ := c.t.d.def_ 27 (d := d_Reader_finish) rfl
  obtain ⟨fd_Reader_check_order, F_Reader_check_order⟩ := c.t.d.def_ 28 (d := d_Reader_check_order) rfl
  have D_number_octets : Df K mg d_number_octets := by obtain ⟨fd, F⟩ := c.t.d.def_ 29 (d := d_number_octets) rfl; exact ⟨_, fd, F, He.glo_ok X G (c.t.d.fact 12 (f := .glo "number_octets") rfl)⟩
  have D_word_octets : Df K mg d_word_octets := by obtain ⟨fd, F⟩ := c.t.d.def_ 30 (d := d_word_octets) rfl; exact ⟨_, fd, F, He.glo_ok X G (c.t.d.fact 13 (f := .glo "word_octets") rfl)⟩
  have D_plain_octets : Df K mg d_plain_octets := by obtain ⟨fd, F⟩ := c.t.d.def_ 31 (d := d_plain_octets) rfl; exact ⟨_, fd, F, He.glo_ok X G (c.t.d.fact 14 (f := .glo "plain_octets") rfl)⟩
  have D_check_of : Df K mg d_check_of := by obtain ⟨fd, F⟩ := c.t.d.def_ 32 (d := d_check_of) rfl; exact ⟨_, fd, F, He.glo_ok X G (c.t.d.fact 15 (f := .glo "check_of") rfl)⟩
  have D_message_octets : Df K mg d_message_octets := by obtain ⟨fd, F⟩ := c.t.d.def_ 33 (d := d_message_octets) rfl; exact ⟨_, fd, F, He.glo_ok X G (c.t.d.fact 16 (f := .glo "message_octets") rfl)⟩
  have D_read_message : Df K mg d_read_message := by obtain ⟨fd, F⟩ := c.t.d.def_ 34 (d := d_read_message) rfl; exact ⟨_, fd, F, He.glo_ok X G (c.t.d.fact 17 (f := .glo "read_message") rfl)⟩
  have D_change_octets : Df K mg d_change_octets := by obtain ⟨fd, F⟩ := c.t.d.def_ 35 (d := d_change_octets) rfl; exact ⟨_, fd, F, He.glo_ok X G (c.t.d.fact 18 (f := .glo "_change_octets") rfl)⟩
  have D_name_octets : Df K mg d_name_octets := by obtain ⟨fd, F⟩ := c.t.d.def_ 36 (d := d_name_octets) rfl; exact ⟨_, fd, F, He.glo_ok X G (c.t.d.fact 19 (f := .glo "_name_octets") rfl)⟩
  have D_value_octets : Df K mg d_value_octets := by obtain ⟨fd, F⟩ := c.t.d.def_ 37 (d := d_value_octets) rfl; exact ⟨_, fd, F, He.glo_ok X G (c.t.d.fact 20 (f := .glo "_value_octets") rfl)⟩
  have D_read_change : Df K mg d_read_change := by obtain ⟨fd, F⟩ := c.t.d.def_ 38 (d := d_read_change) rfl; exact ⟨_, fd, F, He.glo_ok X G (c.t.d.fact 21 (f := .glo "_read_change") rfl)⟩
  have D_read_name : Df K mg d_read_name := by obtain ⟨fd, F⟩ := c.t.d.def_ 39 (d := d_read_name) rfl; exact ⟨_, fd, F, He.glo_ok X G (c.t.d.fact 22 (f := .glo "_read_name") rfl)⟩
  have D_read_value : Df K mg d_read_value := by obtain ⟨fd, F⟩ := c.t.d.def_ 40 (d := d_read_value) rfl; exact ⟨_, fd, F, He.glo_ok X G (c.t.d.fact 23 (f := .glo "_read_value") rfl)⟩
  obtain ⟨fd_Replica_init, F_Replica_init⟩ := c.t.d.def_ 41 (d := d_Replica_init) rfl
  obtain ⟨fd_Replica_begin, F_Replica_begin⟩ := c.t.d.def_ 42 (d := d_Replica_begin) rfl
  obtain ⟨fd_Replica_count, F_Replica_count⟩ := c.t.d.def_ 43 (d := d_Replica_count) rfl
  obtain ⟨fd_Replica_send, F_Replica_send⟩ := c.t.d.def_ 44 (d := d_Replica_send) rfl
  obtain ⟨fd_Replica_copy_of, F_Replica_copy_of⟩ := c.t.d.def_ 45 (d := d_Replica_copy_of) rfl
  obtain ⟨fd_Replica_accept, F_Replica_accept⟩ := c.t.d.def_ 46 (d := d_Replica_accept) rfl
  obtain ⟨fd_Replica_last_number, F_Replica_last_number⟩ := c.t.d.def_ 47 (d := d_Replica_last_number) rfl
  obtain ⟨fd_Replica_take, F_Replica_take⟩ := c.t.d.def_ 48 (d := d_Replica_take) rfl
  have D_law_cell : Df K mg d_law_cell := by obtain ⟨fd, F⟩ := c.t.d.def_ 49 (d := d_law_cell) rfl; exact ⟨_, fd, F, He.glo_ok X G (c.t.d.fact 24 (f := .glo "_law_cell") rfl)⟩
  have D_law_row : Df K mg d_law_row := by obtain ⟨fd, F⟩ := c.t.d.def_ 50 (d := d_law_row) rfl; exact ⟨_, fd, F, He.glo_ok X G (c.t.d.fact 25 (f := .glo "_law_row") rfl)⟩
  have D_law_box : Df K mg d_law_box := by obtain ⟨fd, F⟩ := c.t.d.def_ 51 (d := d_law_box) rfl; exact ⟨_, fd, F, He.glo_ok X G (c.t.d.fact 26 (f := .glo "_law_box") rfl)⟩
  have D_law_draw : Df K mg d_law_draw := by obtain ⟨fd, F⟩ := c.t.d.def_ 52 (d := d_law_draw) rfl; exact ⟨_, fd, F, He.glo_ok X G (c.t.d.fact 27 (f := .glo "_law_draw") rfl)⟩
  have D_law_same : Df K mg d_law_same := by obtain ⟨fd, F⟩ := c.t.d.def_ 53 (d := d_law_same) rfl; exact ⟨_, fd, F, He.glo_ok X G (c.t.d.fact 28 (f := .glo "_law_same") rfl)⟩
  have D_law_pick : Df K mg d_law_pick := by obtain ⟨fd, F⟩ := c.t.d.def_ 54 (d := d_law_pick) rfl; exact ⟨_, fd, F, He.glo_ok X G (c.t.d.fact 29 (f := .glo "_law_pick") rfl)⟩
  have D_law_worth : Df K mg d_law_worth := by obtain ⟨fd, F⟩ := c.t.d.def_ 55 (d := d_law_worth) rfl; exact ⟨_, fd, F, He.glo_ok X G (c.t.d.fact 30 (f := .glo "_law_worth") rfl)⟩
  have D_law_field : Df K mg d_law_field := by obtain ⟨fd, F⟩ := c.t.d.def_ 56 (d := d_law_field) rfl; exact ⟨_, fd, F, He.glo_ok X G (c.t.d.fact 31 (f := .glo "_law_field") rfl)⟩
  have D_law_cells : Df K mg d_law_cells := by obtain ⟨fd, F⟩ := c.t.d.def_ 57 (d := d_law_cells) rfl; exact ⟨_, fd, F, He.glo_ok X G (c.t.d.fact 32 (f := .glo "_law_cells") rfl)⟩
  have D_law_ranges : Df K mg d_law_ranges := by obtain ⟨fd, F⟩ := c.t.d.def_ 58 (d := d_law_ranges) rfl; exact ⟨_, fd, F, He.glo_ok X G (c.t.d.fact 33 (f := .glo "_law_ranges") rfl)⟩
  have D_law_row_of : Df K mg d_law_row_of := by obtain ⟨fd, F⟩ := c.t.d.def_ 59 (d := d_law_row_of) rfl; exact ⟨_, fd, F, He.glo_ok X G (c.t.d.fact 34 (f := .glo "_law_row_of") rfl)⟩
  have D_law_messages : Df K mg d_law_messages := by obtain ⟨fd, F⟩ := c.t.d.def_ 60 (d := d_law_messages) rfl; exact ⟨_, fd, F, He.glo_ok X G (c.t.d.fact 35 (f := .glo "_law_messages") rfl)⟩
  have D_law_some : Df K mg d_law_some := by obtain ⟨fd, F⟩ := c.t.d.def_ 61 (d := d_law_some) rfl; exact ⟨_, fd, F, He.glo_ok X G (c.t.d.fact 36 (f := .glo "_law_some") rfl)⟩
  have D_law_told : Df K mg d_law_told := by obtain ⟨fd, F⟩ := c.t.d.def_ 62 (d := d_law_told) rfl; exact ⟨_, fd, F, He.glo_ok X G (c.t.d.fact 37 (f := .glo "_law_told") rfl)⟩
  have D_law_has : Df K mg d_law_has := by obtain ⟨fd, F⟩ := c.t.d.def_ 63 (d := d_law_has) rfl; exact ⟨_, fd, F, He.glo_ok X G (c.t.d.fact 38 (f := .glo "_law_has") rfl)⟩
  have D_law : Df K mg d_law := by obtain ⟨fd, F⟩ := c.t.d.def_ 64 (d := d_law) rfl; exact ⟨_, fd, F, He.glo_ok X G (c.t.d.fact 39 (f := .glo "law") rfl)⟩
  have B : Blt mg := ⟨He.free_ok X G (c.t.d.fact 40 (f := .free "len") rfl), He.free_ok X G (c.t.d.fact 41 (f := .free "int") rfl), He.free_ok X G (c.t.d.fact 42 (f := .free "range") rfl), He.free_ok X G (c.t.d.fact 43 (f := .free "isinstance") rfl), He.free_ok X G (c.t.d.fact 44 (f := .free "sorted") rfl), He.free_ok X G (c.t.d.fact 45 (f := .free "list") rfl), He.free_ok X G (c.t.d.fact 46 (f := .free "tuple") rfl), He.free_ok X G (c.t.d.fact 47 (f := .free "dict") rfl), He.free_ok X G (c.t.d.fact 48 (f := .free "str") rfl), He.free_ok X G (c.t.d.fact 49 (f := .free "bool") rfl), He.free_ok X G (c.t.d.fact 50 (f := .free "max") rfl), He.free_ok X G (c.t.d.fact 51 (f := .free "min") rfl), He.free_ok X G (c.t.d.fact 52 (f := .free "all") rfl), He.free_ok X G (c.t.d.fact 53 (f := .free "any") rfl), He.free_ok X G (c.t.d.fact 54 (f := .free "sum") rfl), He.free_ok X G (c.t.d.fact 55 (f := .free "ord") rfl), He.free_ok X G (c.t.d.fact 56 (f := .free "enumerate") rfl)⟩
  have B_repr := He.free_ok X G (c.t.d.fact 57 (f := .free "repr") rfl)
  have B_set := He.free_ok X G (c.t.d.fact 58 (f := .free "set") rfl)
  have I_GREATEST_PEER := He.int_ok X G (c.t.d.fact 59 (f := .int "GREATEST_PEER" (7)) rfl)
  have I_GREATEST_COUNT := He.int_ok X G (c.t.d.fact 60 (f := .int "GREATEST_COUNT" (4294967295)) rfl)
  have I_LONGEST_FIELD := He.int_ok X G (c.t.d.fact 61 (f := .int "LONGEST_FIELD" (8)) rfl)
  have I_LONGEST_TEXT := He.int_ok X G (c.t.d.fact 62 (f := .int "LONGEST_TEXT" (20)) rfl)
  have I_LEAST_INTEGER := He.int_ok X G (c.t.d.fact 63 (f := .int "LEAST_INTEGER" (-1000000)) rfl)
  have I_GREATEST_INTEGER := He.int_ok X G (c.t.d.fact 64 (f := .int "GREATEST_INTEGER" (1000000)) rfl)
  have I_GREATEST_CLOCK := He.int_ok X G (c.t.d.fact 65 (f := .int "GREATEST_CLOCK" (4294967295)) rfl)
  have I_NOTHING := He.int_ok X G (c.t.d.fact 66 (f := .int "NOTHING" (0)) rfl)
  have I_INTEGER := He.int_ok X G (c.t.d.fact 67 (f := .int "INTEGER" (1)) rfl)
  have I_TEXT := He.int_ok X G (c.t.d.fact 68 (f := .int "TEXT" (2)) rfl)
  have I_OBJECT := He.int_ok X G (c.t.d.fact 69 (f := .int "OBJECT" (3)) rfl)
  have I_LETTERS := He.str_ok X G (c.t.d.fact 70 (f := .str "LETTERS" "abcdefghijklmnopqrstuvwxyz") rfl)
  have I_FIRST_CODE := He.int_ok X G (c.t.d.fact 71 (f := .int "FIRST_CODE" (97)) rfl)
  have I_LAST_CODE := He.int_ok X G (c.t.d.fact 72 (f := .int "LAST_CODE" (122)) rfl)
  have I_GREATEST_NUMBER := He.int_ok X G (c.t.d.fact 73 (f := .int "GREATEST_NUMBER" (4294967295)) rfl)
  have I_MOST_CHANGES := He.int_ok X G (c.t.d.fact 74 (f := .int "MOST_CHANGES" (65535)) rfl)
  have G_GraphtwinsError := He.glo_ok X G (c.t.d.fact 75 (f := .glo "GraphtwinsError") rfl)
  have G_CodeError := He.glo_ok X G (c.t.d.fact 76 (f := .glo "CodeError") rfl)
  have G_BadPeer := He.glo_ok X G (c.t.d.fact 77 (f := .glo "BadPeer") rfl)
  have G_NoSuchMessage := He.glo_ok X G (c.t.d.fact 78 (f := .glo "NoSuchMessage") rfl)
  have G_State := He.glo_ok X G (c.t.d.fact 79 (f := .glo "State") rfl)
  have CLS_State := He.cls_ok (c.t.d.fact 80 (f := .cls "State") rfl)
  have NOAT_State_cells := He.noat_ok (c.t.d.fact 81 (f := .noat "State" "cells") rfl)
  have MKR_State := He.mkr_ok (c.t.d.fact 82 (f := .mkr "State") rfl)
  have METH_State_take := He.meth_ok (c.t.d.fact 83 (f := .meth "State" "take") rfl)
  have METH_State_value := He.meth_ok (c.t.d.fact 84 (f := .meth "State" "value") rfl)
  have METH_State_stamp := He.meth_ok (c.t.d.fact 85 (f := .meth "State" "stamp") rfl)
  have METH_State_fields := He.meth_ok (c.t.d.fact 86 (f := .meth "State" "fields") rfl)
  have METH_State_names := He.meth_ok (c.t.d.fact 87 (f := .meth "State" "names") rfl)
  have METH_State_changes := He.meth_ok (c.t.d.fact 88 (f := .meth "State" "changes") rfl)
  have G_Reader := He.glo_ok X G (c.t.d.fact 89 (f := .glo "Reader") rfl)
  have CLS_Reader := He.cls_ok (c.t.d.fact 90 (f := .cls "Reader") rfl)
  have NOAT_Reader_octets := He.noat_ok (c.t.d.fact 91 (f := .noat "Reader" "octets") rfl)
  have NOAT_Reader_place := He.noat_ok (c.t.d.fact 92 (f := .noat "Reader" "place") rfl)
  have MKR_Reader := He.mkr_ok (c.t.d.fact 93 (f := .mkr "Reader") rfl)
  have METH_Reader_next_octet := He.meth_ok (c.t.d.fact 94 (f := .meth "Reader" "next_octet") rfl)
  have METH_Reader_next_number := He.meth_ok (c.t.d.fact 95 (f := .meth "Reader" "next_number") rfl)
  have METH_Reader_next_word := He.meth_ok (c.t.d.fact 96 (f := .meth "Reader" "next_word") rfl)
  have METH_Reader_next_plain := He.meth_ok (c.t.d.fact 97 (f := .meth "Reader" "next_plain") rfl)
  have METH_Reader_finish := He.meth_ok (c.t.d.fact 98 (f := .meth "Reader" "finish") rfl)
  have METH_Reader__check_order := He.meth_ok (c.t.d.fact 99 (f := .meth "Reader" "_check_order") rfl)
  have G_Replica := He.glo_ok X G (c.t.d.fact 100 (f := .glo "Replica") rfl)
  have CLS_Replica := He.cls_ok (c.t.d.fact 101 (f := .cls "Replica") rfl)
  have NOAT_Replica_peer := He.noat_ok (c.t.d.fact 102 (f := .noat "Replica" "peer") rfl)
  have NOAT_Replica_clock := He.noat_ok (c.t.d.fact 103 (f := .noat "Replica" "clock") rfl)
  have NOAT_Replica_made := He.noat_ok (c.t.d.fact 104 (f := .noat "Replica" "made") rfl)
  have NOAT_Replica_state := He.noat_ok (c.t.d.fact 105 (f := .noat "Replica" "state") rfl)
  have NOAT_Replica_roots := He.noat_ok (c.t.d.fact 106 (f := .noat "Replica" "roots") rfl)
  have NOAT_Replica_pending := He.noat_ok (c.t.d.fact 107 (f := .noat "Replica" "pending") rfl)
  have NOAT_Replica_messages := He.noat_ok (c.t.d.fact 108 (f := .noat "Replica" "messages") rfl)
  have MKR_Replica := He.mkr_ok (c.t.d.fact 109 (f := .mkr "Replica") rfl)
  have METH_Replica_begin := He.meth_ok (c.t.d.fact 110 (f := .meth "Replica" "begin") rfl)
  have METH_Replica_count := He.meth_ok (c.t.d.fact 111 (f := .meth "Replica" "count") rfl)
  have METH_Replica_send := He.meth_ok (c.t.d.fact 112 (f := .meth "Replica" "send") rfl)
  have METH_Replica_copy_of := He.meth_ok (c.t.d.fact 113 (f := .meth "Replica" "copy_of") rfl)
  have METH_Replica_accept := He.meth_ok (c.t.d.fact 114 (f := .meth "Replica" "accept") rfl)
  have METH_Replica__last_number := He.meth_ok (c.t.d.fact 115 (f := .meth "Replica" "_last_number") rfl)
  have METH_Replica__take := He.meth_ok (c.t.d.fact 116 (f := .meth "Replica" "_take") rfl)
  have G_ROOT := He.glo_ok X G (c.t.d.fact 117 (f := .glo "ROOT") rfl)
  have EX := c.more
  obtain ⟨fd, F⟩ := c.t.d.def_ 64 (d := d_law) rfl
  obtain ⟨_, _, _, gl⟩ := D_law
  have e : f = He.ga K "law" := by
    have h1 := hfa.symm.trans (He.glo_ok X G (c.t.d.fact 39 (f := .glo "law") rfl))
    injection h1 with h1
    injection h1
  subst e
  have ex : exK K = true := EX
  unfold exK at ex
  simp only [Bool.and_eq_true, decide_eq_true_eq] at ex
  obtain ⟨x1, x2, x3, x4, x5, x6, x7⟩ := ex
  have T := errB_ok x1
  have BC := basB_ok x3
  have DE : Dfe K (He.ga K "CodeError") d_CodeError_init := ⟨_, fd_CodeError_init, F_CodeError_init, x5, x6⟩
  have tro : ∀ H, TupAt K H (He.ga K "ROOT") [.int 0, .int 0] := fun H => by
    rcases He.tupB_ok x7 (fun _ => none) with (h | ⟨o, h⟩) | h
    · cases h
    · cases h
    · exact .inr h
  have N0 : Con0 mg := ⟨I_GREATEST_PEER, I_GREATEST_COUNT, I_LONGEST_FIELD, I_LONGEST_TEXT, I_LEAST_INTEGER, I_GREATEST_INTEGER⟩
  have N : ConW mg := ⟨I_GREATEST_PEER, I_GREATEST_COUNT, I_LONGEST_FIELD, I_LONGEST_TEXT, I_LEAST_INTEGER, I_GREATEST_INTEGER, I_GREATEST_CLOCK, I_NOTHING, I_INTEGER, I_TEXT, I_OBJECT, I_FIRST_CODE, I_LAST_CODE, I_GREATEST_NUMBER, I_MOST_CHANGES, I_LETTERS⟩
  have S : RpC K (He.ga K "Replica") := ⟨CLS_Replica, NOAT_Replica_peer, NOAT_Replica_clock, NOAT_Replica_made, NOAT_Replica_state, NOAT_Replica_roots, NOAT_Replica_pending, NOAT_Replica_messages⟩
  have DM1 : Dfm K (He.ga K "Reader") d_Reader_next_octet := ⟨_, fd_Reader_next_octet, F_Reader_next_octet, METH_Reader_next_octet⟩
  have DM2 : Dfm K (He.ga K "Reader") d_Reader_next_number := ⟨_, fd_Reader_next_number, F_Reader_next_number, METH_Reader_next_number⟩
  have DM3 : Dfm K (He.ga K "Reader") d_Reader_next_word := ⟨_, fd_Reader_next_word, F_Reader_next_word, METH_Reader_next_word⟩
  have DM4 : Dfm K (He.ga K "Reader") d_Reader_next_plain := ⟨_, fd_Reader_next_plain, F_Reader_next_plain, METH_Reader_next_plain⟩
  have DM5 : Dfm K (He.ga K "Reader") d_Reader_finish := ⟨_, fd_Reader_finish, F_Reader_finish, METH_Reader_finish⟩
  have DM6 : Dfm K (He.ga K "Reader") d_Reader_check_order := ⟨_, fd_Reader_check_order, F_Reader_check_order, METH_Reader__check_order⟩
  have DI : Dfi K mg (He.ga K "Reader") "Reader" d_Reader_init := ⟨_, fd_Reader_init, F_Reader_init, MKR_Reader, G_Reader⟩
  have R : RdC K (He.ga K "Reader") := ⟨CLS_Reader, NOAT_Reader_octets, NOAT_Reader_place⟩
  have DS1 : Dfm K (He.ga K "State") d_State_take := ⟨_, fd_State_take, F_State_take, METH_State_take⟩
  have DS3 : Dfm K (He.ga K "State") d_State_stamp := ⟨_, fd_State_stamp, F_State_stamp, METH_State_stamp⟩
  have DSI : Dfi K mg (He.ga K "State") "State" d_State_init := ⟨_, fd_State_init, F_State_init, MKR_State, G_State⟩
  have DR1 : Dfm K (He.ga K "Replica") d_Replica_take := ⟨_, fd_Replica_take, F_Replica_take, METH_Replica__take⟩
  have DR2 : Dfm K (He.ga K "Replica") d_Replica_accept := ⟨_, fd_Replica_accept, F_Replica_accept, METH_Replica_accept⟩
  have DR4 : Dfm K (He.ga K "Replica") d_Replica_copy_of := ⟨_, fd_Replica_copy_of, F_Replica_copy_of, METH_Replica_copy_of⟩
  have DRI : Dfi K mg (He.ga K "Replica") "Replica" d_Replica_init := ⟨_, fd_Replica_init, F_Replica_init, MKR_Replica, G_Replica⟩
  refine ⟨fd, fun s v => F.bindsA (ps := ["script"]) (fun _ _ _ _ _ _ us hl => match us, hl with | [_], _ => rfl) s [v] rfl, fun base _ _ => ?_⟩
  have EC := err_CodeError (P := P) (w := w) (base := base) DE T x2 G_CodeError G_GraphtwinsError BC
  have C1 := cal_cell (P := P) (w := w) (base := base) D_law_cell B
  have C2 := cal_row (P := P) (w := w) (base := base) D_law_row B
  have C3 := cal_box D_law_box B C1 C2
  have C4 := cal_draw (P := P) (w := w) (base := base) D_law_draw B
  have C5 := cal_law_pick D_law_pick B C4
  have C6 := cal_fieldD D_law_field C4
  have C7 := cal_worthD D_law_worth C4 C5
  have C10 := cal_law_cells (P := P) (w := w) (base := base) D_law_cells
  have C13 := cal_is_peer (P := P) (w := w) (base := base) D_is_peer N0
  have C15 := cal_is_later (P := P) (w := w) (base := base) D_is_later
  have E1 := cal_number_octets (P := P) (w := w) (base := base) D_number_octets B
  have E2 := cal_word_octets D_word_octets B E1
  have E3 := cal_plain_octets D_plain_octets B N E1 E2
  have E4 := cal_name_octets D_name_octets E1
  have E5 := cal_value_octets D_value_octets B N E4 E3
  have E6 := cal_change_octets D_change_octets E1 E4 E2 E5
  have E7 := cal_check_of (P := P) (w := w) (base := base) D_check_of
  have E8 := cal_message_octets D_message_octets B E1 E6 E7
  have M0 := mki_Reader_init (P := P) (w := w) (base := base) DI R
  have M1 := mth_Reader_next_octet (P := P) (w := w) (mg := mg) (base := base) DM1 B R EC
  have M2 := mth_Reader_next_number DM2 B CLS_Reader M1
  have M6 := mth_Reader_check_order (P := P) (w := w) (mg := mg) (base := base) DM6 B R EC
  have M3 := mth_Reader_next_word DM3 B N CLS_Reader M1 M6
  have M4 := mth_Reader_next_plain DM4 N CLS_Reader M2 M3
  have M5 := mth_Reader_finish (P := P) (w := w) (mg := mg) (base := base) DM5 B R EC
  have CR := cal_reference (P := P) (w := w) (base := base) D_reference
  have R1 := cal_read_name D_read_name N CLS_Reader M1 M2
  have R2 := cal_read_value D_read_value N CLS_Reader M1 M4 R1 CR
  have R3 := cal_read_change D_read_change N CLS_Reader M1 M2 M3 R1 R2
  have R4 := cal_read_message D_read_message B N R M0 M1 M2 M5 R3 E7
  have I1 := mki_State_init (P := P) (w := w) (base := base) DSI CLS_State NOAT_State_cells
  have S2 := mth_State_stamp (P := P) (w := w) (mg := mg) (base := base) DS3 CLS_State NOAT_State_cells
  have S4 := mth_State_take DS1 CLS_State NOAT_State_cells S2 C15
  have I2 := mki_Replica_init DRI S G_ROOT tro C13 I1
  have P1 := mth_Replica_take DR1 B S CLS_State S4
  have P2 := mth_Replica_accept DR2 B S P1
  have P4 := mth_Replica_copy_of (CS := He.ga K "State") DR4 S E8
  have L3 := cal_law_same (P := P) (w := w) (base := base) D_law_same B B_repr
  have Q1 := cal_ranges_of (P := P) (w := w) (base := base) D_ranges_of B B_set
  have Q2 := cal_numbers_without (P := P) (w := w) (base := base) D_numbers_without B
  have Q3 := cal_told (P := P) (w := w) (CS := He.ga K "State") D_told B S N0 Q1
  have Q4 := cal_law_ranges (P := P) (w := w) (base := base) D_law_ranges B B_set
  have Q5 := cal_law_told D_law_told B Q4
  have Q6 := cal_lacking D_lacking B Q2
  have Q7 := cal_numbers_of (P := P) (w := w) (base := base) D_numbers_of B B_set
  have Q8 := cal_answer D_answer S Q3 Q6 P4
  have Q9 := cal_bring D_bring B S Q3 Q6 P2
  have Q10 := cal_law_row_of D_law_row_of B B_set C4 Q4 Q1 Q7 L3
  have Q11 := cal_law_pickI D_law_pick B C4
  have Q12 := cal_law_messages D_law_messages B C4 Q11 C6 C7
  have Q13 := cal_law_some D_law_some B C4
  have Q14 := cal_law_has D_law_has B S CLS_State NOAT_State_cells Q3 Q5 L3 C10
  exact ok_law F B S CLS_State NOAT_State_cells C3 C4 Q10 Q12 I2 Q13 P2 Q14 Q3 Q6 Q8 L3 R4.calm P4 Q9
end GT
open PySem PySem.W PySem.Calls PyProof.Rows
set_option maxRecDepth 100000 in
set_option maxHeartbeats 0 in
theorem PySem.Challenge.cw_graphtwins_k44_ranges_holds : PySem.Challenge.rw_graphtwins_k44_ranges.Holds := by
  w_on; o_law
  refine HandSHeadRun.head_any (r := OpenLaw.row PySem.Challenge.rw_graphtwins_k44_ranges) (q := view (OpenLaw.row PySem.Challenge.rw_graphtwins_k44_ranges).prog [74]) (H := GT.hk) (ob := GT.ob) (M := 6000) (loose := GT.looseN) (d := HandSHeadRun.topDef (OpenLaw.row PySem.Challenge.rw_graphtwins_k44_ranges).prog 74) (kwd := []) GT.ob_eq
    (by kernel_rfl) (fun s => by kernel_rfl) GT.run (by kernel_rfl) (by kernel_rfl) (by kernel_rfl) (by rfl) (by first | assumption | decide +kernel) (by decide +kernel) ⟨rfl, rfl, rfl, rfl, rfl, by decide +kernel⟩ ?hw ?hc
  case hw => w_witness2
  case hc =>
    refine GT.walk_ofG (l := PySem.Challenge.rw_graphtwins_k44_ranges) (n := 63) (k := GT.lv_law) (x := "script") rfl (by decide) (by kernel_rfl) ⟨rfl, by decide, by decide⟩ ?F
    intro w mg fa h Y G hmg0
    obtain ⟨K, KX, c⟩ := Y
    have hmg : mg ("law" : PySem.Str) = some (.ref fa) := by
      have e : (HandSHeadRun.topDef (OpenLaw.row PySem.Challenge.rw_graphtwins_k44_ranges).prog 74).name = ("law" : PySem.Str) := by kernel_rfl
      rw [← e]
      exact hmg0
    obtain ⟨fd, hb, hF⟩ := GT.facts (P := (PySem.Challenge.rw_graphtwins_k44_ranges).prog) (w := w) KX G hmg c
    exact ⟨K, fd, GT.spLaw K, KX, hb, fun H a ns hl _ hS => ⟨a, ns, rfl, hS, fun _ => rfl⟩, hF⟩


