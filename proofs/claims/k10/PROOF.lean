import PyProof.Rows.All
import Wide.All
import OpenK.AllK
import Wide.FinOn
import HandS.ForMost
import HandS.ForExc
import HandS.IsInst
import HandS.TryMany
import HandS.RaiseMore
import HandS.FStr
import HandS.Deep
import HandS.Conv
import HandS.SortInts
import HandS.ExcIs
import HandS.Base
import HandS.Call
import HandS.List
import HandS.Words
import HandS.WordsList
import HandS.SortKw
import HandS.SetFor
import HandS.SortRule
import HandS.Keys
import HandS.Gcd
import KE.KSortKey
import KE.DataMinKey
import HandS.Lambda
import HandS.Nested
import HandS.EndTab
import KE.KLam
import KE.KNestM
import HandS.Walk
import PySem.Challenge.RW_slabroom_k10_whole_every_deed
set_option Elab.async false
set_option linter.all false
set_option maxRecDepth 100000
set_option maxHeartbeats 4000000
/-! Pre: rules that leave the choice of the kind to the reading, and the readings' steps (walk_at "rd"). -/

namespace My
open PySem PySem.Spec PyProof.Rows L2

/-! ### rules whose kind the reading chooses -/
section
variable {X : Cx}
theorem orR {f : Value → Value → Sem Value} {r1 r2 : R2} (h1 : OpR X f r1) (h2 : OpR X f r2) : OpR X f (fun x y H Q => r1 x y H Q ∨ r2 x y H Q) :=
  fun pins s σ H x y v u Q I rx ry q => q.elim (h1 pins s σ H x y v u Q I rx ry) (h2 pins s σ H x y v u Q I rx ry)
theorem orC {f : Value} {r1 r2 : List V → Hp → VK → Prop} (h1 : CallR X f r1) (h2 : CallR X f r2) : CallR X f (fun xs H Q => r1 xs H Q ∨ r2 xs H Q) :=
  fun pins s σ H xs us Q I r q => q.elim (h1 pins s σ H xs us Q I r) (h2 pins s σ H xs us Q I r)
def rAddA : R2 := fun x y H Q => rI0 (fun i j => .int (i + j)) x y H Q ∨ rCat x y H Q
theorem op_addA : OpR X (binaryOp .Add) rAddA := orR op_add op_cat
def rMulA : R2 := fun x y H Q => rI CMul (fun i j => .int (i * j)) x y H Q ∨ rRep x y H Q
theorem op_mulA : OpR X (binaryOp .Mult) rMulA := orR op_mul op_rep
def rSubI : R2 := rI0 fun i j => .int (i - j)
theorem op_subA : OpR X (binaryOp .Sub) rSubI := op_sub
def rDivI : R2 := rI CDivN fun i j => .int (i.fdiv j)
theorem op_divA : OpR X (binaryOp .FloorDiv) rDivI := op_fdivN
def rModI : R2 := rI (fun _ j => j ≠ 0) fun i j => .int (i.fmod j)
theorem op_modA : OpR X (binaryOp .Mod) rModI := op_modN
def rPowI : R2 := rI CPow fun i j => .int (i ^ j.toNat)
theorem op_powA : OpR X (binaryOp .Pow) rPowI := op_pow
def rLtI : R2 := rI0 fun i j => .bl (decide (i < j))
def rLeI : R2 := rI0 fun i j => .bl (decide (i ≤ j))
def rGtI : R2 := rI0 fun i j => .bl (decide (j < i))
def rGeI : R2 := rI0 fun i j => .bl (decide (j ≤ i))
theorem op_ltA : OpR X (compareOp .Lt) rLtI := op_lt
theorem op_leA : OpR X (compareOp .LtE) rLeI := op_le
theorem op_gtA : OpR X (compareOp .Gt) rGtI := op_gt
theorem op_geA : OpR X (compareOp .GtE) rGeI := op_ge
def rEqA (K : PySem.W.Frag) : R2 := fun x y H Q => rEq x y H Q ∨ rEqD K x y H Q
def rNeA (K : PySem.W.Frag) : R2 := fun x y H Q => rNe x y H Q ∨ rNeD K x y H Q
theorem op_eqA (hu : X.A.units + 64 < cLine) : OpR X (compareOp .Eq) (rEqA X.K) := orR op_eq (op_eqD hu)
theorem op_neA (hu : X.A.units + 64 < cLine) : OpR X (compareOp .NotEq) (rNeA X.K) := orR op_ne (op_neD hu)
def rInP (K : PySem.W.Frag) : R2 := fun x y H Q => rIn K false x y H Q ∨ rInD K x y H Q
def rInN (K : PySem.W.Frag) : R2 := fun x y H Q => rIn K true x y H Q ∨ rNotInD K x y H Q
theorem op_inP (hu : X.A.units + 65 < cLine) : OpR X (compareOp .In) (rInP X.K) := orR op_in_seq (op_inD hu)
theorem op_inN (hu : X.A.units + 65 < cLine) : OpR X (compareOp .NotIn) (rInN X.K) := orR op_notIn_seq (op_notInD hu)
def rIsNon : R2 := fun x y H Q => y = .non ∧ Q (.bl (decide (x = .non))) H
def rNotNon : R2 := fun x y H Q => y = .non ∧ Q (.bl (!decide (x = .non))) H
theorem op_isNon : OpR X (compareOp .Is) rIsNon := op_isN
theorem op_notNon : OpR X (compareOp .IsNot) rNotNon := op_notN
def rIxA (K : PySem.W.Frag) : R2 := rIx K
theorem ix_A : IxR X (rIxA X.K) := ix_seq
def rLenA (K : PySem.W.Frag) : List V → Hp → VK → Prop := fun xs H Q => ∃ x n, xs = [x] ∧ LenV K x H n ∧ Q (.int n) H
theorem call_lenA : CallR X (.builtin "len") (rLenA X.K) := call_len
def rAbsI : List V → Hp → VK → Prop := fun xs H Q => ∃ i, xs = [.int i] ∧ Q (.int (if i < 0 then -i else i)) H
theorem call_absA : CallR X (.builtin "abs") rAbsI := call_abs
def rInt1 : List V → Hp → VK → Prop := fun xs H Q => (∃ i, xs = [.int i] ∧ Q (.int i) H) ∨ ∃ k, xs = [.bl k] ∧ Q (.int (if k then 1 else 0)) H
theorem call_intA : CallR X (.type "int") rInt1 := call_int1
def rListA (K : PySem.W.Frag) : List V → Hp → VK → Prop := fun xs H Q => ∃ p ys, xs = [.ref p] ∧ (SqL K H p ys ∨ SqT K H p ys) ∧ ∀ l, H l = none → Q (.ref l) (upd H l (.lst ys))
theorem call_listA : CallR X (.type "list") (rListA X.K) := call_list_of
def rTupA (K : PySem.W.Frag) : List V → Hp → VK → Prop := fun xs H Q => ∃ p ys, xs = [.ref p] ∧ ((SqL K H p ys ∧ ∀ l, H l = none → Q (.ref l) (upd H l (.tup ys))) ∨ (SqT K H p ys ∧ Q (.ref p) H))
theorem call_tupA : CallR X (.type "tuple") (rTupA X.K) := call_tuple_of
def rIndexA (K : PySem.W.Frag) : V → List V → Hp → VK → Prop := fun x xs H Q => rIndex K x xs H Q ∨ rIndexD K x xs H Q
theorem mt_indexA (hu : X.A.units + 65 < cLine) : MtR X "list.index" (rIndexA X.K) := MtR.or mt_index (mt_indexD hu)
def tJoin (ts : List TE) : TE := fun σ H Q => tJs ts Str.empty σ H fun out H1 => Q (.str out) H1
theorem hu65_of {A : Around} {k : Nat} (hr : Room k A) : A.units + 65 < cLine := by have := hr.un; omega
end

/-! ### calls in a try: what is raised is wished for at the caller's slots -/
def tMethS (C : Addr) (m : Str) (sp : Sp) (E : L2.St → XK) (ta : TE) (t : TA) : TE := fun σ H Q => ta σ H fun x H1 => ∃ a dx fs, x = .ref a ∧ H1 a = some (.ins C dx fs) ∧ fs.lookup m = none ∧
  t σ H1 fun vs H2 => sp (x :: vs) H2 Q (E σ)
def tMakeS (C : Addr) (sp : Sp) (E : L2.St → XK) (t : TA) : TE := fun σ H Q => t σ H fun vs H1 => ∀ x dx, H1 x = none → H1 dx = none → dx ≠ x →
  sp (.ref x :: vs) (upd (upd H1 dx (.own x)) x (.ins C dx [])) (fun v H2 => v = .non ∧ Q (.ref x) H2) fun cls d H2 => E σ cls d H2
section
variable {X : Cx} {CX : CXT} {k : Nat} {f C : Addr} {fd : FuncData} {ps : List Str} {sp : Sp} {E : L2.St → XK} {x m : Str} {p pos apos : Pos} {e o : Expr} {es : List Expr} {ta : TE} {t : TA}
theorem pe_methS1 {pl : Sem Bool} (he : PE X o ta) (c : Cls X.K C) (hm : Meth X.K C m f) (F : FnOk X.prog X.w X.K X.mg X.base CX k f fd ps sp) (hr : Room k X.A) (hb : Binds X.K fd ps []) (hx : ∀ σ, PassesAt CX X σ (E σ)) (ha : PA X (e :: es) t)
    (hst : starEach (e :: es) X.env = (false, eval e X.env) :: starEach es X.env := by rfl) (hpl : (backTo pos (starEach es X.env)).any (·.1) = false := by rfl)
    (ht : eval (.Call (.Attribute o m apos) (e :: es) [] pos) X.env = (do
      let ov ← eval o X.env
      standAt apos.atName
      let (f, first) ← holding [ov] (getMethod ov m pl)
      callWith pos f first (backTo pos (starEach (e :: es) X.env)) (backToKw pos (keywordEach [] X.env))) := by rfl) :
    PE X (.Call (.Attribute o m apos) (e :: es) [] pos) (tMethS C m sp E ta t) :=
  ⟨fun pins s σ H Q I h => PySem.W.methodCall_KW (pl := pl) (thn (he.run pins s σ H _ I h) fun u s1 hh => by
    obtain ⟨x, H1, I1, rx, a, dx, fs, ex, ea, l, q⟩ := hh
    subst ex
    obtain rfl : u = Value.ref a := rx
    exact getmeth_ok I1 ea c hm l (PySem.W.callWith_K (first := [.ref a]) (h₀ := X.base) I.ok.mod.kin hm.kp (thn (ha.run pos pins s1 σ H1 _ I1 q) fun us s2 hh2 => by
      obtain ⟨vs, H2, I2, r, q2⟩ := hh2
      exact ⟨I2.kIn, run_fnS (us := .ref a :: us) (vs := .ref a :: vs) F hr hb (hx σ) I2 (.cons rfl r) q2⟩) hst hpl)) ht⟩
theorem pe_methS0 {pl : Sem Bool} (he : PE X o ta) (c : Cls X.K C) (hm : Meth X.K C m f) (F : FnOk X.prog X.w X.K X.mg X.base CX k f fd ps sp) (hr : Room k X.A) (hb : Binds X.K fd ps []) (hx : ∀ σ, PassesAt CX X σ (E σ))
    (ht : eval (.Call (.Attribute o m apos) [] [] pos) X.env = (do
      let ov ← eval o X.env
      standAt apos.atName
      let (f, first) ← holding [ov] (getMethod ov m pl)
      callWith pos f first (backTo pos (starEach [] X.env)) (backToKw pos (keywordEach [] X.env))) := by rfl) :
    PE X (.Call (.Attribute o m apos) [] [] pos) (tMethS C m sp E ta tNil) :=
  ⟨fun pins s σ H Q I h => PySem.W.methodCall_KW (pl := pl) (thn (he.run pins s σ H _ I h) fun u s1 hh => by
    obtain ⟨x, H1, I1, rx, a, dx, fs, ex, ea, l, q⟩ := hh
    subst ex
    obtain rfl : u = Value.ref a := rx
    exact getmeth_ok I1 ea c hm l (PySem.W.callWith_K0 (first := [.ref a]) I1.kIn hm.kp (run_fnS (us := [.ref a]) (vs := [.ref a]) F hr hb (hx σ) I1 (.cons rfl .nil) q))) ht⟩
/-- the new instance's __init__ may raise; what is wished of that is asked of the heap in which the instance stands -/
theorem pe_makeS (M : Mk X.K C f) (F : FnOk X.prog X.w X.K X.mg X.base (L2.CX X.prog X.w) k f fd ps sp) (hr : Room (k + 1) X.A) (hg : Gl X x) (hm : X.mg x = some (.ref C)) (hb : Binds X.K fd ps []) (hx : ∀ σ, PassesAt (L2.CX X.prog X.w) X σ (E σ))
    (ha : PA X (e :: es) t) (hdb : (x == ("__debug__" : Str)) = false := by decide) (he : starEach (e :: es) X.env = (false, eval e X.env) :: starEach es X.env := by rfl) (hpl : (backTo pos (starEach es X.env)).any (·.1) = false := by rfl) :
    PE X (.Call (.Name x p) (e :: es) [] pos) (tMakeS C sp E t) :=
  ⟨fun pins s σ H Q I h => wpAny_Call_Name_kw (ld_glob I hg hm (PySem.W.callWith_K (h₀ := X.base) I.ok.mod.kin M.kp (thn (ha.run pos pins s σ H _ I h) fun us s1 hh => by
    obtain ⟨vs, H1, I1, r, q⟩ := hh
    refine ⟨I1.kIn, ?_⟩
    have hq := q (s1.heap.objs.size + 1) s1.heap.objs.size (I1.hok.fresh (Nat.le_succ _)) (I1.hok.fresh (Nat.le_refl _)) (Nat.ne_of_lt (Nat.lt_succ_self _))
    have I2 := Inv.made (C := C) I1
    have r2 : Vals (V.ref (s1.heap.objs.size + 1) :: vs) (Value.ref (s1.heap.objs.size + 1) :: us) := .cons rfl r
    have hl : (Value.ref (s1.heap.objs.size + 1) :: us).length = ps.length := by rw [← r2.length]; exact F.len _ _ _ _ hq
    have hbb := hb _ (Value.ref (s1.heap.objs.size + 1) :: us) I2.kIn (by rw [List.append_nil]; exact hl)
    rw [List.append_nil] at hbb
    refine wpAny_call (L2.make_map (f := f) I1.kIn M.makes M.init (beq_iff_eq.mp M.fn) (codeAny_mono (F.run _ X.stack _ _ ⟨Value.ref (s1.heap.objs.size + 1) :: us, []⟩ _ _ _ _ (hr.make C us [])
      (I2.env0.make C us []) hbb r2 hq) fun r s' hq' => ?_))
    cases r with
    | error e => exact hx σ pins _ _ e s' I2 hq'
    | ok fl =>
      cases fl with
      | ret u =>
        obtain ⟨v, H', I3, rv, ev, q3⟩ := I2.after hq'
        subst ev
        exact ⟨rv, ⟨V.ref (s1.heap.objs.size + 1), H', I3, rfl, q3⟩⟩
      | next => exact False.elim hq'
      | brk => exact False.elim hq'
      | cont => exact False.elim hq') he hpl) hdb)⟩
end
/-- what an except clause says of a class -/
theorem exm_mk {K : PySem.W.Frag} {c d : Value} {S : Addr} {b : Bool} (e : d = .ref S) (h1 : PySem.W.subIn K d (.type "BaseException") = some true) (h2 : PySem.W.isClsIn K S = true) (h3 : PySem.W.typeIn K d = some (.type "type")) (h4 : PySem.W.subIn K c d = some b) :
    PySem.W.exmOne K c d = some b := by
  subst e
  have e1 : (PySem.W.subIn K (.ref S) (.type "BaseException") == some true) = true := by rw [h1]; rfl
  have e2 : ((PySem.W.clsIn K S).isSome && PySem.W.typeIn K (.ref S) == some (.type "type")) = true := by
    rw [show (PySem.W.clsIn K S).isSome = true from h2, h3]; rfl
  unfold PySem.W.exmOne
  rw [if_pos e1]
  show (if ((PySem.W.clsIn K S).isSome && PySem.W.typeIn K (.ref S) == some (.type "type")) = true then PySem.W.subIn K c (.ref S) else none) = some b
  rw [if_pos e2]
  exact h4

/-- isinstance of the exception that a suite holds -/
def rIsEx (K : PySem.W.Frag) (cls : Value) (d : Option Addr) (a : Addr) : List V → Hp → VK → Prop := fun xs H Q => ∃ D, cls = .ref D ∧ d = none ∧ ExcC K D ∧ rIsE K D a xs H Q
theorem call_isEx {X : Cx} {a : Addr} {cls : Value} {d : Option Addr} {oe : Obj} {pn : List (Addr × Obj)} (hz : Zc cls d oe) (hf : ∃ vs, oe.data = .fields vs) : CallR (X.suite a ((a, oe) :: pn)) (.builtin "isinstance") (rIsEx X.K cls d a) := by
  intro pins s σ H xs us Q I r h
  obtain ⟨D, rfl, rfl, c, h⟩ := h
  exact call_isE c hz hf pins s σ H xs us Q I r h
theorem kit_mk {K : PySem.W.Frag} {D S : Addr} {b : Bool} (h2 : PySem.W.isClsIn K S = true) (h3 : PySem.W.typeIn K (.ref S) = some (.type "type")) (h4 : PySem.W.subIn K (.ref D) (.ref S) = some b) (h5 : PySem.W.subIn K (.ref D) (.ref D) = some true) :
    PySem.W.kitOne K (.ref D) (.ref S) = some b := by
  unfold PySem.W.kitOne
  by_cases e : D = S
  · subst e
    rw [h5] at h4
    rw [if_pos (by simp)]
    exact h4
  · rw [if_neg (by simp [e])]
    have e2 : ((PySem.W.clsIn K S).isSome && PySem.W.typeIn K (.ref S) == some (.type "type")) = true := by
      rw [show (PySem.W.clsIn K S).isSome = true from h2, h3]; rfl
    show (if ((PySem.W.clsIn K S).isSome && PySem.W.typeIn K (.ref S) == some (.type "type")) = true then PySem.W.subIn K (.ref D) (.ref S) else none) = some b
    rw [if_pos e2]
    exact h4
theorem kit_ve {K : PySem.W.Frag} {D : Addr} (h : PySem.W.subIn K (.ref D) (.type "ValueError") = some true) : PySem.W.kitOne K (.ref D) (.type "ValueError") = some true := by
  unfold PySem.W.kitOne
  rw [if_neg (by simp)]
  have e : PySem.W.kitMeta "ValueError" = true := by decide +kernel
  show (if PySem.W.kitMeta "ValueError" = true then PySem.W.subIn K (.ref D) (.type "ValueError") else none) = some true
  rw [if_pos e]
  exact h
/-! ### readings, one step each -/
section
variable {K : PySem.W.Frag} {σ : L2.St} {H : Hp} {Q : VK} {D : Ends} {x y v : V} {ta tb tc : TE} {t u : TT} {ts tu : TS} {i j : Int} {b : Bool} {P R : Prop}
theorem r_var {n : Nat} (h : σ[n]? = some (some v)) (q : Q v H) : tVar n σ H Q := ⟨v, h, q⟩
theorem r_c (q : Q v H) : tC v σ H Q := q
theorem r_op {r : R2} (h : ta σ H fun x H1 => tb σ H1 fun y H2 => r x y H2 Q) : tOp r ta tb σ H Q := h
theorem r_un {r : V → Hp → VK → Prop} (h : ta σ H fun x H1 => r x H1 Q) : tUn r ta σ H Q := h
theorem r_neg (q : Q (.int (-i)) H) : rU (fun i => .int (-i)) (.int i) H Q := ⟨i, rfl, q⟩
theorem r_add (q : Q (.int (i + j)) H) : rAddA (.int i) (.int j) H Q := .inl ⟨i, j, rfl, rfl, q⟩
theorem r_cat {l m : Addr} {xs ys : List V} (h1 : H l = some (.lst xs)) (h2 : H m = some (.lst ys)) (hz : xs.length + ys.length ≤ sizeLine) (q : ∀ p, H p = none → Q (.ref p) (upd H p (.lst (xs ++ ys)))) : rAddA (.ref l) (.ref m) H Q :=
  .inr ⟨l, m, xs, ys, rfl, rfl, h1, h2, hz, q⟩
theorem r_sub (q : Q (.int (i - j)) H) : rSubI (.int i) (.int j) H Q := ⟨i, j, rfl, rfl, q⟩
theorem r_mul (h : (-(2 ^ 64) < i ∧ i < 2 ^ 64) ∨ (-(2 ^ 64) < j ∧ j < 2 ^ 64)) (q : Q (.int (i * j)) H) : rMulA (.int i) (.int j) H Q := .inl ⟨i, j, rfl, rfl, h, q⟩
theorem r_rep {l : Addr} {k : Int} {xs : List V} (h : H l = some (.lst xs)) (h1 : 0 ≤ k) (h2 : k < 2 ^ 24) (h3 : xs.length * k.toNat ≤ sizeLine) (q : ∀ p, H p = none → Q (.ref p) (upd H p (.lst (List.replicate k.toNat xs).flatten))) : rMulA (.ref l) (.int k) H Q :=
  .inr ⟨l, k, xs, rfl, rfl, h, by omega, by omega, h3, q⟩
theorem r_mod (h : 0 < j) (q : Q (.int (i % j)) H) : rModI (.int i) (.int j) H Q :=
  ⟨i, j, rfl, rfl, by omega, by show Q (.int (i.fmod j)) H; rw [Int.fmod_eq_emod_of_nonneg i (by omega)]; exact q⟩
theorem r_div (h : 0 < j) (h2 : j < 1073741824) (q : Q (.int (i / j)) H) : rDivI (.int i) (.int j) H Q :=
  ⟨i, j, rfl, rfl, ⟨by omega, by omega⟩, by show Q (.int (i.fdiv j)) H; rw [Int.fdiv_eq_ediv_of_nonneg i (by omega)]; exact q⟩
theorem r_pow (h : 0 ≤ j ∧ j ≤ 1000000 ∧ i.natAbs < 2 ^ 64) (q : Q (.int (i ^ j.toNat)) H) : rPowI (.int i) (.int j) H Q := ⟨i, j, rfl, rfl, h, q⟩
theorem r_lt (q : Q (.bl (decide (i < j))) H) : rLtI (.int i) (.int j) H Q := ⟨i, j, rfl, rfl, q⟩
theorem r_le (q : Q (.bl (decide (i ≤ j))) H) : rLeI (.int i) (.int j) H Q := ⟨i, j, rfl, rfl, q⟩
theorem r_gt (q : Q (.bl (decide (j < i))) H) : rGtI (.int i) (.int j) H Q := ⟨i, j, rfl, rfl, q⟩
theorem r_ge (q : Q (.bl (decide (j ≤ i))) H) : rGeI (.int i) (.int j) H Q := ⟨i, j, rfl, rfl, q⟩
theorem dec_int : decide (V.int i = V.int j) = decide (i = j) := by
  by_cases h : i = j
  · rw [h]; simp
  · rw [decide_eq_false h, decide_eq_false (fun e => h (V.int.inj e))]
theorem r_eqI (q : Q (.bl (decide (i = j))) H) : rEqA K (.int i) (.int j) H Q := .inl ⟨rfl, by rw [dec_int]; exact q⟩
theorem r_neI (q : Q (.bl (!decide (i = j))) H) : rNeA K (.int i) (.int j) H Q := .inl ⟨rfl, by rw [dec_int]; exact q⟩
theorem dec_bl {b c : Bool} : decide (V.bl b = V.bl c) = decide (b = c) := by
  cases b <;> cases c <;> rfl
theorem r_eqB {b c : Bool} (q : Q (.bl (decide (b = c))) H) : rEqA K (.bl b) (.bl c) H Q := .inl ⟨rfl, by rw [dec_bl]; exact q⟩
theorem r_neB {b c : Bool} (q : Q (.bl (!decide (b = c))) H) : rNeA K (.bl b) (.bl c) H Q := .inl ⟨rfl, by rw [dec_bl]; exact q⟩
theorem dpall_ints : ∀ ns : List Int, DpAll K H (ns.map V.int) (ns.map PyData.int)
  | [] => .nil
  | n :: ns => .cons (.int n) (dpall_ints ns)
theorem dp_ints {a : Addr} {ns : List Int} (h : SqL K H a (ns.map V.int)) : Dp K H (.ref a) (.list (ns.map PyData.int)) := .lst h (dpall_ints ns)
theorem shaped_ints (ns : List Int) : SeqAt.shaped (.list (ns.map PyData.int)) = true := PySem.W.ke_shaped_ints ns
theorem eqv_ints (ns ms : List Int) : PyData.eqv (.list (ns.map PyData.int)) (.list (ms.map PyData.int)) = decide (ns = ms) := by
  rw [← PySem.W.ked_eqvAll ns ms]
  simp only [PyData.eqv]
theorem r_eqL {a c : Addr} {ns ms : List Int} (h1 : SqL K H a (ns.map V.int)) (h2 : SqL K H c (ms.map V.int)) (q : Q (.bl (decide (ns = ms))) H) : rEqA K (.ref a) (.ref c) H Q :=
  .inr ⟨_, _, dp_ints h1, dp_ints h2, shaped_ints ns, shaped_ints ms, by rw [eqv_ints]; exact q⟩
theorem r_neL {a c : Addr} {ns ms : List Int} (h1 : SqL K H a (ns.map V.int)) (h2 : SqL K H c (ms.map V.int)) (q : Q (.bl (!decide (ns = ms))) H) : rNeA K (.ref a) (.ref c) H Q :=
  .inr ⟨_, _, dp_ints h1, dp_ints h2, shaped_ints ns, shaped_ints ms, by rw [eqv_ints]; exact q⟩
theorem inV_ints (x : Int) (ns : List Int) : inV (.int x) (ns.map V.int) = decide (x ∈ ns) := by
  unfold inV
  induction ns with
  | nil => rfl
  | cons n ns ih =>
    rw [List.map_cons, List.any_cons, ih]
    show (n == x || decide (x ∈ ns)) = decide (x ∈ n :: ns)
    by_cases h : n = x
    · subst h; simp
    · have h' : x ≠ n := fun e => h e.symm
      simp [h, h']
theorem flat_ints (ns : List Int) : (ns.map V.int).all flatV = true := by
  rw [List.all_eq_true]
  intro v hv
  obtain ⟨n, _, rfl⟩ := List.mem_map.mp hv
  rfl
theorem r_inI {a : Addr} {x : Int} {ns : List Int} (h : SqL K H a (ns.map V.int)) (q : Q (.bl (decide (x ∈ ns))) H) : rInP K (.int x) (.ref a) H Q :=
  .inl ⟨a, _, rfl, .inl h, rfl, flat_ints ns, by rw [inV_ints]; exact q⟩
theorem r_ninI {a : Addr} {x : Int} {ns : List Int} (h : SqL K H a (ns.map V.int)) (q : Q (.bl (!decide (x ∈ ns))) H) : rInN K (.int x) (.ref a) H Q :=
  .inl ⟨a, _, rfl, .inl h, rfl, flat_ints ns, by rw [inV_ints]; exact q⟩
theorem r_isN (q : Q (.bl (decide (x = .non))) H) : rIsNon x .non H Q := ⟨rfl, q⟩
theorem r_notN (q : Q (.bl (!decide (x = .non))) H) : rNotNon x .non H Q := ⟨rfl, q⟩
theorem r_ixL {a : Addr} {xs : List V} {n : Nat} (h : SqL K H a xs) (e : i = (n : Int)) (ha : xs[n]? = some v) (q : Q v H) : rIxA K (.ref a) (.int i) H Q :=
  .inl ⟨a, xs, i, v, rfl, rfl, h, at_of e ha, q⟩
theorem r_ixT {a : Addr} {xs : List V} {n : Nat} (h : SqT K H a xs) (e : i = (n : Int)) (ha : xs[n]? = some v) (q : Q v H) : rIxA K (.ref a) (.int i) H Q :=
  .inr (.inl ⟨a, xs, i, v, rfl, rfl, h, at_of e ha, q⟩)
-- calls of built-ins
theorem r_cb {r : List V → Hp → VK → Prop} {tA : TA} (h : tA σ H fun vs H1 => r vs H1 Q) : tCB r tA σ H Q := h
theorem r_cons {tA : TA} {QA : List V → Hp → Prop} (h : ta σ H fun x H1 => tA σ H1 fun xs H2 => QA (x :: xs) H2) : tCons ta tA σ H QA := h
theorem r_nil {QA : List V → Hp → Prop} (q : QA [] H) : tNil σ H QA := q
theorem r_lenL {a : Addr} {xs : List V} (h : SqL K H a xs) (q : Q (.int xs.length) H) : rLenA K [.ref a] H Q := ⟨_, _, rfl, .inl ⟨xs, h, rfl⟩, q⟩
theorem r_lenT {a : Addr} {xs : List V} (h : SqT K H a xs) (q : Q (.int xs.length) H) : rLenA K [.ref a] H Q := ⟨_, _, rfl, .inr ⟨xs, h, rfl⟩, q⟩
theorem r_abs (q : Q (.int (if i < 0 then -i else i)) H) : rAbsI [.int i] H Q := ⟨i, rfl, q⟩
theorem r_intI (q : Q (.int i) H) : rInt1 [.int i] H Q := .inl ⟨i, rfl, q⟩
theorem r_intB (q : Q (.int (if b then 1 else 0)) H) : rInt1 [.bl b] H Q := .inr ⟨b, rfl, q⟩
theorem r_listL {a : Addr} {xs : List V} (h : SqL K H a xs) (q : ∀ l, H l = none → Q (.ref l) (upd H l (.lst xs))) : rListA K [.ref a] H Q := ⟨a, xs, rfl, .inl h, q⟩
theorem r_isi {t : Value} {n : String} (h : TyX K H x t) (k : PySem.W.kitOne K t (.type n) = some b) (q : Q (.bl b) H) : rIsi K [x, .ty n] H Q := ⟨x, .ty n, t, .type n, b, rfl, .ty n, h, k, q⟩
theorem isi_II (q : Q (.bl true) H) : rIsi K [.int i, .ty "int"] H Q := r_isi (.base (.int i)) (kit_ty (by decide +kernel)) q
theorem isi_IB (q : Q (.bl false) H) : rIsi K [.int i, .ty "bool"] H Q := r_isi (.base (.int i)) (kit_ty (by decide +kernel)) q
theorem isi_BI (q : Q (.bl true) H) : rIsi K [.bl b, .ty "int"] H Q := r_isi (.base (.bl b)) (kit_ty (by decide +kernel)) q
theorem isi_BB (q : Q (.bl true) H) : rIsi K [.bl b, .ty "bool"] H Q := r_isi (.base (.bl b)) (kit_ty (by decide +kernel)) q
theorem isi_SI {z : Str} (q : Q (.bl false) H) : rIsi K [.str z, .ty "int"] H Q := r_isi (.base (.str z)) (kit_ty (by decide +kernel)) q
theorem isi_SB {z : Str} (q : Q (.bl false) H) : rIsi K [.str z, .ty "bool"] H Q := r_isi (.base (.str z)) (kit_ty (by decide +kernel)) q
theorem isi_SL {z : Str} (q : Q (.bl false) H) : rIsi K [.str z, .ty "list"] H Q := r_isi (.base (.str z)) (kit_ty (by decide +kernel)) q
theorem isi_NI (q : Q (.bl false) H) : rIsi K [.non, .ty "int"] H Q := r_isi (.base .non) (kit_ty (by decide +kernel)) q
theorem isi_NB (q : Q (.bl false) H) : rIsi K [.non, .ty "bool"] H Q := r_isi (.base .non) (kit_ty (by decide +kernel)) q
theorem isi_NL (q : Q (.bl false) H) : rIsi K [.non, .ty "list"] H Q := r_isi (.base .non) (kit_ty (by decide +kernel)) q
theorem isi_LL {a : Addr} {xs : List V} (h : H a = some (.lst xs)) (q : Q (.bl true) H) : rIsi K [.ref a, .ty "list"] H Q := r_isi (.base (.lst h)) (kit_ty (by decide +kernel)) q
theorem isi_TL {a : Addr} {xs : List V} (h : H a = some (.tup xs)) (q : Q (.bl false) H) : rIsi K [.ref a, .ty "list"] H Q := r_isi (.base (.tup h)) (kit_ty (by decide +kernel)) q
theorem isi_TT {a : Addr} {xs : List V} (h : H a = some (.tup xs)) (q : Q (.bl true) H) : rIsi K [.ref a, .ty "tuple"] H Q := r_isi (.base (.tup h)) (kit_ty (by decide +kernel)) q
theorem r_isEx {D a C : Addr} (c : ExcC K D) (k : PySem.W.kitOne K (.ref D) (.ref C) = some b) (q : Q (.bl b) H) : rIsEx K (.ref D) none a [.ref a, .ref C] H Q := ⟨D, rfl, rfl, c, .ref C, .ref C, b, rfl, fun _ r => r, k, q⟩
theorem r_isExV {D a : Addr} (c : ExcC K D) (k : PySem.W.kitOne K (.ref D) (.type "ValueError") = some b) (q : Q (.bl b) H) : rIsEx K (.ref D) none a [.ref a, .ty "ValueError"] H Q := ⟨D, rfl, rfl, c, .ty "ValueError", .type "ValueError", b, rfl, fun _ r => r, k, q⟩
-- displays, fields
theorem r_tup {tA : TA} (h : tA σ H fun xs H1 => xs.length ≤ sizeLine ∧ ∀ p, H1 p = none → Q (.ref p) (upd H1 p (.tup xs))) : tTup tA σ H Q := h
theorem r_lst {tA : TA} (h : tA σ H fun xs H1 => xs.length ≤ sizeLine ∧ ∀ p, H1 p = none → Q (.ref p) (upd H1 p (.lst xs))) : tLst tA σ H Q := h
theorem r_fld {f : Str} (h : ta σ H fun x H1 => ∃ a C dx fs v, x = .ref a ∧ H1 a = some (.ins C dx fs) ∧ Cls K C ∧ NoAttr K C f ∧ fs.lookup f = some v ∧ Q v H1) : tFld K ta f σ H Q := h
theorem r_fldR {a C dx : Addr} {fs : List (Str × V)} {f : Str} {Q' : V → Prop} (h : H a = some (.ins C dx fs)) (c : Cls K C) (n : NoAttr K C f) (l : fs.lookup f = some v) (q : Q' v) :
    ∃ a' C dx fs v, V.ref a = .ref a' ∧ H a' = some (.ins C dx fs) ∧ Cls K C ∧ NoAttr K C f ∧ fs.lookup f = some v ∧ Q' v := ⟨a, C, dx, fs, v, rfl, h, c, n, l, q⟩
theorem cut_take {xs : List V} {k : Nat} (h : k ≤ xs.length) : cutV xs none (some (k : Int)) = xs.take k := by
  unfold cutV
  rw [HT.sIx_none, HT.sIx_nat, Nat.min_eq_left h, List.drop_zero, Nat.sub_zero]
theorem cut_drop {xs : List V} {k : Nat} (h : k ≤ xs.length) : cutV xs (some (k : Int)) none = xs.drop k := by
  unfold cutV
  rw [HT.sIx_none, HT.sIx_nat, Nat.min_eq_left h, List.take_of_length_le (by rw [List.length_drop]; exact Nat.le_refl _)]
theorem r_sl {r : V → Option Int → Option Int → Hp → VK → Prop} {tl th : TO} (h : ta σ H fun x H1 => tl σ H1 fun l H2 => th σ H2 fun u H3 => r x l u H3 Q) : tSl r ta tl th σ H Q := h
theorem r_noPart {QO : Option Int → Hp → Prop} (q : QO none H) : tNoPart σ H QO := q
theorem r_part {QO : Option Int → Hp → Prop} (h : ta σ H fun x H1 => ∃ i, x = .int i ∧ QO (some i) H1) : tPart ta σ H QO := h
theorem r_intE {f : Int → Prop} (q : f i) : ∃ k, V.int i = .int k ∧ f k := ⟨i, rfl, q⟩
theorem r_slTake {l : Addr} {xs : List V} {k : Nat} (h : SqL K H l xs) (e : i = (k : Int)) (hk : k ≤ xs.length) (q : ∀ p, H p = none → Q (.ref p) (upd H p (.lst (xs.take k)))) : rSlL K (.ref l) none (some i) H Q :=
  ⟨l, xs, rfl, h, fun p hp => by rw [e, cut_take hk]; exact q p hp⟩
theorem r_slDrop {l : Addr} {xs : List V} {k : Nat} (h : SqL K H l xs) (e : i = (k : Int)) (hk : k ≤ xs.length) (q : ∀ p, H p = none → Q (.ref p) (upd H p (.lst (xs.drop k)))) : rSlL K (.ref l) (some i) none H Q :=
  ⟨l, xs, rfl, h, fun p hp => by rw [e, cut_drop hk]; exact q p hp⟩
-- truth
theorem r_notV (h : ta σ H fun x H1 => ∃ c, x = .bl c ∧ Q (.bl (!c)) H1) : tNotV ta σ H Q := h
theorem r_blV {f : Bool → Prop} (q : f b) : ∃ c, V.bl b = .bl c ∧ f c := ⟨b, rfl, q⟩
theorem r_andV (h : ta σ H fun x H1 => ∃ c, x = .bl c ∧ if c = true then tb σ H1 Q else Q (.bl false) H1) : tAndV ta tb σ H Q := h
theorem r_orV (h : ta σ H fun x H1 => ∃ c, x = .bl c ∧ if c = true then Q (.bl true) H1 else tb σ H1 Q) : tOrV ta tb σ H Q := h
theorem r_test {QB : Bool → Hp → Prop} (h : ta σ H fun x H' => ∃ k, x = .bl k ∧ QB k H') : tTest ta σ H QB := h
theorem r_B {QB : Bool → Hp → Prop} (h : ta σ H fun x H' => ∃ k, x = .bl k ∧ QB k H') : tB ta σ H QB := h
theorem r_not {QB : Bool → Hp → Prop} (h : t σ H fun c H1 => QB (!c) H1) : tNot t σ H QB := h
theorem r_and {QB : Bool → Hp → Prop} (h : t σ H fun c H1 => if c = true then u σ H1 QB else QB false H1) : tAnd t u σ H QB := h
theorem r_or {QB : Bool → Hp → Prop} (h : t σ H fun c H1 => if c = true then QB true H1 else u σ H1 QB) : tOr t u σ H QB := h
theorem r_if (h : t σ H fun c H1 => if c = true then ta σ H1 Q else tb σ H1 Q) : tIf t ta tb σ H Q := h
theorem r_ifS (h : t σ H fun c H1 => if c = true then ts D σ H1 else tu D σ H1) : tIfS t ts tu D σ H := h
theorem r_chain {r r' : R2} (h : ta σ H fun x H1 => tb σ H1 fun y H2 => r x y H2 fun z H3 => ∃ k, z = .bl k ∧ if k = true then tc σ H3 fun w H4 => r' y w H4 Q else Q (.bl false) H3) : tChain r r' ta tb tc σ H Q := by
  unfold tChain
  exact h
-- statements
theorem r_seq (h : ts ⟨tu D, D.rt, D.bk, D.ct⟩ σ H) : tSeq ts tu D σ H := h
theorem r_asg {g : TG} (h : ta σ H fun x H1 => g x σ H1 D.nx) : tAsg ta g D σ H := h
theorem r_name {n : Nat} {R : L2.St → Hp → Prop} (h : R (σ.set n (some v)) H) : gName n v σ H R := h
theorem r_next (h : D.nx σ H) : tNext D σ H := h
theorem r_ret (h : ta σ H D.rt) : tRet ta D σ H := h
theorem r_retN (h : D.rt .non H) : tRetN D σ H := h
theorem r_drop (h : ta σ H fun _ H1 => D.nx σ H1) : tDrop ta D σ H := h
theorem r_nx {a c d : L2.St → Hp → Prop} {e : VK} (h : a σ H) : (Ends.mk a e c d).nx σ H := h
theorem r_rt {a c d : L2.St → Hp → Prop} {e : VK} (h : e v H) : (Ends.mk a e c d).rt v H := h
theorem r_bk {a c d : L2.St → Hp → Prop} {e : VK} (h : c σ H) : (Ends.mk a e c d).bk σ H := h
theorem r_ct {a c d : L2.St → Hp → Prop} {e : VK} (h : d σ H) : (Ends.mk a e c d).ct σ H := h
theorem r_break (h : D.bk σ H) : tBreak D σ H := h
theorem r_cont (h : D.ct σ H) : tCont D σ H := h
theorem r_sfld {f : Str} {tv : TE} (h : tv σ H fun y H1 => ta σ H1 fun x H2 => ∃ a C dx fs, x = .ref a ∧ H2 a = some (.ins C dx fs) ∧ Cls K C ∧ NoAttr K C f ∧ fs.length < 1000 ∧ D.nx σ (upd H2 a (.ins C dx (putF f y fs)))) : sFld K ta tv f D σ H := h
theorem r_sfldR {a C dx : Addr} {fs : List (Str × V)} {f : Str} (h : H a = some (.ins C dx fs)) (c : Cls K C) (n : NoAttr K C f) (l : fs.length < 1000) (q : P) (e : P → D.nx σ (upd H a (.ins C dx (putF f y fs)))) :
    ∃ a' C dx fs, V.ref a = .ref a' ∧ H a' = some (.ins C dx fs) ∧ Cls K C ∧ NoAttr K C f ∧ fs.length < 1000 ∧ D.nx σ (upd H a' (.ins C dx (putF f y fs))) := ⟨a, C, dx, fs, rfl, h, c, n, l, e q⟩
theorem r_append {l : Addr} {xs : List V} (h : H l = some (.lst xs)) (hz : xs.length < sizeLine) (q : Q .non (upd H l (.lst (xs ++ [y])))) : rAppend (.ref l) [y] H Q := ⟨l, xs, y, rfl, rfl, h, hz, q⟩
theorem r_bm {T : String} {r : V → List V → Hp → VK → Prop} {tA : TA} (h : ta σ H fun x H1 => tyV K T x H1 ∧ tA σ H1 fun xs H2 => r x xs H2 Q) : tBM K T r ta tA σ H Q := h
theorem r_bm0 {T : String} {r : V → List V → Hp → VK → Prop} (h : ta σ H fun x H1 => tyV K T x H1 ∧ r x [] H1 Q) : tBM0 K T r ta σ H Q := h
theorem ty_list {l : Addr} {xs : List V} (h : SqL K H l xs) : tyV K "list" (.ref l) H := .inl ⟨rfl, xs, h⟩
-- own defs
theorem r_call {sp : Sp} {E : XK} {tA : TA} (h : tA σ H fun vs H1 => sp vs H1 Q E) : tCall sp [] E tA σ H Q := by
  unfold tCall
  have e : (fun vs H1 => sp (vs ++ []) H1 Q E) = fun vs H1 => sp vs H1 Q E := by
    funext vs H1
    rw [List.append_nil]
  rw [e]
  exact h
theorem r_callS {sp : Sp} {E : L2.St → XK} {tA : TA} (h : tA σ H fun vs H1 => sp vs H1 Q (E σ)) : tCallS sp E tA σ H Q := h
theorem r_meth {C : Addr} {m : Str} {sp : Sp} {E : XK} {tA : TA} (h : ta σ H fun x H1 => ∃ a dx fs, x = .ref a ∧ H1 a = some (.ins C dx fs) ∧ fs.lookup m = none ∧ tA σ H1 fun vs H2 => sp (x :: vs) H2 Q E) : tMeth C m sp [] E ta tA σ H Q := by
  unfold tMeth
  simp only [List.append_nil]
  exact h
theorem r_methS {C : Addr} {m : Str} {sp : Sp} {E : L2.St → XK} {tA : TA} (h : ta σ H fun x H1 => ∃ a dx fs, x = .ref a ∧ H1 a = some (.ins C dx fs) ∧ fs.lookup m = none ∧ tA σ H1 fun vs H2 => sp (x :: vs) H2 Q (E σ)) : tMethS C m sp E ta tA σ H Q := h
theorem r_recv {C a dx : Addr} {fs : List (Str × V)} {m : Str} (h : H a = some (.ins C dx fs)) (l : fs.lookup m = none) (q : P) : ∃ a' dx fs, V.ref a = .ref a' ∧ H a' = some (.ins C dx fs) ∧ fs.lookup m = none ∧ P := ⟨a, dx, fs, rfl, h, l, q⟩
theorem r_make {C : Addr} {sp : Sp} {E : XK} {tA : TA} (h : tA σ H fun vs H1 => ∀ x dx, H1 x = none → H1 dx = none → dx ≠ x → sp (.ref x :: vs) (upd (upd H1 dx (.own x)) x (.ins C dx [])) (fun v H2 => v = .non ∧ Q (.ref x) H2) E) : tMake C sp [] E tA σ H Q := by
  unfold tMake
  simp only [List.append_nil]
  exact h
theorem r_makeS {C : Addr} {sp : Sp} {E : L2.St → XK} {tA : TA} (h : tA σ H fun vs H1 => ∀ x dx, H1 x = none → H1 dx = none → dx ≠ x → sp (.ref x :: vs) (upd (upd H1 dx (.own x)) x (.ins C dx [])) (fun v H2 => v = .non ∧ Q (.ref x) H2) (E σ)) : tMakeS C sp E tA σ H Q := h
-- the ways
theorem r_ifT (h : P) : if true = true then P else R := by rw [if_pos rfl]; exact h
theorem r_ifF (h : R) : if false = true then P else R := by rw [if_neg Bool.false_ne_true]; exact h
theorem r_ifd {p : Prop} [Decidable p] (h1 : p → P) (h2 : ¬ p → R) : if decide p = true then P else R := by
  by_cases h : p
  · rw [if_pos (decide_eq_true h)]; exact h1 h
  · rw [if_neg (by simpa using h)]; exact h2 h
theorem r_ifnd {p : Prop} [Decidable p] (h1 : ¬ p → P) (h2 : p → R) : if (!decide p) = true then P else R := by
  by_cases h : p
  · rw [decide_eq_true h]; exact r_ifF (h2 h)
  · rw [decide_eq_false h]; exact r_ifT (h1 h)
theorem r_ifb (h1 : b = true → P) (h2 : b = false → R) : if b = true then P else R := by
  cases b
  · exact r_ifF (h2 rfl)
  · exact r_ifT (h1 rfl)
theorem r_ifnb (h1 : b = false → P) (h2 : b = true → R) : if (!b) = true then P else R := by
  cases b
  · exact r_ifT (h1 rfl)
  · exact r_ifF (h2 rfl)
end
/-- ways that meet behind an if without (with) an else: what follows is shown once, from Mid -/
theorem r_join {c : Bool} {ts tu : TS} {rest bk ct : L2.St → Hp → Prop} {rt : VK} {σ : L2.St} {H : Hp} (Mid : L2.St → Hp → Prop) (h2 : ∀ σ' H', Mid σ' H' → rest σ' H')
    (h1 : ∀ R : L2.St → Hp → Prop, (∀ σ' H', Mid σ' H' → R σ' H') → if c = true then ts ⟨R, rt, bk, ct⟩ σ H else tu ⟨R, rt, bk, ct⟩ σ H) : if c = true then ts ⟨rest, rt, bk, ct⟩ σ H else tu ⟨rest, rt, bk, ct⟩ σ H := h1 rest h2
/-- a for over a list, a range: the turn's word -/
theorem r_forL {K : PySem.W.Frag} {tl : TE} {g : TG} {tb : TS} {D : Ends} {σ : L2.St} {H : Hp} (h : tl σ H fun x H1 => ∃ a, x = .ref a ∧ (∃ xs, SqL K H1 a xs) ∧ ∃ W : Nat → Nat → L2.St → Hp → Prop, (∃ m, W 0 m σ H1) ∧ ∀ i m σ H, W i m σ H →
      ((Itl K a).stop i H ∧ D.nx σ H) ∨ ((Itl K a).go i H ∧ ∃ N : L2.St → Hp → Prop, (∀ σ' H', N σ' H' → ∃ m', m' < m ∧ W (i + 1) m' σ' H') ∧ ∀ x H', (Itl K a).yld i H x H' → g x σ H' fun σ2 H2 => tb { D with nx := N, ct := N, bk := D.nx } σ2 H2)) : tFor (iList K tl) g tb D σ H := h
theorem r_forR {tA : TA} {g : TG} {tb : TS} {D : Ends} {σ : L2.St} {H : Hp} (h : tA σ H fun vs H1 => ∃ j : Int, vs = [.int j] ∧ -(2 ^ 62) ≤ j ∧ j < 2 ^ 62 ∧ ∃ W : Nat → Nat → L2.St → Hp → Prop, (∃ m, W 0 m σ H1) ∧ ∀ i m σ H, W i m σ H →
      ((Itr 0 j.toNat).stop i H ∧ D.nx σ H) ∨ ((Itr 0 j.toNat).go i H ∧ ∃ N : L2.St → Hp → Prop, (∀ σ' H', N σ' H' → ∃ m', m' < m ∧ W (i + 1) m' σ' H') ∧ ∀ x H', (Itr 0 j.toNat).yld i H x H' → g x σ H' fun σ2 H2 => tb { D with nx := N, ct := N, bk := D.nx } σ2 H2)) : tFor (iRng1 tA) g tb D σ H := h

/-! ### heaps -/
/-- what is tracked stays, but at p -/
def But (p : Addr) (H H' : Hp) : Prop := ∀ b o, H b = some o → b ≠ p → H' b = some o
theorem Same.but {H H' : Hp} {p : Addr} (s : Same H H') : But p H H' := fun b o e _ => s b o e
theorem same_new {H : Hp} {p : Addr} {o : HO} (h : H p = none) : Same H (upd H p o) := fun b u e => by
  rw [upd_ne (ne_of_none e h)]; exact e
theorem Same.sqT {K : PySem.W.Frag} {H H' : Hp} {a : Addr} {xs : List V} (e : Same H H') (h : SqT K H a xs) : SqT K H' a xs := by
  rcases h with (h | ⟨o, h⟩) | h
  · exact .inl (.inl (e _ _ h))
  · exact .inl (.inr ⟨o, e _ _ h⟩)
  · exact .inr h
theorem toL {K : PySem.W.Frag} {H : Hp} {a : Addr} {xs : List V} (h : H a = some (.lst xs)) : SqL K H a xs := SqL.of h
theorem toT {K : PySem.W.Frag} {H : Hp} {a : Addr} {xs : List V} (h : H a = some (.tup xs)) : SqT K H a xs := SqT.of h
end My

/-! R-PARTS -/
/-! ### heaps as lists of numbers -/
namespace Hq
def at0 (ns : List Int) (i : Nat) : Int := ns.getD i 0
/-- in order everywhere -/
def Ord (ns : List Int) : Prop := ∀ i, 0 < i → i < ns.length → at0 ns ((i - 1) / 2) ≤ at0 ns i
/-- in order but at pos, on the way down -/
def Dn (ns : List Int) (pos : Nat) : Prop := (∀ i, 0 < i → i < ns.length → (i - 1) / 2 ≠ pos → i ≠ pos → at0 ns ((i - 1) / 2) ≤ at0 ns i) ∧
  ∀ i, 0 < i → i < ns.length → (i - 1) / 2 = pos → 0 < pos → at0 ns ((pos - 1) / 2) ≤ at0 ns i
/-- in order but at pos, on the way up -/
def Up (ns : List Int) (pos : Nat) : Prop := (∀ i, 0 < i → i < ns.length → i ≠ pos → at0 ns ((i - 1) / 2) ≤ at0 ns i) ∧
  ∀ i, 0 < i → i < ns.length → (i - 1) / 2 = pos → 0 < pos → at0 ns ((pos - 1) / 2) ≤ at0 ns i
def sw (ns : List Int) (i j : Nat) : List Int := (ns.set i (at0 ns j)).set j (at0 ns i)
theorem sw_len (ns : List Int) (i j : Nat) : (sw ns i j).length = ns.length := by simp [sw]
theorem at0_set (ns : List Int) (i : Nat) (x : Int) (k : Nat) (h : i < ns.length) : at0 (ns.set i x) k = if k = i then x else at0 ns k := by
  unfold at0
  rw [List.getD_eq_getElem?_getD, List.getD_eq_getElem?_getD, List.getElem?_set]
  by_cases e : i = k
  · subst e; simp [h]
  · rw [if_neg e, if_neg (fun z => e z.symm)]
theorem sw_at (ns : List Int) (i j k : Nat) (hi : i < ns.length) (hj : j < ns.length) : at0 (sw ns i j) k = if k = j then at0 ns i else if k = i then at0 ns j else at0 ns k := by
  unfold sw
  rw [at0_set _ _ _ _ (by simpa using hj), at0_set _ _ _ _ hi]
theorem sw_perm (ns : List Int) (i j : Nat) (hi : i < ns.length) (hj : j < ns.length) : (sw ns i j).Perm ns := by
  have h := Array.swap_perm (xs := ns.toArray) (i := i) (j := j) (by simpa using hi) (by simpa using hj)
  have h2 := Array.perm_iff_toList_perm.mp h
  have e : (ns.toArray.swap i j (by simpa using hi) (by simpa using hj)).toList = sw ns i j := by
    rw [Array.swap_def]
    simp only [Array.toList_set]
    unfold sw at0
    rw [List.getD_eq_getElem?_getD, List.getD_eq_getElem?_getD, List.getElem?_eq_getElem hi, List.getElem?_eq_getElem hj]
    simp
  rw [e] at h2
  exact h2
theorem dn_step {ns : List Int} {pos c : Nat} (h : Dn ns pos) (hc : c < ns.length) (hp : (c - 1) / 2 = pos) (h0 : 0 < c) (hm : ∀ i, 0 < i → i < ns.length → (i - 1) / 2 = pos → at0 ns c ≤ at0 ns i) : Dn (sw ns c pos) c := by
  obtain ⟨h1, h2⟩ := h
  have hpl : pos < ns.length := by omega
  constructor
  · intro i i0 il hpc hic
    rw [sw_len] at il
    rw [sw_at _ _ _ _ hc hpl, sw_at _ _ _ _ hc hpl]
    by_cases e : i = pos
    · subst e
      rw [if_pos rfl, if_neg (by omega), if_neg hpc]
      exact h2 c h0 hc hp i0
    · rw [if_neg e, if_neg hic]
      by_cases e2 : (i - 1) / 2 = pos
      · rw [if_pos e2]
        exact hm i i0 il e2
      · rw [if_neg e2, if_neg hpc]
        exact h1 i i0 il e2 e
  · intro i i0 il hic c0
    rw [sw_len] at il
    rw [sw_at _ _ _ _ hc hpl, sw_at _ _ _ _ hc hpl, if_pos hp, if_neg (by omega), if_neg (by omega)]
    have := h1 i i0 il (by omega) (by omega)
    rw [hic] at this
    exact this
theorem dn_up {ns : List Int} {pos : Nat} (h : Dn ns pos) (hp : ns.length / 2 ≤ pos) : Up ns pos :=
  ⟨fun i i0 il hip => h.1 i i0 il (by omega) hip, h.2⟩
theorem up_step {ns : List Int} {pos : Nat} (h : Up ns pos) (hp : pos < ns.length) (h0 : 0 < pos) (hlt : at0 ns pos < at0 ns ((pos - 1) / 2)) : Up (sw ns ((pos - 1) / 2) pos) ((pos - 1) / 2) := by
  obtain ⟨h1, h2⟩ := h
  generalize hq : (pos - 1) / 2 = q at *
  have hql : q < ns.length := by omega
  constructor
  · intro i i0 il hiq
    rw [sw_len] at il
    rw [sw_at _ _ _ _ hql hp, sw_at _ _ _ _ hql hp]
    by_cases e : i = pos
    · subst e
      rw [if_pos rfl, if_neg (by omega), if_pos hq]
      omega
    · rw [if_neg e, if_neg hiq]
      have a := h1 i i0 il e
      by_cases e2 : (i - 1) / 2 = pos
      · rw [if_pos e2]
        exact h2 i i0 il e2 h0
      · rw [if_neg e2]
        by_cases e3 : (i - 1) / 2 = q
        · rw [if_pos e3]
          rw [e3] at a
          omega
        · rw [if_neg e3]
          exact a
  · intro i i0 il hiq q0
    rw [sw_len] at il
    rw [sw_at _ _ _ _ hql hp, sw_at _ _ _ _ hql hp, if_neg (by omega), if_neg (by omega)]
    have a := h1 q q0 hql (by omega)
    by_cases e : i = pos
    · rw [if_pos e]; exact a
    · rw [if_neg e, if_neg (by omega)]
      have b := h1 i i0 il e
      rw [hiq] at b
      omega
theorem up_end {ns : List Int} {pos : Nat} (h : Up ns pos) (h2 : 0 < pos → at0 ns ((pos - 1) / 2) ≤ at0 ns pos) : Ord ns := fun i i0 il => by
  by_cases e : i = pos
  · subst e; exact h2 i0
  · exact h.1 i i0 il e
theorem ord_least {ns : List Int} (h : Ord ns) : ∀ k, k < ns.length → at0 ns 0 ≤ at0 ns k := by
  intro k
  induction k using Nat.strongRecOn with
  | _ k ih =>
    intro hk
    by_cases e : k = 0
    · subst e; exact Int.le_refl _
    · have a := ih ((k - 1) / 2) (by omega) (by omega)
      have b := h k (by omega) hk
      omega
theorem at0_append (ns : List Int) (x : Int) (i : Nat) (h : i < ns.length) : at0 (ns ++ [x]) i = at0 ns i := by
  unfold at0
  rw [List.getD_eq_getElem?_getD, List.getD_eq_getElem?_getD, List.getElem?_append_left h]
theorem push_up {ns : List Int} {x : Int} (h : Ord ns) : Up (ns ++ [x]) ns.length := by
  constructor
  · intro i i0 il hi
    rw [List.length_append, List.length_singleton] at il
    rw [at0_append _ _ _ (by omega), at0_append _ _ _ (by omega)]
    exact h i i0 (by omega)
  · intro i i0 il hi h0
    rw [List.length_append, List.length_singleton] at il
    omega
theorem pop_dn {ns : List Int} {x : Int} (h : Ord ns) (h2 : 2 ≤ ns.length) : Dn (ns.dropLast.set 0 x) 0 := by
  constructor
  · intro i i0 il hp hi
    rw [List.length_set, List.length_dropLast] at il
    have hl : ns.dropLast.length = ns.length - 1 := List.length_dropLast
    have a : ∀ k, k < ns.length - 1 → at0 ns.dropLast k = at0 ns k := fun k hk => by
      unfold at0
      rw [List.getD_eq_getElem?_getD, List.getD_eq_getElem?_getD, List.getElem?_dropLast, if_pos hk]
    rw [at0_set _ _ _ _ (by omega), at0_set _ _ _ _ (by omega), if_neg hp, if_neg hi, a _ (by omega), a _ (by omega)]
    exact h i i0 (by omega)
  · intro i _ _ _ h0
    omega
end Hq

namespace My
open PySem PySem.Spec PyProof.Rows L2
namespace HF
theorem kind_push : builtinKind "_heapq.heappush" = none := by decide +kernel
theorem plain_push : plainId "_heapq.heappush" = true := by decide +kernel
theorem entry_push : entryFor table "_heapq.heappush" = some Builtin.«_heapq.heappush» := entryFor_of_fast (by kernel_rfl)
theorem args_push (a b : Value) : argsOk "_heapq.heappush" ⟨[a, b], []⟩ := by unfold argsOk; kernel_rfl
theorem kind_pop : builtinKind "_heapq.heappop" = none := by decide +kernel
theorem plain_pop : plainId "_heapq.heappop" = true := by decide +kernel
theorem entry_pop : entryFor table "_heapq.heappop" = some Builtin.«_heapq.heappop» := entryFor_of_fast (by kernel_rfl)
theorem args_pop (a : Value) : argsOk "_heapq.heappop" ⟨[a], []⟩ := by unfold argsOk; kernel_rfl
theorem plain_sift : plainId "_heapq.heapify.sift" = true := by decide +kernel
theorem entry_sift : entryFor table "_heapq.heapify.sift" = some Builtin.«_heapq.heapify.sift» := entryFor_of_fast (by kernel_rfl)
end HF
section
variable {X : Cx} {pins : List (Addr × Obj)} {σ : L2.St} {H : Hp} {l : Addr}
theorem at_v {ns : List Int} {its : List Value} (r : Vals (ns.map V.int) its) {i : Nat} (h : i < ns.length) : ∃ t, its.toArray[i]? = some (.int (Hq.at0 ns i) t) := by
  obtain ⟨u, h1, t, h2⟩ := r.get (i := i) (x := V.int (Hq.at0 ns i)) (by
    rw [List.getElem?_map]
    unfold Hq.at0
    rw [List.getD_eq_getElem?_getD, List.getElem?_eq_getElem h]
    rfl)
  refine ⟨t, ?_⟩
  rw [← h2]
  simpa using h1
theorem vals_sw {ns : List Int} {its : List Value} (r : Vals (ns.map V.int) its) {i j : Nat} {t u : Tok} : Vals ((Hq.sw ns i j).map V.int) ((its.set i (.int (Hq.at0 ns j) t)).set j (.int (Hq.at0 ns i) u)) := by
  unfold Hq.sw
  rw [List.map_set, List.map_set]
  exact Vals.set (x := V.int (Hq.at0 ns i)) (u := .int (Hq.at0 ns i) u) ⟨_, rfl⟩ _ (Vals.set (x := V.int (Hq.at0 ns j)) (u := .int (Hq.at0 ns j) t) ⟨_, rfl⟩ _ r)
theorem at_eq {xs : Array Value} {i : Nat} {v : Value} (h : xs[i]? = some v) : (match xs[i]? with | some v => pure v | none => unsupported "internal:_heapq.index") = (pure v : Sem Value) := by
  rw [h]
theorem sift_run {A : Around} {R : Result → Shared → Prop} {res : Value} : ∀ (m : Nat) (down : Bool) (pos : Nat) (ns : List Int) (s : Shared),
    (if down = true then 2 * ns.length - pos else pos) < m → pos < ns.length → Inv X pins σ (upd H l (.lst (ns.map V.int))) s → (down = true → Hq.Dn ns pos) → (down = false → Hq.Up ns pos) →
    (∀ (ns' : List Int) (s' : Shared), ns'.Perm ns → Hq.Ord ns' → Inv X pins σ (upd H l (.lst (ns'.map V.int))) s' → R (.ok (.ret res)) s') →
    codeAny (model X.prog X.w) A (.builtin "_heapq.heapify.sift" ⟨[.ref l, .bool false, .bool down, rawInt pos, rawInt 0, res, rawInt (-1)], []⟩) R s := by
  intro m
  induction m with
  | zero => intro down pos ns s hm; exact absurd hm (Nat.not_lt_zero _)
  | succ m ih =>
    intro down pos ns s hm hpos I hd hu hR
    obtain ⟨z, its, n, r, hl, e⟩ := I.lstM upd_same
    have hsz : its.toArray.size = ns.length := by rw [List.size_toArray, ← hl, List.length_map]
    rw [List.length_map] at z
    have zz : its.toArray.size ≤ sizeLine := by rw [hsz]; exact z
    have pn : ((pos : Int)).toNat = pos := Int.toNat_natCast pos
    -- behind a swap
    have fin : ∀ (i j : Nat) (ti tj : Tok) (down' : Bool), i < ns.length → j < ns.length → (if down' = true then 2 * ns.length - i else i) < m → (down' = true → Hq.Dn (Hq.sw ns i j) i) → (down' = false → Hq.Up (Hq.sw ns i j) i) →
        codeAny (model X.prog X.w) A (.builtin "_heapq.heapify.sift" ⟨[.ref l, .bool false, .bool down', rawInt i, rawInt 0, res, rawInt (-1)], []⟩) R
          { s with heap := s.heap.update l (Obj.mapSeq fun xs => (xs.setIfInBounds i (.int (Hq.at0 ns j) tj)).setIfInBounds j (.int (Hq.at0 ns i) ti)) } := by
      intro i j ti tj down' hi hj hm' h1 h2
      have I2 := I.lset (f := fun xs => (xs.setIfInBounds i (.int (Hq.at0 ns j) tj)).setIfInBounds j (.int (Hq.at0 ns i) ti)) (t' := s.toks) upd_same e (its' := (its.set i (.int (Hq.at0 ns j) tj)).set j (.int (Hq.at0 ns i) ti)) (by simp) (vals_sw r) (by
        rw [List.length_map, Hq.sw_len]; exact z)
      rw [upd_upd] at I2
      refine ih down' i (Hq.sw ns i j) _ (by rw [Hq.sw_len]; exact hm') (by rw [Hq.sw_len]; exact hi) I2 h1 h2 fun ns' s' p o I' => hR ns' s' (p.trans (Hq.sw_perm ns i j hi hj)) o I'
    refine codeAny_builtin HF.entry_sift ?_
    rw [Around.under_plainId HF.plain_sift _]
    unfold Builtin.«_heapq.heapify.sift»
    refine wpAny_bind (wpAny_bind (wpAny_seqItems e rfl (wpAny_pure ?_)))
    cases down with
    | true =>
      have hd := hd rfl
      rw [if_pos rfl] at hm
      rw [if_pos rfl, pn, hsz]
      by_cases hp2 : pos < ns.length / 2
      · rw [if_pos hp2]
        obtain ⟨ta, ha⟩ := at_v r hpos
        have hl1 : 2 * pos + 1 < ns.length := by omega
        obtain ⟨tb, hb⟩ := at_v r hl1
        by_cases h2 : 2 * pos + 1 + 1 < ns.length
        · obtain ⟨tc, hc⟩ := at_v r h2
          dsimp only
          rw [if_pos h2]
          refine wpAny_bind (wpAny_of_eq (at_eq hb) ?_)
          refine wpAny_bind (wpAny_of_eq (at_eq hc) ?_)
          refine wpAny_bind (wpAny_bind (wpAny_holding (wpAny_bind (PyProof.Rows.lt_int ?_))))
          refine wpAny_truthy_bool ?_
          refine wpAny_bind (wpAny_bind (wpAny_seqItems e rfl (wpAny_pure ?_)))
          rw [hsz, if_neg (by simp)]
          refine wpAny_pure ?_
          by_cases hlt : Hq.at0 ns (2 * pos + 1) < Hq.at0 ns (2 * pos + 1 + 1)
          · rw [decide_eq_true hlt, if_neg (by simp)]
            refine wpAny_bind (wpAny_bind (wpAny_bind (wpAny_seqItems e rfl (wpAny_pure ?_))))
            refine wpAny_bind (wpAny_of_eq (at_eq hb) ?_)
            refine wpAny_bind (wpAny_of_eq (at_eq ha) ?_)
            refine wpAny_updateSeq e rfl ?_ zz (by simp; exact Nat.le_succ_of_le (by simpa using zz))
            refine wpAny_pure ⟨plainId_quiet HF.plain_sift _, ?_⟩
            refine fin (2 * pos + 1) pos tb ta true hl1 hpos (by rw [if_pos rfl]; omega) (fun _ => Hq.dn_step hd hl1 (by omega) (by omega) fun i i0 il hip => ?_) (fun h => absurd h (by decide))
            by_cases e1 : i = 2 * pos + 1
            · rw [e1]; exact Int.le_refl _
            · have e2 : i = 2 * pos + 1 + 1 := by omega
              rw [e2]; exact Int.le_of_lt hlt
          · rw [decide_eq_false hlt, if_pos (by simp)]
            refine wpAny_bind (wpAny_bind (wpAny_bind (wpAny_seqItems e rfl (wpAny_pure ?_))))
            refine wpAny_bind (wpAny_of_eq (at_eq hc) ?_)
            refine wpAny_bind (wpAny_of_eq (at_eq ha) ?_)
            refine wpAny_updateSeq e rfl ?_ zz (by simp; exact Nat.le_succ_of_le (by simpa using zz))
            refine wpAny_pure ⟨plainId_quiet HF.plain_sift _, ?_⟩
            refine fin (2 * pos + 1 + 1) pos tc ta true h2 hpos (by rw [if_pos rfl]; omega) (fun _ => Hq.dn_step hd h2 (by omega) (by omega) fun i i0 il hip => ?_) (fun h => absurd h (by decide))
            by_cases e1 : i = 2 * pos + 1
            · rw [e1]; omega
            · have e2 : i = 2 * pos + 1 + 1 := by omega
              rw [e2]; exact Int.le_refl _
        · dsimp only
          rw [if_neg h2]
          refine wpAny_bind (wpAny_bind (wpAny_bind (wpAny_seqItems e rfl (wpAny_pure ?_))))
          refine wpAny_bind (wpAny_of_eq (at_eq hb) ?_)
          refine wpAny_bind (wpAny_of_eq (at_eq ha) ?_)
          refine wpAny_updateSeq e rfl ?_ zz (by simp; exact Nat.le_succ_of_le (by simpa using zz))
          refine wpAny_pure ⟨plainId_quiet HF.plain_sift _, ?_⟩
          refine fin (2 * pos + 1) pos tb ta true hl1 hpos (by rw [if_pos rfl]; omega) (fun _ => Hq.dn_step hd hl1 (by omega) (by omega) fun i i0 il hip => ?_) (fun h => absurd h (by decide))
          have e1 : i = 2 * pos + 1 := by omega
          rw [e1]; exact Int.le_refl _
      · rw [if_neg hp2]
        refine wpAny_pure ⟨plainId_quiet HF.plain_sift _, ?_⟩
        exact ih false pos ns s (by rw [if_neg Bool.false_ne_true]; omega) hpos I (fun h => absurd h Bool.false_ne_true) (fun _ => Hq.dn_up hd (by omega)) hR
    | false =>
      have hu := hu rfl
      rw [if_neg Bool.false_ne_true] at hm
      rw [if_neg Bool.false_ne_true, pn]
      by_cases h0 : pos > 0
      · have h0' : pos > Int.toNat 0 := h0
        have hq : (pos - 1) / 2 < ns.length := by omega
        dsimp only
        rw [if_pos h0']
        obtain ⟨tx, hx⟩ := at_v r hpos
        obtain ⟨tp, hpp⟩ := at_v r hq
        refine wpAny_bind (wpAny_of_eq (at_eq hx) ?_)
        refine wpAny_bind (wpAny_of_eq (at_eq hpp) ?_)
        rw [if_neg Bool.false_ne_true]
        refine wpAny_bind (wpAny_bind (wpAny_holding (wpAny_bind (PyProof.Rows.lt_int ?_))))
        refine wpAny_truthy_bool ?_
        refine wpAny_bind (wpAny_bind (wpAny_seqItems e rfl (wpAny_pure ?_)))
        rw [if_neg (by simp)]
        refine wpAny_pure ?_
        by_cases hlt : Hq.at0 ns pos < Hq.at0 ns ((pos - 1) / 2)
        · rw [decide_eq_true hlt, if_pos rfl]
          refine wpAny_bind (wpAny_bind (wpAny_bind (wpAny_seqItems e rfl (wpAny_pure ?_))))
          refine wpAny_bind (wpAny_of_eq (at_eq hpp) ?_)
          refine wpAny_bind (wpAny_of_eq (at_eq hx) ?_)
          refine wpAny_updateSeq e rfl ?_ zz (by simp; exact Nat.le_succ_of_le (by simpa using zz))
          refine wpAny_pure ⟨plainId_quiet HF.plain_sift _, ?_⟩
          exact fin ((pos - 1) / 2) pos tp tx false hq hpos (by rw [if_neg Bool.false_ne_true]; omega) (fun h => absurd h Bool.false_ne_true) (fun _ => Hq.up_step hu hpos h0 hlt)
        · rw [decide_eq_false hlt, if_neg Bool.false_ne_true, if_pos (by decide)]
          exact wpAny_pure (hR ns s (List.Perm.refl _) (Hq.up_end hu fun _ => by omega) I)
      · dsimp only
        rw [if_neg (show ¬ pos > Int.toNat 0 from h0), if_pos (by decide)]
        exact wpAny_pure (hR ns s (List.Perm.refl _) (Hq.up_end hu fun h => absurd h h0) I)
def rHpop : List V → Hp → VK → Prop := fun vs H Q => ∃ (l : Addr) (ns : List Int), vs = [.ref l] ∧ H l = some (.lst (ns.map V.int)) ∧ Hq.Ord ns ∧ 0 < ns.length ∧
  ∀ ns', (Hq.at0 ns 0 :: ns').Perm ns → Hq.Ord ns' → Q (.int (Hq.at0 ns 0)) (upd H l (.lst (ns'.map V.int)))
def rHpush : List V → Hp → VK → Prop := fun vs H Q => ∃ (l : Addr) (ns : List Int) (x : Int), vs = [.ref l, .int x] ∧ H l = some (.lst (ns.map V.int)) ∧ Hq.Ord ns ∧ ns.length < sizeLine ∧
  ∀ ns', ns'.Perm (x :: ns) → Hq.Ord ns' → Q .non (upd H l (.lst (ns'.map V.int)))
theorem upd_self {H : Hp} {l : Addr} {o : HO} (h : H l = some o) : upd H l o = H := by
  funext b
  unfold upd
  split
  · rename_i e; rw [e, h]
  · rfl
theorem cr_heappush : CallR X (.builtin "_heapq.heappush") rHpush := by
  intro pins s σ H vs us Q I r h
  obtain ⟨l, ns, x, rfl, hH, o, hz, q⟩ := h
  obtain ⟨_, _, rfl, r1, r2⟩ := vals2 r
  cases r1
  obtain ⟨t, rfl⟩ := r2
  obtain ⟨z, its, n, rr, hl, e⟩ := I.lstM hH
  have hsz : its.toArray.size = ns.length := by rw [List.size_toArray, ← hl, List.length_map]
  refine call_function_tree HF.kind_push HF.plain_push HF.entry_push (HF.args_push _ _) ?_
  unfold Builtin.«_heapq.heappush»
  refine wpAny_bind (wpAny_bind (wpAny_of_eq rfl (wpAny_bind (wpAny_of_eq rfl ?_))))
  refine wpAny_bind (wpAny_bind (wpAny_isInstance (T := "list") (b := true) ⟨_, e, rfl⟩ rfl ?_))
  refine wpAny_pure (wpAny_pure ?_)
  refine wpAny_bind (wpAny_updateSeq e rfl ?_ (by rw [hsz]; omega) (by simp; rw [← hl, List.length_map]; omega))
  have I2 := I.lset (f := fun xs => xs.push (.int x t)) (t' := s.toks) hH e (its' := its ++ [.int x t]) (ys := (ns ++ [x]).map V.int) (by simp) (by rw [List.map_append]; exact rr.append (.cons ⟨_, rfl⟩ .nil)) (by
    rw [List.length_map, List.length_append, List.length_singleton]; omega)
  have e2 := PySem.IsL.update e (fun xs => xs.push (.int x t))
  refine wpAny_bind (wpAny_bind (wpAny_seqItems e2 rfl (wpAny_pure ?_)))
  refine wpAny_pure ⟨plainId_quiet HF.plain_sift _, ?_⟩
  have ez : ((its.toArray.push (.int x t)).size - 1) = ns.length := by rw [Array.size_push, hsz]; rfl
  show codeAny _ _ (.builtin "_heapq.heapify.sift" ⟨[.ref l, .bool false, .bool false, rawInt ((its.toArray.push (.int x t)).size - 1 : Nat), rawInt 0, .none, rawInt (-1)], []⟩) _ _
  rw [ez]
  refine sift_run (ns.length + 1) false ns.length (ns ++ [x]) _ (by rw [if_neg Bool.false_ne_true]; omega) (by simp) I2 (fun h => absurd h Bool.false_ne_true) (fun _ => Hq.push_up o) fun ns' s' p o' I' => ?_
  exact ⟨.non, _, I', rfl, q ns' (p.trans (List.perm_append_comm (l₁ := ns) (l₂ := [x]))) o'⟩
theorem cr_heappop : CallR X (.builtin "_heapq.heappop") rHpop := by
  intro pins s σ H vs us Q I r h
  obtain ⟨l, ns, rfl, hH, o, h0, q⟩ := h
  obtain rfl := Vals.ref1 r
  obtain ⟨z, its, n, rr, hl, e⟩ := I.lstM hH
  rw [List.length_map] at z
  have hsz : its.toArray.size = ns.length := by rw [List.size_toArray, ← hl, List.length_map]
  refine call_function_tree HF.kind_pop HF.plain_pop HF.entry_pop (HF.args_pop _) ?_
  unfold Builtin.«_heapq.heappop»
  refine wpAny_bind (wpAny_bind (wpAny_of_eq rfl ?_))
  refine wpAny_bind (wpAny_bind (wpAny_isInstance (T := "list") (b := true) ⟨_, e, rfl⟩ rfl ?_))
  refine wpAny_pure (wpAny_pure ?_)
  refine wpAny_bind (wpAny_bind (wpAny_seqItems e rfl (wpAny_pure ?_)))
  obtain ⟨tl, hlast⟩ := at_v (i := ns.length - 1) rr (by omega)
  have hb : its.toArray.back? = some (.int (Hq.at0 ns (ns.length - 1)) tl) := by rw [← hlast, ← hsz]; rfl
  rw [hb]
  have hdl : (ns.dropLast.map V.int).length ≤ sizeLine := by rw [List.length_map, List.length_dropLast]; omega
  have edl : its.toArray.pop = its.dropLast.toArray := by simp
  have I2 := I.lset (f := fun xs => xs.pop) (t' := s.toks) hH e (its' := its.dropLast) (ys := ns.dropLast.map V.int) edl (by rw [List.map_dropLast]; exact rr.dropLast) hdl
  have e2 := PySem.IsL.update e (fun xs => xs.pop)
  refine wpAny_bind (wpAny_updateSeq e rfl ?_ (by rw [hsz]; omega) (by simp; rw [← hl, List.length_map]; omega))
  by_cases h1 : its.toArray.size = 1
  · rw [if_pos (by rw [h1]; rfl)]
    have l1 : ns.length = 1 := by rw [← hsz]; exact h1
    match ns, l1 with
    | [y], _ => exact wpAny_pure ⟨.int y, _, I2, ⟨_, rfl⟩, q [] (List.Perm.refl _) (fun i _ h => absurd h (Nat.not_lt_zero _))⟩
  · rw [if_neg (by simpa using h1)]
    have l2 : 2 ≤ ns.length := by omega
    obtain ⟨tf, hf⟩ := at_v (i := 0) rr h0
    refine wpAny_bind (wpAny_of_eq (at_eq hf) ?_)
    have I3 := I2.lset (f := fun xs => xs.setIfInBounds 0 (.int (Hq.at0 ns (ns.length - 1)) tl)) (t' := s.toks) upd_same (by rw [edl] at e2; exact e2) (its' := its.dropLast.set 0 (.int (Hq.at0 ns (ns.length - 1)) tl))
      (ys := (ns.dropLast.set 0 (Hq.at0 ns (ns.length - 1))).map V.int) (by simp) (by rw [List.map_set, List.map_dropLast]; exact Vals.set (x := V.int _) (u := .int _ tl) ⟨_, rfl⟩ _ rr.dropLast) (by
        rw [List.length_map, List.length_set]; rw [List.length_map] at hdl; exact hdl)
    rw [upd_upd] at I3
    refine wpAny_bind (wpAny_updateSeq e2 rfl ?_ (by simp; rw [← hl, List.length_map]; omega) (by simp; rw [← hl, List.length_map]; omega))
    refine wpAny_pure ⟨plainId_quiet HF.plain_sift _, ?_⟩
    have hlen : (ns.dropLast.set 0 (Hq.at0 ns (ns.length - 1))).length = ns.length - 1 := by rw [List.length_set, List.length_dropLast]
    refine sift_run (res := .int (Hq.at0 ns 0) tf) (2 * ns.length + 1) true 0 _ _ (by rw [if_pos rfl, hlen]; omega) (by rw [hlen]; omega) I3 (fun _ => Hq.pop_dn o l2) (fun h => absurd h (by decide)) fun ns' s' p o' I' => ?_
    refine ⟨.int (Hq.at0 ns 0), _, I', ⟨_, rfl⟩, q ns' ?_ o'⟩
    match ns, l2 with
    | y :: r, l2 =>
      have hr : r ≠ [] := by intro h; rw [h] at l2; simp at l2
      have ed : (y :: r).dropLast = y :: r.dropLast := by
        cases r with
        | nil => exact absurd rfl hr
        | cons _ _ => rfl
      have el : Hq.at0 (y :: r) ((y :: r).length - 1) = r.getLast hr := by
        unfold Hq.at0
        rw [List.getD_eq_getElem?_getD, List.length_cons, Nat.add_sub_cancel, List.getLast_eq_getElem]
        have : 0 < r.length := List.length_pos_iff.mpr hr
        obtain ⟨k, hk⟩ : ∃ k, r.length = k + 1 := ⟨r.length - 1, by omega⟩
        simp [hk]
      rw [ed, el] at p
      have e3 : (y :: r).Perm (y :: (r.getLast hr :: r.dropLast)) := by
        refine List.Perm.cons y ?_
        have : r.Perm (r.dropLast ++ [r.getLast hr]) := by rw [List.dropLast_concat_getLast hr]
        exact this.trans List.perm_append_comm
      exact (List.Perm.cons y (p.trans (by simp))).trans e3.symm
end
end My

namespace My
open PySem PySem.Spec PyProof.Rows L2
section
variable {X : Cx}
/-- sorted(d), d a dict of int keys, any number of them -/
def rSortedDA : List V → Hp → VK → Prop := fun xs H Q => ∃ (a : Addr) (kvs : List (Key × V)) (ks : List Int), xs = [.ref a] ∧ Rd H a (.dK kvs) ∧ kvs.map (·.1) = ks.map Sum.inl ∧
    ∀ (ys : List Int) (p : Addr), ys.Perm ks → ys.Pairwise (· ≤ ·) → H p = none → Q (.ref p) (upd H p (.lst (ys.map V.int)))
theorem call_sortedDA (hcalm : X.calm = true) : CallR X (.builtin "sorted") rSortedDA := by
  intro pins s σ H xs us Q I r q
  obtain ⟨a, kvs, ks, ex, hd, hks, q⟩ := q
  subst ex
  obtain ⟨u, eu, rx⟩ := vals1 r
  subst eu
  cases rx
  obtain ⟨z, lo, vs, rel, dd⟩ := dk_rd I.hok hd
  obtain ⟨ep, hat⟩ := dd.dictAt
  have hkeys : vs.map (·.1) = ks.map Sum.inl := rel.keys.symm.trans hks
  have hl : vs.length = ks.length := by simpa using congrArg List.length hkeys
  have hl2 : kvs.length = ks.length := by simpa using congrArg List.length hks
  have h16 : vs.length ≤ sizeLine := by rw [hl, ← hl2]; exact z
  refine Calls.call_function_entry PyProof.Rows.kind_sorted PyProof.Rows.plain_sorted PyProof.Rows.entry_sorted (PyProof.Rows.args_sorted1 _) ?_
  unfold Builtin.«sorted»
  refine wpAny_bind (m := checkCount "sorted" 1 1 _) (wpAny_pure ?_)
  refine wpAny_bind (PySem.W.kdu_collect (A := X.A.in1) (PySem.W.kdl_dict (knd := mixKind X.prog X.w) (kvs := vs) (ep := ep) lo) (I.ok.hd hcalm) hat h16 fun h' tk acc hk hacc => ?_)
  have hal : acc.toList.length = ks.length := by rw [Array.length_toList, hacc.1, hl]
  have hS : IntsAre acc.toList ks := ints_each hal fun j v e => by
    obtain ⟨k, x, e1, e2⟩ := hacc.2 j v (by rw [← Array.getElem?_toList]; exact e)
    have e3 : (ks.map (Sum.inl : Int → Key))[j]? = some k := by rw [← hkeys, List.getElem?_map, e1]; rfl
    rw [List.getElem?_map] at e3
    cases e4 : ks[j]? with
    | none => rw [e4] at e3; cases e3
    | some y =>
      rw [e4] at e3
      cases e3
      rcases keyIs_shape (show keyIs (Sum.inl y) v = true from e2) with ⟨i, t, ek, ev⟩ | ⟨z, t, ek, ev⟩ <;> cases ek
      exact ⟨y, t, rfl, ev⟩
  have I1 : Inv X pins σ H { s with heap := h', toks := tk } := I.kept hk
  have hz : acc.toList.length ≤ sizeLine := by rw [hal, ← hl]; exact h16
  refine wpAny_bind (wpAny_newList ?_ hz)
  have hoL : (h'.push (seqObj "list" acc.toList.toArray 0)).get? h'.objs.size = some (seqObj "list" acc.toList.toArray 0) := Heap.get?_push_size _ rfl
  show wpAny _ _ _ _ _ { s with heap := h'.push (seqObj "list" acc.toList.toArray 0), toks := tk }
  refine wpAny_bind (wpAny_holding (wpAny_call_entry PyProof.Rows.slot_list_sort ⟨_, hoL, rfl⟩ PyProof.Rows.entry_list_sort
    (SrtO.list_sort_ord (s := { s with heap := h'.push (seqObj "list" acc.toList.toArray 0), toks := tk }) SrtO.swo_int hoL hz (fun h2 => SrtO.ints_sortable hS h2) fun out o1 o2 => ⟨_, rfl, ?_⟩) (PyProof.Rows.args_list_sort _)))
  obtain ⟨g1, g2, g3⟩ := SrtO.ints_out hS o1 o2
  obtain ⟨e', he'⟩ := PyProof.Rows.sortedHeap_at (vs := acc.toList) (out := out.toArray) hoL
  have hlen : ((out.map SrtO.iv).map V.int).length ≤ sizeLine := by
    rw [List.length_map, g2.length_eq, ← hl]; exact h16
  refine wpAny_pure ⟨_, rfl, .ref h'.objs.size, upd H h'.objs.size (.lst ((out.map SrtO.iv).map V.int)), I1.laid (t' := tk) (fun b u e => ?_) (Nat.le_refl _)
    ⟨hlen, out, e', vals_of_ints g1, he'⟩, rfl, q _ _ g2 g3 (I1.hok.fresh (Nat.le_refl _))⟩
  have e : h'.get? b = some u := e
  have hb : b < h'.objs.size := Heap.lt_size e
  rw [PyProof.Rows.sortedHeap_old (Nat.ne_of_lt hb) (by rw [size_push']; exact Nat.lt_succ_of_lt hb)]
  exact Heap.get?_push_of_some _ e
/-- xs.count(b), xs a list of truth values -/
def eqb (c : Bool) (v : Value) : Bool := match v with
  | .bool b => b == c
  | _ => false
theorem bools_of : ∀ {us : List Value} {bs : List Bool}, Vals (bs.map V.bl) us → us = bs.map Value.bool
  | _, [], .nil => rfl
  | _, b :: bs, .cons r t => by
    obtain rfl := (show _ = Value.bool b from r)
    rw [bools_of t]; rfl
def rCntB (K : PySem.W.Frag) : V → List V → Hp → VK → Prop := fun x xs H Q => ∃ (p : Addr) (bs : List Bool) (c : Bool), x = .ref p ∧ xs = [.bl c] ∧ SqL K H p (bs.map V.bl) ∧ Q (.int (bs.count c : Nat)) H
theorem mt_bcount : MtR X "list.count" (rCntB X.K) := by
  intro pins s σ H x xs v us Q I rx rxs h
  obtain ⟨p, bs, c, rfl, rfl, hs, q⟩ := h
  cases rx
  obtain ⟨u, rfl, ru⟩ := rxs.one
  obtain rfl := (show u = Value.bool c from ru)
  obtain ⟨its, rv, ⟨⟨cls, dd, data, sl⟩, n, ho, hc, hdn, hd⟩, hlen⟩ := I.list hs
  simp only at hc hd
  subst hc hd
  have eb := bools_of rv
  refine call_meets PySem.F.slot_list_count ⟨_, ho, rfl⟩ PySem.F.entry_list_count (PySem.F.args_list_count_2 _ _)
    (SeqAt.list_countAt p its.toArray n dd sl (.bool c) (eqb c)) ⟨ho, fun y hy => ?_, ?_⟩
  · have hy' : y ∈ its := by simpa using hy
    rw [eb] at hy'
    obtain ⟨b, _, rfl⟩ := List.mem_map.mp hy'
    exact SeqAt.EqAt.bool_bool b c
  · have ec : its.toArray.toList.countP (eqb c) = bs.count c := by
      show its.countP (eqb c) = bs.count c
      rw [eb, List.countP_map]
      rfl
    refine ⟨.int (bs.count c : Nat), H, I.tok _, ⟨s.toks, ?_⟩, q⟩
    show Value.int ((its.toArray.toList.countP (eqb c) : Nat) : Int) s.toks = Value.int ((bs.count c : Nat) : Int) s.toks
    rw [ec]
end
end My

namespace My
open PySem PySem.Spec PyProof.Rows L2
/-- the key that a key function gave: a pair (two) or a number -/
def KW (two : Bool) (H : Hp) (v : V) (k : Int × Int) : Prop := if two = true then ∃ t, v = .ref t ∧ H t = some (.tup [.int k.1, .int k.2]) else v = .int k.1 ∧ k.2 = 0
theorem KW.same {two : Bool} {H H' : Hp} {v : V} {k : Int × Int} (h : KW two H v k) (s : Same H H') : KW two H' v k := by
  cases two with
  | true => obtain ⟨t, e, ht⟩ := h; exact ⟨t, e, s _ _ ht⟩
  | false => exact h
/-- a call from within a built-in -/
def KCall (X : Cx) (A : Around) (f : Addr) (sp : Sp) : Prop := ∀ (pins : List (Addr × Obj)) (s : Shared) (σ : L2.St) (H : Hp) (us : List Value) (vs : List V) (Q : VK), Inv X pins σ H s → Vals vs us → sp vs H Q E0 →
  wpAny (model X.prog X.w) A (call (.ref f) us) (EP X pins σ Q) (fun _ _ => False) s
theorem kcall_of {X : Cx} {A : Around} {k : Nat} {f : Addr} {fd : FuncData} {ps : List Str} {sp : Sp} (F : FnOk X.prog X.w X.K X.mg X.base CX0 k f fd ps sp) (hr : Room k A) (hb : Binds X.K fd ps [])
    (he : ∀ {s : Shared} {H : Hp}, Env0 X.prog X.w X.K X.mg X.base X.A X.stack s H → Env0 X.prog X.w X.K X.mg X.base A X.stack s H) : KCall X A f sp := by
  intro pins s σ H us vs Q I r h
  have hl : us.length = ps.length := by rw [← r.length]; exact F.len _ _ _ _ h
  have b := hb s us I.kIn (by rw [List.append_nil]; exact hl)
  rw [List.append_nil] at b
  refine wpAny_call (codeAny_mono (F.run A X.stack s H ⟨us, []⟩ us vs Q E0 hr (he I.env0) b r h) fun r s' hq => ?_)
  cases r with
  | error e => exact hq
  | ok fl =>
    cases fl with
    | ret u => exact I.after hq
    | next => exact hq
    | brk => exact hq
    | cont => exact hq
/-- what is asked of the key function at the items -/
def KeyOf (two : Bool) (sp : Sp) (H : Hp) (xs : List V) (kd : V → Int × Int) : Prop := ∀ x ∈ xs, (∃ b, x = V.ref b) ∧ ∀ (H2 : Hp) (Q2 : VK), Same H H2 → (∀ v H3, Same H2 H3 → KW two H3 v (kd x) → Q2 v H3) → sp [x] H2 Q2 E0
def keyLe (kd : V → Int × Int) (x y : V) : Prop := SrtO.lexB (kd y) (kd x) = false
def rSortKey (K : PySem.W.Frag) (two : Bool) (sp : Addr → Sp) : List V → List V → Hp → VK → Prop := fun vs zs H Q => ∃ (a f : Addr) (xs : List V) (kd : V → Int × Int), vs = [.ref a] ∧ zs = [.ref f] ∧ SqL K H a xs ∧ KeyOf two (sp f) H xs kd ∧
  ∀ ys D H', Same H H' → H D = none → H' D = some (.lst ys) → ys.Perm xs → ys.Pairwise (keyLe kd) → Q (.ref D) H'
/-- the numbers of a pair that stands in the heap -/
noncomputable def pairK (h : Heap) (u : Value) : Int × Int := by
  classical exact if e : ∃ k : Int × Int, Srt.IsPair h u k.1 k.2 then Classical.choose e else (0, 0)
theorem isPair_inj {h : Heap} {u : Value} {x y x' y' : Int} (p : Srt.IsPair h u x y) (q : Srt.IsPair h u x' y') : x = x' ∧ y = y' := by
  obtain ⟨a, o, t, v, n, rfl, ho, hc, hd⟩ := p
  obtain ⟨a', o', t', v', n', e, ho', hc', hd'⟩ := q
  cases e
  rw [ho] at ho'
  cases ho'
  rw [hd] at hd'
  injection hd' with e1 e2
  simp only [Array.mk.injEq, List.cons.injEq, Value.int.injEq] at e1
  exact ⟨e1.1.1, e1.2.1.1⟩
theorem pairK_of {h : Heap} {u : Value} {k : Int × Int} (p : Srt.IsPair h u k.1 k.2) : pairK h u = k := by
  unfold pairK
  have e : ∃ k : Int × Int, Srt.IsPair h u k.1 k.2 := ⟨k, p⟩
  rw [dif_pos e]
  obtain ⟨a, b⟩ := isPair_inj (Classical.choose_spec e) p
  exact Prod.ext a b
theorem isPair_at {X : Cx} {pins : List (Addr × Obj)} {σ : L2.St} {H : Hp} {s : Shared} (I : Inv X pins σ H s) {t : Addr} {x y : Int} (ht : H t = some (.tup [.int x, .int y])) : Srt.IsPair s.heap (.ref t) x y := by
  obtain ⟨_, its2, r2, o, ho, hc, n, hd⟩ := I.hok _ _ ht
  obtain ⟨u1, u2, rfl, ⟨t1, rfl⟩, ⟨t2, rfl⟩⟩ := vals2 r2
  exact ⟨t, o, t1, t2, n, rfl, ho, hc, hd⟩
section
variable {X : Cx} {A : Around} {pins : List (Addr × Obj)} {σ : L2.St} {H : Hp} {s : Shared} {E : Value → Shared → Prop}
theorem keys_sortable {two : Bool} {ks : List V} {us : List Value} {kk : Nat → Int × Int} (I : Inv X pins σ H s) (r : Vals ks us) (hk : ∀ (i : Nat) v, ks[i]? = some v → KW two H v (kk i)) :
    ∃ K : Value → Int × Int, (∀ (i : Nat) u, us[i]? = some u → K u = kk i) ∧ (2 ≤ us.length → ∀ a, (∀ o, s.heap.get? a = some o → o.cls ≠ .type "tuple") → SrtO.SortableO X.prog X.w A s a us fun v u => SrtO.lexB (K v) (K u)) := by
  have get : ∀ (i : Nat) u, us[i]? = some u → ∃ v, ks[i]? = some v ∧ RelV v u := fun i u h => by
    have hl := r.length
    have hi : i < us.length := (List.getElem?_eq_some_iff.mp h).1
    obtain ⟨u', h1, h2⟩ := r.get (List.getElem?_eq_getElem (l := ks) (i := i) (by omega))
    rw [h] at h1
    cases h1
    exact ⟨_, List.getElem?_eq_getElem (by omega), h2⟩
  cases two with
  | true =>
    have pr : ∀ (i : Nat) u, us[i]? = some u → Srt.IsPair s.heap u (kk i).1 (kk i).2 := fun i u h => by
      obtain ⟨v, h1, h2⟩ := get i u h
      obtain ⟨t, rfl, ht⟩ := hk i v h1
      obtain rfl : u = Value.ref t := h2
      exact isPair_at I ht
    refine ⟨pairK s.heap, fun i u h => pairK_of (pr i u h), fun h2 a ha => SrtO.pairs_sortableO (k := pairK s.heap) (by omega) (fun v hv => ?_) ha⟩
    obtain ⟨i, hi⟩ := List.mem_iff_getElem?.mp hv
    have p := pr i v hi
    rw [pairK_of p]
    exact p
  | false =>
    have pr : ∀ (i : Nat) u, us[i]? = some u → ∃ t, u = .int (kk i).1 t ∧ (kk i).2 = 0 := fun i u h => by
      obtain ⟨v, h1, h2⟩ := get i u h
      obtain ⟨rfl, h3⟩ := hk i v h1
      obtain ⟨t, rfl⟩ := h2
      exact ⟨t, rfl, h3⟩
    have hI : IntsAre us (us.map SrtO.iv) := SrtO.ints_iv fun v hv => by
      obtain ⟨i, hi⟩ := List.mem_iff_getElem?.mp hv
      obtain ⟨t, e, _⟩ := pr i v hi
      exact ⟨_, t, e⟩
    refine ⟨fun u => (SrtO.iv u, 0), fun i u h => ?_, fun h2 a _ => ?_⟩
    · obtain ⟨t, rfl, e⟩ := pr i u h
      exact Prod.ext rfl e.symm
    · have e : (fun v u => SrtO.lexB ((fun u => (SrtO.iv u, 0)) v) ((fun u => (SrtO.iv u, 0)) u)) = SrtO.ltIv := by
        funext v u
        unfold SrtO.lexB SrtO.ltIv
        dsimp only
        by_cases e : SrtO.iv v = SrtO.iv u
        · rw [if_pos e, e]; simp
        · rw [if_neg e]
      rw [e]
      exact SrtO.ints_sortable hI h2
theorem zip_mem {us its : List Value} {p : Keyed} (h : p ∈ us.zip its) : ∃ i : Nat, us[i]? = some p.1 ∧ its[i]? = some p.2 := by
  obtain ⟨i, hi⟩ := List.mem_iff_getElem?.mp h
  rw [List.getElem?_zip_eq_some] at hi
  exact ⟨i, hi.1, hi.2⟩
theorem srt_end {us its : List Value} {xs : List V} {kd : V → Int × Int} {K : Value → Int × Int} {arr : List Keyed} (r : Vals xs its) (hx : ∀ x ∈ xs, ∃ b, x = V.ref b) (hl : us.length = xs.length) (hK : ∀ (i : Nat) u x, us[i]? = some u → xs[i]? = some x → K u = kd x)
    (hp : arr.Perm (us.zip its)) (hs : SrtO.Srtd (SrtO.lt2 fun v u => SrtO.lexB (K v) (K u)) arr) :
    (arr.map fun p => backV p.2).Perm xs ∧ (arr.map fun p => backV p.2).Pairwise (keyLe kd) ∧ (∀ u ∈ arr.map (·.2), ∃ a, u = Value.ref a) := by
  obtain ⟨e1, e2⟩ := refs_back r hx
  have hl2 : us.length = its.length := by rw [hl]; exact r.length
  have hm : (us.zip its).map (fun p => backV p.2) = xs := by
    have : (us.zip its).map (fun p : Keyed => backV p.2) = ((us.zip its).map (·.2)).map backV := by rw [List.map_map]; rfl
    rw [this, List.map_snd_zip (by omega), ← e1]
  have key : ∀ p ∈ arr, K p.1 = kd (backV p.2) := fun p hpp => by
    obtain ⟨i, h1, h2⟩ := zip_mem (hp.mem_iff.mp hpp)
    refine hK i _ _ h1 ?_
    rw [e1, List.getElem?_map, h2]
    rfl
  refine ⟨?_, ?_, fun u hu => ?_⟩
  · have := hp.map (fun p : Keyed => backV p.2)
    rw [hm] at this
    exact this
  · rw [List.pairwise_map]
    refine List.Pairwise.imp_of_mem (fun {p q} m1 m2 h => ?_) hs
    show SrtO.lexB (kd (backV q.2)) (kd (backV p.2)) = false
    rw [← key p m1, ← key q m2]
    exact h
  · obtain ⟨p, m, rfl⟩ := List.mem_map.mp hu
    obtain ⟨i, _, h2⟩ := zip_mem (hp.mem_iff.mp m)
    exact e2 _ (List.mem_of_getElem? h2)
/-- sorted(l, key=f) -/
theorem sortKey_run {l f : Addr} {xs : List V} {kd : V → Int × Int} {sp : Sp} {two : Bool} {Q : VK} {kw : List (Str × Value)} (KC : KCall X X.A.in1.in1 f sp) (I : Inv X pins σ H s) (hs : SqL X.K H l xs) (ko : KeyOf two sp H xs kd)
    (ha1 : argsOk "sorted" ⟨[.ref l], kw⟩) (ha2 : ∀ x, argsOk "list.sort" ⟨[.ref x], kw⟩) (ht : ∀ x, Builtin.«list.sort» ⟨[.ref x], kw⟩ = ksk_tree x (.ref f) false)
    (q : ∀ ys D H', Same H H' → H D = none → H' D = some (.lst ys) → ys.Perm xs → ys.Pairwise (keyLe kd) → Q (.ref D) H') :
    wpAny (model X.prog X.w) X.A (call (.builtin "sorted") [.ref l] kw) (EP X pins σ Q) X.xe s := by
  obtain ⟨its, r, hpl, hz⟩ := I.list hs
  have hlen := r.length
  have hzi : its.length ≤ sizeLine := by rw [← hlen]; exact hz
  refine call_function_entry_kw kind_sorted plain_sorted entry_sorted ha1 ?_
  unfold Builtin.«sorted»
  refine wpAny_bind (m := checkCount "sorted" 1 1 _) (wpAny_pure ?_)
  refine wpAny_bind (collect_list hpl.isList ?_ hzi)
  refine wpAny_bind (wpAny_newList ?_ hzi)
  -- the list that is sorted stands at a
  obtain ⟨h1, e1⟩ : ∃ h1, h1 = (s.heap.push (seqObj "list" #[] 0)).update s.heap.objs.size (Obj.mapSeq (· ++ its.toArray)) := ⟨_, rfl⟩
  have hsz : h1.objs.size = s.heap.objs.size + 1 := by rw [e1, Heap.size_update, size_push']
  have k1 : ∀ b o, s.heap.get? b = some o → h1.get? b = some o := fun b o qb => by
    rw [e1, Heap.get?_update_ne _ _ _ _ (Nat.ne_of_lt (Heap.lt_size qb))]
    exact Heap.get?_push_of_some _ qb
  show wpAny _ _ _ _ _ { s with heap := (((s.heap.push (seqObj "list" #[] 0)).update s.heap.objs.size (Obj.mapSeq (· ++ its.toArray))).push (seqObj "list" its.toArray 0)) }
  rw [← e1]
  show wpAny _ _ (holding [.ref h1.objs.size] (call (.builtin "list.sort") [.ref h1.objs.size] kw) >>= _) _ _ _
  obtain ⟨a, ea⟩ : ∃ a, a = h1.objs.size := ⟨_, rfl⟩
  rw [← ea]
  have hoL : (h1.push (seqObj "list" its.toArray 0)).get? a = some (seqObj "list" its.toArray 0) := by rw [ea]; exact Heap.get?_push_size _ rfl
  refine wpAny_bind (wpAny_holding (wpAny_call_entry_kw slot_list_sort ⟨_, hoL, rfl⟩ entry_list_sort ?_ (ha2 _)))
  rw [ht]
  unfold ksk_tree
  refine wpAny_bind (listItems_at hoL rfl ?_)
  refine wpAny_bind (listUpdate_at hoL rfl ?_ (by rw [List.size_toArray]; exact hzi) (Nat.zero_le _))
  obtain ⟨ep, ho1⟩ : ∃ ep, ((h1.push (seqObj "list" its.toArray 0)).update a (Obj.mapSeq fun _ => (#[] : Array Value))).get? a = some (seqObj "list" #[] ep) := ⟨_, get?_update_seq hoL fun _ => #[]⟩
  refine wpAny_bind (seqEpoch_at ho1 rfl ?_)
  refine wpAny_bind (wpAny_newTuple ?_ (by show its.length ≤ _; exact hzi))
  refine wpAny_bind (wpAny_newList ?_ (Nat.zero_le _))
  refine wpAny_holding ?_
  -- the heap before the keys are worked out
  obtain ⟨h2, e2⟩ : ∃ h2, h2 = ((h1.push (seqObj "list" its.toArray 0)).update a (Obj.mapSeq fun _ => (#[] : Array Value))).push (seqObj "tuple" its.toArray 0) := ⟨_, rfl⟩
  have k2 : ∀ b o, s.heap.get? b = some o → h2.get? b = some o := fun b o qb => by
    have hb := Heap.lt_size qb
    rw [e2]
    refine Heap.get?_push_of_some _ ?_
    rw [Heap.get?_update_ne _ _ _ _ (Nat.ne_of_lt (Nat.lt_of_lt_of_le hb (by rw [ea, hsz]; exact Nat.le_succ _)))]
    exact Heap.get?_push_of_some _ (k1 b o qb)
  have hs2 : h2.objs.size = a + 2 := by rw [e2, size_push', Heap.size_update, size_push', ← ea]
  have ha2' : h2.get? a = some (seqObj "list" #[] ep) := by rw [e2]; exact Heap.get?_push_of_some _ ho1
  show wpAny _ _ (ksk_rest a (.ref f) false its.toArray ep (.ref (((h1.push (seqObj "list" its.toArray 0)).update a (Obj.mapSeq fun _ => (#[] : Array Value))).push (seqObj "tuple" its.toArray 0)).objs.size)) _ _
    { s with heap := (((h1.push (seqObj "list" its.toArray 0)).update a (Obj.mapSeq fun _ => (#[] : Array Value))).push (seqObj "tuple" its.toArray 0)).push (seqObj "list" #[] 0) }
  rw [← e2]
  have I2 : Inv X pins σ H { s with heap := h2 } := I.kept (t' := s.toks) k2
  have hsa : s.heap.objs.size ≤ a := by omega
  have Ha : H a = none := I.hok.fresh hsa
  have fpa : ∀ H', H' a = none → FpOk X pins H' a := fun H' hn => I.fpOk hsa hn
  have HkS : H h2.objs.size = none := I2.hok.fresh (Nat.le_refl _)
  have I3 := I2.lnew (ys := []) (its := []) (t' := s.toks) .nil (Nat.zero_le _)
  have nak : a ≠ h2.objs.size := by omega
  have Ha3 : upd H h2.objs.size (.lst []) a = none := by rw [upd_ne nak]; exact Ha
  have I4 : Inv X ((a, seqObj "list" #[] ep) :: pins) σ (upd H h2.objs.size (.lst [])) { s with heap := h2.push (seqObj "list" #[] 0) } := I3.pins_of fun p hp => by
    rcases List.mem_cons.mp hp with rfl | hp
    · obtain ⟨_, f2, f3, _, _, _⟩ := fpa _ Ha3
      exact ⟨Heap.get?_push_of_some _ ha2', Ha3, f2, f3, fun v z => nomatch z⟩
    · exact I3.pin p (List.mem_append_right _ hp)
  have S3 : Same H (upd H h2.objs.size (.lst [])) := fun b o qb => by rw [upd_ne (ne_of_none qb HkS)]; exact qb
  generalize h2.objs.size = kS at *
  unfold ksk_rest
  refine wpAny_bind (wpAny_rule ?_)
  rw [List.forIn_toArray]
  refine wpAny_bind (ksk_fold (fun i s' => ∃ H' ks, Inv X ((a, seqObj "list" #[] ep) :: pins) σ H' s' ∧ Same H H' ∧ H' kS = some (.lst ks) ∧ ks.length = i ∧ ∀ (j : Nat) x v, xs[j]? = some x → ks[j]? = some v → KW two H' v (kd x)) its 0 _
    ⟨_, [], I4, S3, upd_same, rfl, fun j x v _ h => by simp at h⟩ ?step ?done)
  case step =>
    rintro j u s' hu ⟨H', ks, I', S', hk', hl', kw'⟩
    rw [Nat.zero_add] at hl' ⊢
    have hj : j < its.length := (List.getElem?_eq_some_iff.mp hu).1
    obtain ⟨u', hu', ru⟩ := r.get (List.getElem?_eq_getElem (l := xs) (i := j) (by omega))
    rw [hu] at hu'
    cases hu'
    have hxj : xs[j]? = some xs[j] := List.getElem?_eq_getElem (by omega)
    generalize xs[j] = x at hxj ru
    have kx := ko x (List.mem_of_getElem? hxj)
    refine wpAny_bind (wpAny_attempt (wpAny_mono (KC _ s' σ H' [u] [x] (fun v H3 => Same H' H3 ∧ KW two H3 v (kd x)) I' (.cons ru .nil) (kx.2 H' _ S' fun v H3 s3 w3 => ⟨s3, w3⟩)) (fun w s'' he => ?_) fun _ _ hF => hF.elim))
    obtain ⟨v, H3, I'', rv, S3', w3⟩ := he
    have hk3 := S3' _ _ hk'
    obtain ⟨z3, its3, n3, r3, hl3, e3⟩ := I''.lstM hk3
    refine wpAny_bind (listUpdate_at e3 rfl ?_ (by rw [List.size_toArray, ← hl3]; exact z3) (by simp; rw [← hl3, hl']; omega))
    have I5 := I''.lset (f := fun ys => ys.push w) (its' := its3 ++ [w]) (ys := ks ++ [v]) (t' := s''.toks) hk3 e3 (by simp) (r3.append (.cons rv .nil)) (by rw [List.length_append, List.length_singleton, hl']; omega)
    have keepT : ∀ v' k', KW two H3 v' k' → KW two (upd H3 kS (.lst (ks ++ [v]))) v' k' := fun v' k' h => by
      cases two with
      | true =>
        obtain ⟨t, e, ht⟩ := h
        refine ⟨t, e, ?_⟩
        rw [upd_ne (ne_of ht hk3 (by intro z; cases z))]
        exact ht
      | false => exact h
    refine wpAny_pure ⟨rfl, _, ks ++ [v], I5, fun b o qb => ?_, upd_same, by rw [List.length_append, List.length_singleton, hl'], fun i x' v' hx' hv' => keepT _ _ ?_⟩
    · have := S3' _ _ (S' _ _ qb)
      rw [upd_ne (ne_of_none qb HkS)]
      exact this
    · by_cases hi : i < ks.length
      · rw [List.getElem?_append_left hi] at hv'
        exact (kw' i x' v' hx' hv').same S3'
      · have hi2 : i < (ks ++ [v]).length := (List.getElem?_eq_some_iff.mp hv').1
        rw [List.length_append, List.length_singleton] at hi2
        have e : i = j := by omega
        subst e
        rw [List.getElem?_append_right (by omega), hl', Nat.sub_self] at hv'
        rw [hxj] at hx'
        cases hx'
        cases hv'
        exact w3
  case done =>
    rintro s' ⟨H', ks, I', S', hk', hl', kw'⟩
    rw [Nat.zero_add] at hl'
    obtain ⟨z3, us, n3, r3, hl3, e3⟩ := I'.lstM hk'
    refine wpAny_bind (listItems_at e3 rfl ?_)
    have hul : us.length = xs.length := by omega
    have pa := I'.pin (a, seqObj "list" #[] ep) (List.mem_append_right _ (.head _))
    obtain ⟨K, hK, hS⟩ := keys_sortable (A := X.A.in1.in1) (two := two) (kk := fun i => kd (xs.getD i .non)) I' r3 fun i v hv => by
      have hi : i < ks.length := (List.getElem?_eq_some_iff.mp hv).1
      have hx := List.getElem?_eq_getElem (l := xs) (i := i) (by omega)
      rw [List.getD_eq_getElem?_getD, hx]
      exact kw' i _ v hx hv
    have hK2 : ∀ (i : Nat) u x, us[i]? = some u → xs[i]? = some x → K u = kd x := fun i u x h1 h2 => by
      rw [hK i u h1, List.getD_eq_getElem?_getD, h2]
      rfl
    have hxr : ∀ x ∈ xs, ∃ b, x = V.ref b := fun x hx => (ko x hx).1
    have ezip : (us.toArray.zip its.toArray).toList = us.zip its := by simp
    have hzs : (us.toArray.zip its.toArray).size = xs.length := by simp; omega
    -- the end, for any sorted arrangement
    have fin : ∀ st : SortSt, SrtO.Srtd (SrtO.lt2 fun v u => SrtO.lexB (K v) (K u)) (arrOf st).toList → (arrOf st).toList.Perm (us.zip its) → failedOf st = none →
        wpAny (model X.prog X.w) X.A.in1.in1 (ksk_tail a false ep (.ref kS) st) (fun fin s' => ∃ v, fin = .done (.ret v) ∧ wpAny (model X.prog X.w) X.A.in1 (ret (.ref a)) (fun fin s' => ∃ v, fin = .done (.ret v) ∧ EP X pins σ Q v s') X.xe s') X.xe s' := by
      intro st hsd hp hf
      obtain ⟨g1, g2, g3⟩ := srt_end r hxr hul hK2 hp hsd
      have hasz : (arrOf st).size = xs.length := by
        have := hp.length_eq
        rw [Array.length_toList, List.length_zip] at this
        omega
      unfold ksk_tail
      dsimp only
      refine wpAny_bind (listUpdate_at e3 rfl ?_ (by rw [List.size_toArray, ← hl3]; exact z3) (Nat.zero_le _))
      refine wpAny_bind (wpAny_letGo ?_)
      have nka : kS ≠ a := fun z => by rw [z, pa.2.1] at hk'; cases hk'
      have ho2 : (s'.heap.update kS (Obj.mapSeq fun _ => (#[] : Array Value))).get? a = some (seqObj "list" #[] ep) := (Heap.get?_update_ne _ _ _ _ (Ne.symm nka)).trans pa.1
      refine wpAny_bind (seqEpoch_at ho2 rfl ?_)
      refine wpAny_bind (listUpdate_at ho2 rfl ?_ (Nat.zero_le _) (by
        show (if false = true then ((arrOf st).map (·.2)).reverse else (arrOf st).map (·.2)).size ≤ sizeLine + 1
        rw [if_neg Bool.false_ne_true, Array.size_map, hasz]
        omega))
      rw [hf]
      simp only [bne_self_eq_false, Bool.false_eq_true, if_false]
      have I6 := (I'.lset (f := fun _ => #[]) (its' := []) (ys := []) (t' := s'.toks) hk' e3 rfl .nil (Nat.zero_le _))
      have I7 : Inv X pins σ (upd H' kS (.lst [])) { s' with heap := s'.heap.update kS (Obj.mapSeq fun _ => (#[] : Array Value)) } := I6.pins_of fun p hp => I6.pin p (List.mem_append_right _ (List.mem_cons_of_mem _ hp))
      have Ha7 : upd H' kS (.lst []) a = none := by rw [upd_ne (Ne.symm nka)]; exact pa.2.1
      obtain ⟨e8, ho8⟩ : ∃ e8, ((s'.heap.update kS (Obj.mapSeq fun _ => (#[] : Array Value))).update a (Obj.mapSeq fun _ => (arrOf st).map (·.2))).get? a = some (seqObj "list" ((arrOf st).map (·.2)) e8) := ⟨_, get?_update_seq ho2 fun _ => (arrOf st).map (·.2)⟩
      have I8 := I7.take (o := .lst ((arrOf st).toList.map fun p => backV p.2)) (t' := s'.toks) (fun b ob hb eb => (Heap.get?_update_ne _ _ _ _ hb).trans eb) (fpa _ Ha7)
        ⟨by rw [List.length_map, Array.length_toList, hasz]; exact hz, (arrOf st).toList.map (·.2), e8, by
          have := vals_back g3
          rw [List.map_map] at this
          exact this, by rw [ho8, ← Array.toList_map, Array.toArray_toList]⟩
      refine wpAny_pure ⟨_, rfl, wpAny_pure ⟨_, rfl, .ref a, _, I8, rfl, q _ a _ (fun b o qb => ?_) Ha upd_same g1 g2⟩⟩
      rw [upd_ne (ne_of_none qb Ha), upd_ne (ne_of_none qb HkS)]
      exact S' _ _ qb
    unfold ksk_end
    dsimp only
    rw [if_neg Bool.false_ne_true, if_neg Bool.false_ne_true]
    have hisz : its.toArray.size = xs.length := by rw [List.size_toArray]; omega
    by_cases h2 : its.toArray.size < 2
    · rw [if_pos h2, if_pos h2]
      refine wpAny_bind (wpAny_pure ?_)
      rw [StateT.run_pure]
      refine wpAny_bind (wpAny_pure ?_)
      refine fin (SortSt.mk' general' (us.toArray.zip its.toArray) #[] 7 none) ?_ (by show (us.toArray.zip its.toArray).toList.Perm _; rw [ezip]) rfl
      show SrtO.Srtd _ (us.toArray.zip its.toArray).toList
      have hzl : (us.toArray.zip its.toArray).toList.length < 2 := by rw [Array.length_toList, hzs]; omega
      revert hzl
      generalize (us.toArray.zip its.toArray).toList = zl
      intro hzl
      match zl, hzl with
      | [], _ => exact List.Pairwise.nil
      | [v], _ => exact List.pairwise_singleton _ _
      | _ :: _ :: w, h => exact absurd h (by rw [List.length_cons, List.length_cons]; omega)
    · rw [if_neg h2, if_neg h2]
      obtain ⟨κ, hkind, hT⟩ := hS (by omega) a (fun o eo => by
        rw [pa.1] at eo
        cases eo
        intro c
        exact absurd (Value.type.inj c) (by decide)) s'.heap (fun _ _ _ e => e)
      refine wpAny_bind (hkind _ _ ?_)
      have hall : SrtO.AllL (fun p : Keyed => p.1 ∈ us) (us.toArray.zip its.toArray).toList := fun p hm => by
        rw [ezip] at hm
        obtain ⟨i, h1, _⟩ := zip_mem hm
        exact List.mem_of_getElem? h1
      refine wpAny_bind (wpAny_mono (SrtO.wpS_sortO (st0 := SortSt.mk' κ (us.toArray.zip its.toArray) #[] 7 none)
        (Q := fun _ st' => SrtO.Srtd (SrtO.lt2 fun v u => SrtO.lexB (K v) (K u)) (arrOf st').toList ∧ (arrOf st').toList.Perm (us.zip its) ∧ failedOf st' = none) (SrtO.swo2 (SrtO.swo_lex K)) hT rfl hall rfl rfl fun st' a1 a2 a3 => ⟨a1, by rw [← ezip]; exact a2.perm, a3⟩) ?_ fun _ _ e => e)
      rintro ⟨⟨⟩, st'⟩ s'' ⟨rfl, hp1, hp2, hf⟩
      exact fin st' hp1 hp2 hf
end
end My

namespace My
open PySem PySem.Spec PyProof.Rows L2
section
variable {X : Cx} {A : Around} {pins : List (Addr × Obj)} {σ : L2.St} {H : Hp} {s : Shared} {E : Value → Shared → Prop}
/-- two keys are compared -/
theorem kw_lt {two : Bool} {v v' : V} {u u' : Value} {k k' : Int × Int} {Q : Value → Shared → Prop} (I : Inv X pins σ H s) (r : RelV v u) (r' : RelV v' u') (h : KW two H v k) (h' : KW two H v' k') (hu : A.units < cLine) (q : Q (.bool (SrtO.lexB k k')) s) :
    wpAny (model X.prog X.w) A (compareOp .Lt u u') Q E s := by
  cases two with
  | true =>
    obtain ⟨t, rfl, ht⟩ := h
    obtain ⟨t', rfl, ht'⟩ := h'
    obtain rfl := (show u = Value.ref t from r)
    obtain rfl := (show u' = Value.ref t' from r')
    obtain ⟨its, r1, p1, _⟩ := I.tuple (SqT.of ht)
    obtain ⟨its2, r2, p2, _⟩ := I.tuple (SqT.of ht')
    refine HT.lt_tupInts (ns := [k.1, k.2]) (ms := [k'.1, k'.2]) p1 p2 (intsAre_of r1) (intsAre_of r2) hu ?_
    have e : HT.lexLt [k.1, k.2] [k'.1, k'.2] = SrtO.lexB k k' := by
      unfold SrtO.lexB
      rw [HT.lexLt_cons, HT.lexLt_cons, HT.lexLt_nil_nil]
      by_cases e1 : k.1 = k'.1
      · rw [if_pos e1, if_pos e1]
        by_cases e2 : k.2 = k'.2
        · rw [if_pos e2, e2]; simp
        · rw [if_neg e2]
      · rw [if_neg e1, if_neg e1]
    rw [e]
    exact q
  | false =>
    obtain ⟨rfl, h2⟩ := h
    obtain ⟨rfl, h2'⟩ := h'
    obtain ⟨t, rfl⟩ := r
    obtain ⟨t', rfl⟩ := r'
    refine PyProof.Rows.lt_int ?_
    have e : decide (k.1 < k'.1) = SrtO.lexB k k' := by
      unfold SrtO.lexB
      by_cases e1 : k.1 = k'.1
      · rw [if_pos e1, e1, h2, h2']; simp
      · rw [if_neg e1]
    rw [e]
    exact q
/-- the best so far -/
def BestAt (two : Bool) (H : Hp) (xs : List V) (kd : V → Int × Int) (S : Addr) (j : Nat) : Prop :=
  if j = 0 then H S = some (.lst []) else ∃ x v, H S = some (.lst [x, v]) ∧ x ∈ xs ∧ KW two H v (kd x) ∧ ∀ (i : Nat) y, i < j → xs[i]? = some y → keyLe kd x y
theorem keyLe_refl {kd : V → Int × Int} (x : V) : keyLe kd x x := SrtO.lexB_no.mpr (by omega)
theorem keyLe_trans {kd : V → Int × Int} {x y z : V} (h : keyLe kd x y) (h' : keyLe kd y z) : keyLe kd x z := by
  have a := SrtO.lexB_no.mp h
  have b := SrtO.lexB_no.mp h'
  exact SrtO.lexB_no.mpr (by omega)
theorem minKey_loop {it S l f : Addr} {xs : List V} {kd : V → Int × Int} {sp : Sp} {two : Bool} {R : Result → Shared → Prop} {H0 : Hp} (KC : KCall X X.A.in1 f sp) (hs : SqL X.K H0 l xs) (ko : KeyOf two sp H0 xs kd) (hx : 0 < xs.length) (nS : H0 S = none) (hh : X.A.handled = none) (hu : X.A.units + 1 < cLine)
    (fpi : ∀ H', H' it = none → FpOk X pins H' it)
    (hR : ∀ x H' s', Inv X pins σ H' s' → Same H0 H' → x ∈ xs → (∀ y ∈ xs, keyLe kd x y) → ∀ u, RelV x u → R (.ok (.ret u)) s') :
    ∀ (k j : Nat) (s : Shared) (H : Hp), xs.length - j = k → j ≤ xs.length → Inv X pins σ H s → Same H0 H → s.heap.IsListIter it l j → H it = none → BestAt two H xs kd S j →
      codeAny (model X.prog X.w) X.A (.builtin "min.loop" ⟨[.ref it, .ref f, .ref S], []⟩) R s := by
  have hname : (toString "min" ++ toString ".loop" : String) = "min.loop" := by decide
  intro k
  induction k with
  | zero =>
    intro j s H hk hj I S0 hit hni hb
    have hj2 : j = xs.length := by omega
    obtain ⟨its, r, hpl, hz⟩ := I.list (S0.seq hs)
    unfold BestAt at hb
    rw [if_neg (by omega)] at hb
    obtain ⟨x, v, hS, hxm, hkw, hbest⟩ := hb
    obtain ⟨z3, us, n3, r3, hl3, e3⟩ := I.lstM hS
    obtain ⟨u1, u2, rfl, ru1, ru2⟩ := vals2 r3
    refine codeAny_builtin F.entry_min_loop ?_
    rw [Around.under_plainId F.plain_min_loop _]
    refine wpAny_bind (wpAny_seqItems e3 rfl ?_)
    refine wpAny_bind (m := tryCatch (pyNext (.ref it)) _) (wpAny_tryCatch ?_)
    obtain ⟨f0, f1, f2, f3, f4, f5⟩ := fpi H hni
    refine wpAny_pyNext_list_end (A := X.A.in1) hh hit hpl.isList (by simp; rw [hj2, r.length]; exact Nat.le_refl _) fun h' eb => ?_
    have I1 : Inv X pins σ H { s with heap := h' } := I.turned (t' := s.toks) (fun b o hb e => eb b o hb e) f0 f1 f3 f4 f5
    obtain ⟨z4, us4, n4, r4, hl4, e4⟩ := I1.lstM hS
    refine wpAny_bind (m := updateSeq S _) ?_
    refine wpAny_updateSeq e4 rfl (wpAny_bind (wpAny_letGo (wpAny_pure ?_))) (by rw [List.size_toArray, ← hl4]; exact z4) (by simp)
    have I5 := I1.lset (f := fun _ => #[]) (its' := []) (ys := []) (t' := s.toks) hS e4 rfl .nil (Nat.zero_le _)
    refine hR x _ _ I5 (fun b o q => ?_) hxm (fun y hy => ?_) _ ru1
    · rw [upd_ne (ne_of_none q nS)]; exact S0 _ _ q
    · obtain ⟨i, hi⟩ := List.mem_iff_getElem?.mp hy
      have := (List.getElem?_eq_some_iff.mp hi).1
      exact hbest i y (by omega) hi
  | succ k ih =>
    intro j s H hk hj I S0 hit hni hb
    have hlt : j < xs.length := by omega
    obtain ⟨its, r, hpl, hz⟩ := I.list (S0.seq hs)
    obtain ⟨u, hu', ru⟩ := r.get (List.getElem?_eq_getElem (l := xs) (i := j) hlt)
    have hxj : xs[j]? = some xs[j] := List.getElem?_eq_getElem hlt
    generalize xs[j] = x at hxj ru
    have kx := ko x (List.mem_of_getElem? hxj)
    -- what the list at S holds
    obtain ⟨B, hS⟩ : ∃ B, H S = some (.lst B) := by
      unfold BestAt at hb
      split at hb
      · exact ⟨_, hb⟩
      · obtain ⟨x, v, e, _⟩ := hb; exact ⟨_, e⟩
    obtain ⟨z3, us, n3, r3, hl3, e3⟩ := I.lstM hS
    refine codeAny_builtin F.entry_min_loop ?_
    rw [Around.under_plainId F.plain_min_loop _]
    refine wpAny_bind (wpAny_seqItems e3 rfl ?_)
    refine wpAny_bind (m := tryCatch (pyNext (.ref it)) _) (wpAny_tryCatch ?_)
    obtain ⟨f0, f1, f2, f3, f4, f5⟩ := fpi H hni
    refine wpAny_pyNext_list_item (x := u) hit hpl.isList (by simpa using hu') fun h' st' sb => ?_
    have I1 : Inv X pins σ H { s with heap := h' } := I.turned (t' := s.toks) (fun b o hb e => (sb.2 b hb).trans e) f0 f1 f3 f4 f5
    obtain ⟨oi, eoi, coi, doi⟩ := id st'
    have I2 := I1.pinned (fp := [it]) (fun b hb => by rw [List.mem_singleton.mp hb]; exact fpi H hni) (fun b hb => by
      rw [List.mem_singleton.mp hb]
      exact ⟨oi, eoi, fun v z => by rw [doi] at z; cases z⟩)
    refine wpAny_bind (m := tryCatch (holding [u] (call (.ref f) [u])) _) (wpAny_tryCatch (wpAny_holding (wpAny_mono (KC _ _ σ H [u] [x] (fun v H3 => Same H H3 ∧ KW two H3 v (kd x)) I2 (.cons ru .nil) (kx.2 H _ S0 fun v H3 s3 w3 => ⟨s3, w3⟩)) (fun w s'' he => ?_) fun _ _ hF => hF.elim)))
    obtain ⟨v, H3, I3, rv, S3, w3⟩ := he
    have pit := I3.pin (it, oi) (List.mem_append_right _ (List.mem_append_right _ (by
      unfold pinsAt
      refine List.mem_filterMap.mpr ⟨it, List.mem_singleton.mpr rfl, ?_⟩
      show (h'.get? it).map _ = _
      rw [eoi]; rfl)))
    have st3 : s''.heap.IsListIter it l (j + 1) := ⟨oi, pit.1, coi, doi⟩
    have I4 : Inv X pins σ H3 s'' := I3.unpinned
    have S03 : Same H0 H3 := S0.trans S3
    have hS3 := S3 _ _ hS
    obtain ⟨z5, us5, n5, r5, hl5, e5⟩ := I4.lstM hS3
    -- a new best
    have put : BestAt two (upd H3 S (.lst [x, v])) xs kd S (j + 1) → ∀ (W : Sem PySem.Fin) {Q : PySem.Fin → Shared → Prop} {E : Value → Shared → Prop}, True := fun _ _ _ _ => trivial
    have keepT : ∀ v' k', KW two H3 v' k' → KW two (upd H3 S (.lst [x, v])) v' k' := fun v' k' h => by
      cases two with
      | true =>
        obtain ⟨t, e, ht⟩ := h
        refine ⟨t, e, ?_⟩
        rw [upd_ne (ne_of ht hS3 (by intro z; cases z))]
        exact ht
      | false => exact h
    have next : (∀ (i : Nat) y, i < j + 1 → xs[i]? = some y → keyLe kd x y) → codeAny (model X.prog X.w) X.A (.builtin "min.loop" ⟨[.ref it, .ref f, .ref S], []⟩) R { s'' with heap := s''.heap.update S (Obj.mapSeq fun _ => #[u, w]) } := fun hbest => by
      have I6 := I4.lset (f := fun _ => #[u, w]) (its' := [u, w]) (ys := [x, v]) (t' := s''.toks) hS3 e5 rfl (.cons ru (.cons rv .nil)) (by show 2 ≤ sizeLine; decide)
      have nSi : S ≠ it := fun z => by rw [z, pit.2.1] at hS3; cases hS3
      refine ih (j + 1) _ _ (by omega) hlt I6 (fun b o q => by rw [upd_ne (ne_of_none q nS)]; exact S03 _ _ q) ⟨oi, (Heap.get?_update_ne _ _ _ _ (Ne.symm nSi)).trans pit.1, coi, doi⟩ (by rw [upd_ne (Ne.symm nSi)]; exact pit.2.1) ?_
      unfold BestAt
      rw [if_neg (by omega)]
      exact ⟨x, v, upd_same, List.mem_of_getElem? hxj, keepT _ _ w3, hbest⟩
    unfold BestAt at hb
    by_cases hj0 : j = 0
    · rw [if_pos hj0] at hb
      rw [hS] at hb
      cases hb
      cases r3
      refine wpAny_bind (m := updateSeq S _) ?_
      refine wpAny_updateSeq e5 rfl ?_ (by rw [List.size_toArray, ← hl5]; exact z5) (by show 2 ≤ _; decide)
      rw [hname]
      refine wpAny_pure ⟨plainId_quiet F.plain_min_loop _, next fun i y hi hy => ?_⟩
      have : i = j := by omega
      subst this
      rw [hxj] at hy
      cases hy
      exact keyLe_refl _
    · rw [if_neg hj0] at hb
      obtain ⟨xb, vb, eb, hxb, hkb, hbest⟩ := hb
      rw [hS] at eb
      cases eb
      obtain ⟨u1, u2, rfl, ru1, ru2⟩ := vals2 r3
      have hkb3 := hkb.same S3
      refine wpAny_bind (m := tryCatch (holding [u, w] (richCompare .Lt w u2 >>= _)) _) (wpAny_tryCatch (wpAny_holding (wpAny_bind (kw_lt (A := X.A.in1) I4 rv ru2 w3 hkb3 hu ?_))))
      refine wpAny_bind (wpAny_holding (wpAny_truthy_bool ?_))
      refine wpAny_bind (wpAny_letGo (wpAny_pure ?_))
      cases hlx : SrtO.lexB (kd x) (kd xb) with
      | true =>
        simp only [if_true]
        refine wpAny_bind (m := updateSeq S _) ?_
        refine wpAny_updateSeq e5 rfl ?_ (by rw [List.size_toArray, ← hl5]; exact z5) (by show 2 ≤ _; decide)
        refine wpAny_bind (wpAny_letGo ?_)
        rw [hname]
        refine wpAny_pure ⟨plainId_quiet F.plain_min_loop _, next fun i y hi hy => ?_⟩
        by_cases e : i = j
        · subst e
          rw [hxj] at hy
          cases hy
          exact keyLe_refl _
        · have a := hbest i y (by omega) hy
          refine keyLe_trans (y := xb) ?_ a
          have := SrtO.lexB_iff.mp hlx
          exact SrtO.lexB_no.mpr (by omega)
      | false =>
        simp only [Bool.false_eq_true, if_false]
        refine wpAny_bind (wpAny_letGo ?_)
        rw [hname]
        refine wpAny_pure ⟨plainId_quiet F.plain_min_loop _, ih (j + 1) _ _ (by omega) hlt I4 S03 st3 pit.2.1 ?_⟩
        unfold BestAt
        rw [if_neg (by omega)]
        refine ⟨xb, vb, hS3, hxb, hkb3, fun i y hi hy => ?_⟩
        by_cases e : i = j
        · subst e
          rw [hxj] at hy
          cases hy
          exact hlx
        · exact hbest i y (by omega) hy
/-- min(l, key=f) -/
theorem minKey_run {l f : Addr} {xs : List V} {kd : V → Int × Int} {sp : Sp} {two : Bool} {Q : VK} (KC : KCall X X.A.in1 f sp) (I : Inv X pins σ H s) (hs : SqL X.K H l xs) (ko : KeyOf two sp H xs kd) (hx : 0 < xs.length) (hh : X.A.handled = none) (hu : X.A.units + 1 < cLine)
    (q : ∀ x H', Same H H' → x ∈ xs → (∀ y ∈ xs, keyLe kd x y) → Q x H') :
    wpAny (model X.prog X.w) X.A (call (.builtin "min") [.ref l] [(Str.ofString "key", .ref f)]) (EP X pins σ Q) X.xe s := by
  have hname : (toString "min" ++ toString ".loop" : String) = "min.loop" := by decide
  obtain ⟨its, r, hpl, hz⟩ := I.list hs
  refine PyProof.Rows.kmk_tree F.kind_min F.plain_min F.entry_min (PyProof.Rows.kmk_min_key _ _) ?_
  refine wpAny_bind (m := Builtin.Builtins.bindParams "min" ["key", "default"] 0 ⟨[], [(Str.ofString "key", .ref f)]⟩) (wpAny_of_eq (show Builtin.Builtins.bindParams "min" ["key", "default"] 0 ⟨[], [(Str.ofString "key", .ref f)]⟩ = pure [some (.ref f), none] from rfl) ?_)
  refine wpAny_bind (wpAny_pure ?_)
  refine wpAny_bind (wpAny_pyIter_list hpl.isList ?_)
  refine wpAny_bind (wpAny_newObj_type ?_)
  rw [hname]
  have k1 : ∀ b o, s.heap.get? b = some o → (s.heap.push { cls := .type "list_iterator", data := .fields #[.ref l, .int 0 0] }).get? b = some o := fun b o e => Heap.get?_push_of_some _ e
  have I1 : Inv X pins σ H { s with heap := s.heap.push { cls := .type "list_iterator", data := .fields #[.ref l, .int 0 0] } } := I.kept (t' := s.toks) k1
  have hi : H s.heap.objs.size = none := I.hok.fresh (Nat.le_refl _)
  have I2 := I1.lnew (ys := []) (its := []) (t' := s.toks) .nil (Nat.zero_le _)
  have hsz : (s.heap.push { cls := .type "list_iterator", data := .fields #[.ref l, .int 0 0] }).objs.size = s.heap.objs.size + 1 := by rw [Heap.size_push]
  have nS : H (s.heap.push { cls := .type "list_iterator", data := .fields #[.ref l, .int 0 0] }).objs.size = none := I.hok.fresh (by rw [hsz]; exact Nat.le_succ _)
  refine wpAny_pure ⟨plainId_quiet F.plain_min_loop _, minKey_loop (pins := pins) (σ := σ) (xs := xs) (kd := kd) (two := two) (H0 := H) KC hs ko hx nS hh hu (fun H' hn => I.fpOk (Nat.le_refl _) hn) (fun x H' s' I' S' hm hb u ru => ⟨x, H', I', ru, q x H' S' hm hb⟩) _ 0 _ _ rfl (Nat.zero_le _) I2
    (fun b o e => by rw [upd_ne (ne_of_none e nS)]; exact e) ⟨_, Heap.get?_push_of_some _ (Heap.get?_push_size _ rfl), rfl, rfl⟩ (by rw [upd_ne (by rw [hsz]; exact Nat.ne_of_lt (Nat.lt_succ_self _))]; exact hi) ?_⟩
  unfold BestAt
  rw [if_pos rfl]
  exact upd_same
end
end My

namespace My
open PySem PySem.Spec PyProof.Rows L2 LamX NdefX
/-- a lambda's words: its body apart -/
abbrev lamNF (q : Str) (params : Arguments) (scope : Scope) (c' : Addr) : NF := ⟨"<lambda>", q, params, [], scope, [], c'⟩
/-- the object at f is the lambda -/
def LamO (q : Str) (params : Arguments) (scope : Scope) (e : Expr) (f c' : Addr) : HO := .ext fun h => ∃ pm ctv, h.get? f = some (PySem.W.kla_obj "<lambda>" q params e scope [] pm c' ctv)
section
variable {X : Cx} {pins : List (Addr × Obj)} {σ : L2.St} {H : Hp} {s : Shared}
theorem inv_lam {q : Str} {params : Arguments} {scope : Scope} {e : Expr} {c' : Addr} {pm ctv : Value} {t' : Nat} (I : Inv X pins σ H s) :
    Inv X pins σ (upd H s.heap.objs.size (LamO q params scope e s.heap.objs.size c')) { s with heap := s.heap.push (PySem.W.kla_obj "<lambda>" q params e scope [] pm c' ctv), toks := t' } := by
  have g : (s.heap.push (PySem.W.kla_obj "<lambda>" q params e scope [] pm c' ctv)).get? s.heap.objs.size = some (PySem.W.kla_obj "<lambda>" q params e scope [] pm c' ctv) := Heap.get?_push_size _ rfl
  exact I.laid (a := s.heap.objs.size) (fun b u z => Heap.get?_push_of_some _ z) (Nat.le_refl _) ⟨⟨pm, ctv, g⟩, ⟨_, g⟩, fun h1 h2 ⟨p, t, z⟩ st => ⟨p, t, st _ z⟩⟩
theorem lam_make3 {c P : Addr} {q : Str} {params : Arguments} {body : Expr} {scope : Scope} {pos : Pos} {E : Value → Shared → Prop} {Q : Value → Shared → Prop} (I : Inv X pins σ H s) (TB : TabB X.base X.mg c P) (hcode : X.env.code = .ref c) (hq : q = X.env.qual ++ "<lambda>") (hT : TabS H P q)
    (hdef : defaultsOf params X.env = ([], [])) (hnf : ∀ y ∈ scope.names, y.2 ≠ .free) (hcl : cloFrom X.env.cells scope.names [] = [])
    (h : ∀ (f c' : Addr) (H1 : Hp) (s' : Shared), Inv X pins σ H1 s' → ExtN H H1 → TabS H1 P q → H f = none → H1 f = some (LamO q params scope body f c') → H1 c' = some (CodeO c' q) → Q (.ref f) s') :
    wpAny (model X.prog X.w) X.A (eval (.Lambda params body scope pos) X.env) Q E s := by
  have hfree : ∀ y ∈ scope.names, y.2 = .free → ∃ c, X.env.cells.lookup y.1 = some c := fun y hy e => absurd e (hnf y hy)
  obtain ⟨ps, hP, ht, ha⟩ := hT
  refine PySem.W.kla_eval hdef ?_
  rw [← hq]
  have bP : s.heap.BuiltinsAt X.mg P := TB.bm.keeps I.bk
  have hP' : s.heap.get? P = some { cls := .none, data := .fields ps } := I.hok P _ hP
  have ck : closureFor scope X.env = pure [] := by rw [closure_ok hfree, hcl]
  rcases hc : codeAmong pos ps.toList with _ | cv
  · refine PySem.W.kla_makeFunction (mg := X.mg) (c := c) (P := P) (ps := ps) ck I.ok.glob (I.mod.glob.keeps I.bk) hcode (TB.code.keeps I.bk) hP' ht hc TB.gP bP fun c' ctv h' tk hx hge hlt hrec htb => ?_
    obtain ⟨c2, oc, vs, t, e2, hoc, hd, hv⟩ := hrec
    cases e2
    have nC : H c' = none := I.hok.fresh hge
    have I1 := inv_table (t' := tk) (more := #[rawInt pos.line, rawInt pos.col, .ref c']) (h' := h') I hP (fun b o hb e => hx b o hb e) htb hge ⟨oc, vs, t, hoc, hd, hv⟩
    generalize hH1 : upd (upd H P (.tbl (ps ++ #[rawInt pos.line, rawInt pos.col, .ref c']))) c' (CodeO c' q) = H1 at I1
    have hE : ExtN H H1 := fun b o e n => by
      rw [← hH1, upd_ne (ne_of_none e nC), upd_ne (fun z => n ps (Option.some.inj (e.symm.trans (by rw [z]; exact hP))))]
      exact e
    have hc1 : H1 c' = some (CodeO c' q) := by rw [← hH1]; exact upd_same
    have T1 : TabS H1 P q := by
      refine ⟨ps ++ #[rawInt pos.line, rawInt pos.col, .ref c'], by rw [← hH1, upd_ne (ne_of_none hP nC), upd_same], by rw [Array.toList_append]; exact PySem.TriplesOk_snoc _ _ _ _ ht, fun p' cv hcv => ?_⟩
      rw [Array.toList_append] at hcv
      rcases among_app _ ht hcv with z | z
      · obtain ⟨c0, e1, e2⟩ := ha p' cv z
        exact ⟨c0, e1, hE _ _ e2 codeO_ne⟩
      · exact ⟨c', z, hc1⟩
    have nF := I1.hok.fresh (Nat.le_refl _)
    have I2 := inv_lam (q := q) (params := params) (scope := scope) (e := body) (c' := c') (pm := (X.mg "__name__").getD .none) (ctv := ctv) (t' := tk) I1
    have up : ∀ b o, H1 b = some o → upd H1 h'.objs.size (LamO q params scope body h'.objs.size c') b = some o := fun b o e => (upd_ne (ne_of_none e nF)).trans e
    exact h h'.objs.size c' _ _ I2 (fun b o e n => up b o (hE b o e n)) (T1.ext up) (I.hok.fresh (Nat.le_trans hge (Nat.le_of_lt hlt))) upd_same (up _ _ hc1)
  · obtain ⟨c', e, hco⟩ := ha pos cv hc
    subst e
    refine PySem.W.kla_makeFunctionHit (mg := X.mg) (c := c) (P := P) (ps := ps) ck I.ok.glob (I.mod.glob.keeps I.bk) hcode (TB.code.keeps I.bk) hP' ht hc bP fun ctv h' tk hx hsz => ?_
    have I1 : Inv X pins σ H { s with heap := h', toks := tk } := I.kept hx
    have nF : H h'.objs.size = none := I1.hok.fresh (Nat.le_refl _)
    have I2 := inv_lam (q := q) (params := params) (scope := scope) (e := body) (c' := c') (pm := (X.mg "__name__").getD .none) (ctv := ctv) (t' := tk) I1
    have up : ∀ b o, H b = some o → upd H h'.objs.size (LamO q params scope body h'.objs.size c') b = some o := fun b o e => (upd_ne (ne_of_none e nF)).trans e
    exact h h'.objs.size c' _ _ I2 (fun b o e n => up b o e) ((show TabS H P q from ⟨ps, hP, ht, ha⟩).ext up) nF upd_same (up _ _ hco)
/-- the reading of a lambda: lamO f c' says of the object at f that it is that one -/
def tLam3 (P : Addr) (q : Str) (lamO : Addr → Addr → HO) : TE := fun σ H Q => TabS H P q ∧ ∀ (f c' : Addr) (H1 : Hp), ExtN H H1 → TabS H1 P q → H f = none → H1 f = some (lamO f c') → H1 c' = some (CodeO c' q) → Q (.ref f) H1
theorem pe_lam3 {lamO : Addr → Addr → HO} {c P : Addr} {q : Str} {params : Arguments} {body : Expr} {scope : Scope} {pos : Pos} (TB : TabB X.base X.mg c P) (hcode : X.env.code = .ref c) (hq : q = X.env.qual ++ "<lambda>") (hl : ∀ f c', lamO f c' = LamO q params scope body f c')
    (hdef : defaultsOf params X.env = ([], []) := by rfl) (hnf : (scope.names.all fun y => !decide (y.2 = .free)) = true := by decide +kernel) (hcl : cloFrom X.env.cells scope.names [] = [] := by rfl) : PE X (.Lambda params body scope pos) (tLam3 P q lamO) := by
  refine ⟨fun pins s σ H Q I h => ?_⟩
  obtain ⟨hT, h⟩ := h
  refine lam_make3 I TB hcode hq hT hdef (fun y hy e => ?_) hcl fun f c' H1 s' I1 e t n1 n2 n3 => ⟨.ref f, H1, I1, rfl, h f c' H1 e t n1 (by rw [hl]; exact n2) n3⟩
  have := List.all_eq_true.mp hnf y hy
  simp [e] at this
end
/-- the promise of a lambda: its body's reading -/
def spLam3 (lamO : Addr → Addr → HO) (q : Str) (N ps : List Str) (tb : TE) (f : Addr) : Sp := fun vs H Q _ => vs.length = ps.length ∧ ∃ c', H f = some (lamO f c') ∧ H c' = some (CodeO c' q) ∧ tb (startF N vs []) H Q
theorem run_lam3 {P : Program} {w : World} {K : PySem.W.Frag} {mg : Str → Option Value} {base : Heap} {N ps : List Str} {k : Nat} {q : Str} {params : Arguments} {scope : Scope} {body : Expr} {lamO : Addr → Addr → HO} {tb : TE} {f : Addr} (hl : ∀ f c', lamO f c' = LamO q params scope body f c')
    (S : NScope N ps [] scope) (hb : ∀ (pm ctv : Value) (c' : Addr) (us : List Value), us.length = ps.length → bindArgs (PySem.W.kla_fn "<lambda>" q params body scope [] pm (.ref c') ctv) ⟨us, []⟩ = pure (ps.zip us))
    (hbody : ∀ (A : Around) (outer : List Env) (s : Shared) (H : Hp) (E : XK) (c' : Addr), Room k (A.deeper (envF (lamNF q params scope c') f s.heap.objs.size)) → PE (ncx CX0 P w K mg base N (lamNF q params scope c') f A outer s H E) body tb)
    {A : Around} {outer : List Env} {s : Shared} {H : Hp} {us : List Value} {vs : List V} {Q : VK} (hr : Room (k + 1) A) (e0 : Env0 P w K mg base A outer s H) (r : Vals vs us) (hsp : spLam3 lamO q N ps tb f vs H Q E0) :
    codeAny (model P w) A (.call (.ref f) ⟨us, []⟩) (CR CX0 outer P w H s Q E0) s := by
  obtain ⟨hl1, c', hf, hc, ht⟩ := hsp
  rw [hl] at hf
  have lim : s.heap.NoLimit := e0.mod.nolimit.keeps fun b o e => (e0.bs b o e).1
  obtain ⟨⟨pm, ctv, ho⟩, _, _⟩ := e0.hok f _ hf
  refine PySem.W.kla_callFunE hr.depth ho rfl S.co S.gen rfl (codeO_at e0.hok hc) ?_
  rw [hb pm ctv c' us (by rw [← r.length]; exact hl1)]
  refine wpAny_pure (wpAny_newFunctionEnv S.nocell (fun ⟨n, _⟩ hy => S.par n (List.of_mem_zip hy).1) (fun h₁ hns hsb => ⟨lim.fresh _ hsb, ?_⟩) S.kind)
  show codeAny _ _ (.expr body (envF (lamNF q params scope c') f s.heap.objs.size)) _ _
  have kp : ∀ b o, s.heap.get? b = some o → h₁.get? b = some o := fun b o e => hsb.extBut b o (Nat.ne_of_lt (Heap.lt_size e)) (Heap.get?_push_of_some _ e)
  have C : CellsAt (lamNF q params scope c').cl [] [] s.heap H := ⟨rfl, fun y c e => (by cases e), fun x y c e => (by cases e), fun i y e => (by simp at e)⟩
  have I : Inv (ncx CX0 P w K mg base N (lamNF q params scope c') f A outer s H E0) [] (startF N vs []) H { s with heap := h₁, toks := s.toks + (ps.zip us).length } := inv_startN S hr.hd e0 hl1 r C hns kp
  refine PySem.W.kla_codeExpr (wpAny_mono ((hbody A outer s H E0 c' (hr.deeper _)).run [] _ _ H Q I ht) (fun v s' hq => ?_) fun e s' hq => hq)
  obtain ⟨w', H', J, rv, q⟩ := hq
  exact ⟨w', H', J.os, J.bare, J.base, J.hok, rv, q⟩
theorem kcall_lam3 {X : Cx} {A : Around} {N ps : List Str} {k : Nat} {q : Str} {params : Arguments} {scope : Scope} {body : Expr} {lamO : Addr → Addr → HO} {tb : TE} (hl : ∀ f c', lamO f c' = LamO q params scope body f c') (S : NScope N ps [] scope)
    (hb : ∀ (pm ctv : Value) (c' : Addr) (us : List Value), us.length = ps.length → bindArgs (PySem.W.kla_fn "<lambda>" q params body scope [] pm (.ref c') ctv) ⟨us, []⟩ = pure (ps.zip us))
    (hbody : ∀ (f : Addr) (A : Around) (outer : List Env) (s : Shared) (H : Hp) (E : XK) (c' : Addr), Room k (A.deeper (envF (lamNF q params scope c') f s.heap.objs.size)) → PE (ncx CX0 X.prog X.w X.K X.mg X.base N (lamNF q params scope c') f A outer s H E) body tb)
    (hr : Room (k + 1) A) (he : ∀ {s : Shared} {H : Hp}, Env0 X.prog X.w X.K X.mg X.base X.A X.stack s H → Env0 X.prog X.w X.K X.mg X.base A X.stack s H) (f : Addr) : KCall X A f (spLam3 lamO q N ps tb f) := by
  intro pins s σ H us vs Q I r h
  refine wpAny_call (codeAny_mono (run_lam3 hl S hb (hbody f) hr (he I.env0) r h) fun r s' hq => ?_)
  cases r with
  | error e => exact hq
  | ok fl =>
    cases fl with
    | ret u => exact I.after hq
    | next => exact hq
    | brk => exact hq
    | cont => exact hq
/-! ### as rules of calls by keyword -/
def spAt (f0 : Addr) (sp : Sp) (f : Addr) : Sp := fun vs H Q E => f = f0 ∧ sp vs H Q E
theorem kcall_at {X : Cx} {A : Around} {f0 : Addr} {sp : Sp} (KC : KCall X A f0 sp) (f : Addr) : KCall X A f (spAt f0 sp f) := fun pins s σ H us vs Q I r h => by
  obtain ⟨rfl, h⟩ := h
  exact KC pins s σ H us vs Q I r h
section
variable {X : Cx}
theorem cr_sortBy {two : Bool} {sp : Addr → Sp} (KC : ∀ f, KCall X X.A.in1.in1 f (sp f)) : CallRK X (.builtin "sorted") [Str.ofString "key"] (rSortKey X.K two sp) := by
  intro pins s σ H vs zs us ws Q I r rz h
  obtain ⟨a, f, xs, kd, rfl, rfl, hs, ko, q⟩ := h
  obtain rfl := Vals.ref1 r
  obtain ⟨w1, rfl, e1⟩ := vals1 rz
  obtain rfl : w1 = Value.ref f := e1
  exact sortKey_run (KC f) I hs ko (PyProof.Rows.ksk_s1 _ _) (fun _ => PyProof.Rows.ksk_l1 _ _) (fun x => PyProof.Rows.ksk_t1 f x) q
def rMinKey (K : PySem.W.Frag) (two : Bool) (sp : Addr → Sp) : List V → List V → Hp → VK → Prop := fun vs zs H Q => ∃ (a f : Addr) (xs : List V) (kd : V → Int × Int), vs = [.ref a] ∧ zs = [.ref f] ∧ SqL K H a xs ∧ 0 < xs.length ∧ KeyOf two (sp f) H xs kd ∧
  ∀ x H', Same H H' → x ∈ xs → (∀ y ∈ xs, keyLe kd x y) → Q x H'
theorem cr_minBy {two : Bool} {sp : Addr → Sp} (KC : ∀ f, KCall X X.A.in1 f (sp f)) (hh : X.A.handled = none) (hu : X.A.units + 1 < cLine) : CallRK X (.builtin "min") [Str.ofString "key"] (rMinKey X.K two sp) := by
  intro pins s σ H vs zs us ws Q I r rz h
  obtain ⟨a, f, xs, kd, rfl, rfl, hs, hx, ko, q⟩ := h
  obtain rfl := Vals.ref1 r
  obtain ⟨w1, rfl, e1⟩ := vals1 rz
  obtain rfl : w1 = Value.ref f := e1
  exact minKey_run (KC f) I hs ko hx hh hu q
/-- sorted(xs, reverse=b) of ints -/
theorem sort_rev (a : Addr) (b : Bool) : argsOk "sorted" ⟨[.ref a], [(Str.ofString "reverse", .bool b)]⟩ := by unfold argsOk; kernel_rfl
theorem sort_rev2 (a : Value) (b : Bool) : argsOk "list.sort" ⟨[a], [(Str.ofString "reverse", .bool b)]⟩ := by unfold argsOk; kernel_rfl
theorem cr_sortRev {b : Bool} : CallRK X (.builtin "sorted") [Str.ofString "reverse"] (rSortedKw X.K b [.bl b]) := by
  intro pins s σ H vs zs us ws Q I r rz h
  obtain ⟨a, ns, rfl, rfl, hs, q⟩ := h
  obtain rfl := Vals.ref1 r
  obtain ⟨w1, rfl, e1⟩ := vals1 rz
  obtain rfl : w1 = Value.bool b := e1
  exact sorted_run I hs (fun a => rfl) (sort_rev _ _) (fun _ => sort_rev2 _ _) q
end
/-- a def whose code object is known -/
structure FunC (K : PySem.W.Frag) (x qual : Str) (st : Stmt) (f : Addr) (fd : FuncData) (c : Addr) : Prop where
  ex : ∃ (oc : Value) (od : Option Addr) (kV doc pm : Value) (an : Option Addr) (ct : Value) (osl : Array (Option Value)),
    fd = PySem.W.fnOf x qual (defArgs st) (defBody st) (defScope st) .none kV doc pm an (.ref c) ct ∧ K.lookup f = some ⟨oc, od, .func fd, osl⟩ ∧ PySem.W.codeIn K (.ref c) qual = true
theorem FunC.okX {P : Program} {w : World} {K : PySem.W.Frag} {mg : Str → Option Value} {base : Heap} {x qual : Str} {st : Stmt} {f c : Addr} {fd : FuncData} {N ps : List Str} {k : Nat} {sp : Sp} (F : FunC K x qual st f fd c) (S : FnScope N ps (defScope st)) (len : ∀ vs H Q E, sp vs H Q E → vs.length = ps.length)
    (hbody : ∀ (A : Around) (outer : List Env) (s : Shared) (H : Hp) (vs : List V) (Q : VK) (E : XK), Room k (A.deeper (envOfC qual (defScope st) s.heap.objs.size f (.ref c))) → sp vs H Q E →
      ∃ t, PSs (cxOf (L2.CX P w) P w K mg base N qual (defScope st) f (.ref c) A outer s H E) (defBody st) t ∧ t { nx := fun _ H' => Q .non H', rt := Q } (start N vs) H) : FnOk P w K mg base (L2.CX P w) (k + 1) f fd ps sp := by
  obtain ⟨oc, od, kV, doc, pm, an, ct, osl, rfl, lk, hcd⟩ := F.ex
  exact fn_of lk hcd S len fun A outer s H vs Q E hr hsp => hbody A outer s H vs Q E hr hsp
end My

namespace My
open PySem PySem.Spec PyProof.Rows L2
/-! ### unions -/
section
variable {X : Cx}
def rSortedA (K : PySem.W.Frag) : List V → Hp → VK → Prop := fun xs H Q => (rSortedI K xs H Q ∨ rSortedPO K xs H Q) ∨ rSortedDA xs H Q
theorem call_sortedA (hc : X.calm = true) : CallR X (.builtin "sorted") (rSortedA X.K) := orC (orC cr_sortedI cr_sortedPO) (call_sortedDA hc)
def rLenD : List V → Hp → VK → Prop := fun xs H Q => ∃ a kvs, xs = [V.ref a] ∧ H a = some (.dK kvs) ∧ Q (.int kvs.length) H
theorem call_lenDA : CallR X (.builtin "len") rLenD := call_lenD
end

/-! ### readings of dicts, heaps, keys, comprehensions -/
def tTru (K : PySem.W.Frag) (ta : TE) : TT := fun σ H Q => ta σ H fun x H' => ∃ k, TruV K x H' k ∧ Q k H'
section
variable {K : PySem.W.Frag} {σ : L2.St} {H : Hp} {Q : VK} {D : Ends} {x y v : V} {ta tb tc : TE} {t u : TT} {ts tu : TS} {i j : Int} {b : Bool} {P R : Prop}
theorem r_dget (h : ta σ H fun x H1 => tb σ H1 fun y H2 => ∃ a v, x = .ref a ∧ DGet H2 a y (some v) ∧ Q v H2) : tDGet ta tb σ H Q := h
theorem r_dgetI {a : Addr} {kvs : List (Key × V)} {Q' : V → Prop} (h : H a = some (.dK kvs)) (hv : valV kvs (.inl i) = some v) (q : Q' v) : ∃ a' v, V.ref a = .ref a' ∧ DGet H a' (.int i) (some v) ∧ Q' v :=
  ⟨a, v, rfl, by rw [← hv]; exact DGet.k (k := Sum.inl i) h, q⟩
theorem r_dgetF {a : Addr} {o : Obj} {kvs : List (Key × V)} {Q' : V → Prop} (h : H a = some (.frz o (.dK kvs))) (hv : valV kvs (.inl i) = some v) (q : Q' v) : ∃ a' v, V.ref a = .ref a' ∧ DGet H a' (.int i) (some v) ∧ Q' v :=
  ⟨a, v, rfl, .inl ⟨kvs, .inl i, .inr ⟨o, h⟩, rfl, hv.symm⟩, q⟩
theorem r_din (h : ta σ H fun y H1 => tb σ H1 fun x H2 => ∃ a o, x = .ref a ∧ DGet H2 a y o ∧ Q (.bl o.isSome) H2) : tDIn ta tb σ H Q := h
theorem r_dnin (h : ta σ H fun y H1 => tb σ H1 fun x H2 => ∃ a o, x = .ref a ∧ DGet H2 a y o ∧ Q (.bl (!o.isSome)) H2) : tDNotIn ta tb σ H Q := h
theorem r_dinI {a : Addr} {kvs : List (Key × V)} {f : Option V → Prop} (h : H a = some (.dK kvs)) (q : f (valV kvs (.inl i))) : ∃ a' o, V.ref a = .ref a' ∧ DGet H a' (.int i) o ∧ f o := ⟨a, _, rfl, DGet.k (k := Sum.inl i) h, q⟩
theorem r_dnew (h : ∀ p, H p = none → Q (.ref p) (upd H p (.dK []))) : tDNewK σ H Q := h
theorem r_dput {tv : TE} (h : tv σ H fun v H1 => ta σ H1 fun x H2 => tb σ H2 fun y H3 => ∃ a H4, x = .ref a ∧ DPut H3 a y v H4 ∧ D.nx σ H4) : sDPut ta tb tv D σ H := h
theorem r_dputI {a : Addr} {kvs : List (Key × V)} {f : Hp → Prop} (h : H a = some (.dK kvs)) (hz : kvs.length < sizeLine) (q : f (upd H a (.dK (putK kvs (.inl i) v)))) : ∃ a' H4, V.ref a = .ref a' ∧ DPut H a' (.int i) v H4 ∧ f H4 := ⟨a, _, rfl, DPut.k (k := Sum.inl i) h hz, q⟩
theorem r_ddel (h : ta σ H fun x H1 => tb σ H1 fun y H2 => ∃ a kvs k, x = .ref a ∧ H2 a = some (.dK kvs) ∧ y = kV k ∧ (valV kvs k).isSome = true ∧ D.nx σ (upd H2 a (.dK (dropK kvs k)))) : sDDel ta tb D σ H := h
theorem r_ddelI {a : Addr} {kvs : List (Key × V)} {f : Hp → Prop} (h : H a = some (.dK kvs)) (hv : (valV kvs (.inl i)).isSome = true) (q : f (upd H a (.dK (dropK kvs (.inl i))))) :
    ∃ a' kvs k, V.ref a = .ref a' ∧ H a' = some (.dK kvs) ∧ V.int i = kV k ∧ (valV kvs k).isSome = true ∧ f (upd H a' (.dK (dropK kvs k))) := ⟨a, kvs, .inl i, rfl, h, rfl, hv, q⟩
theorem r_dpop (h : ta σ H fun x H1 => ∃ a, x = .ref a ∧ IsD H1 a ∧ tb σ H1 fun y H2 => ∃ kvs k v, H2 a = some (.dK kvs) ∧ y = kV k ∧ valV kvs k = some v ∧ Q v (upd H2 a (.dK (dropK kvs k)))) : tDPop1 ta tb σ H Q := h
theorem r_dpopR {a : Addr} {kvs : List (Key × V)} {P' : Prop} (h : H a = some (.dK kvs)) (q : P') : ∃ a', V.ref a = .ref a' ∧ IsD H a' ∧ P' := ⟨a, rfl, .inl ⟨kvs, .inl h⟩, q⟩
theorem r_dpopI {a : Addr} {kvs : List (Key × V)} {f : V → Hp → Prop} (h : H a = some (.dK kvs)) (hv : valV kvs (.inl i) = some v) (q : f v (upd H a (.dK (dropK kvs (.inl i))))) :
    ∃ kvs k v, H a = some (.dK kvs) ∧ V.int i = kV k ∧ valV kvs k = some v ∧ f v (upd H a (.dK (dropK kvs k))) := ⟨kvs, .inl i, v, h, rfl, hv, q⟩
theorem r_lenD {a : Addr} {kvs : List (Key × V)} (h : H a = some (.dK kvs)) (q : Q (.int kvs.length) H) : rLenD [.ref a] H Q := ⟨a, kvs, rfl, h, q⟩
theorem r_tru {QB : Bool → Hp → Prop} (h : ta σ H fun x H' => ∃ k, TruV K x H' k ∧ QB k H') : tTru K ta σ H QB := h
theorem r_truL {a : Addr} {xs : List V} {f : Bool → Prop} (h : SqL K H a xs) (q : f (!xs.isEmpty)) : ∃ k, TruV K (.ref a) H k ∧ f k := ⟨_, .inl ⟨xs, h, rfl⟩, q⟩
theorem r_sortI {a : Addr} {ns : List Int} (h : SqL K H a (ns.map V.int)) (q : ∀ (ns' : List Int) (p : Addr), ns'.Perm ns → ns'.Pairwise (· ≤ ·) → H p = none → Q (.ref p) (upd H p (.lst (ns'.map V.int)))) : rSortedA K [.ref a] H Q := .inl (.inl ⟨a, ns, rfl, h, q⟩)
theorem r_sortP {a : Addr} {xs : List V} (k : V → Int × Int) (h : SqL K H a xs) (hx : ∀ x ∈ xs, ∃ t, x = V.ref t ∧ H t = some (.tup [.int (k x).1, .int (k x).2])) (q : ∀ ys p, SrtO.Srtd (ltP k) ys → SrtO.Stb (ltP k) ys xs → H p = none → Q (.ref p) (upd H p (.lst ys))) :
    rSortedA K [.ref a] H Q := .inl (.inr ⟨a, xs, k, rfl, h, hx, q⟩)
theorem r_sortD {a : Addr} {kvs : List (Key × V)} {ks : List Int} (h : H a = some (.dK kvs)) (hk : kvs.map (·.1) = ks.map Sum.inl) (q : ∀ (ys : List Int) (p : Addr), ys.Perm ks → ys.Pairwise (· ≤ ·) → H p = none → Q (.ref p) (upd H p (.lst (ys.map V.int)))) : rSortedA K [.ref a] H Q := .inr ⟨a, kvs, ks, rfl, .inl h, hk, q⟩
theorem r_ckw {r : List V → List V → Hp → VK → Prop} {tA tk : TA} (h : tA σ H fun vs H1 => tk σ H1 fun zs H2 => r vs zs H2 Q) : tCKw r tA tk σ H Q := h
theorem r_hpop {l : Addr} {ns : List Int} (h : H l = some (.lst (ns.map V.int))) (o : Hq.Ord ns) (h0 : 0 < ns.length) (q : ∀ ns', (Hq.at0 ns 0 :: ns').Perm ns → Hq.Ord ns' → Q (.int (Hq.at0 ns 0)) (upd H l (.lst (ns'.map V.int)))) : rHpop [.ref l] H Q := ⟨l, ns, rfl, h, o, h0, q⟩
theorem r_hpush {l : Addr} {ns : List Int} (h : H l = some (.lst (ns.map V.int))) (o : Hq.Ord ns) (hz : ns.length < sizeLine) (q : ∀ ns', ns'.Perm (i :: ns) → Hq.Ord ns' → Q .non (upd H l (.lst (ns'.map V.int)))) : rHpush [.ref l, .int i] H Q := ⟨l, ns, i, rfl, h, o, hz, q⟩
theorem r_ifNT (h : R) : if (!true) = true then P else R := h
theorem r_ifNF (h : P) : if (!false) = true then P else R := h
theorem r_yes {QB : Bool → Hp → Prop} (h : QB true H) : tYes σ H QB := h
theorem r_neg1 (q : Q (.int (-1)) H) : rU (fun i => .int (-i)) (.int 1) H Q := ⟨1, rfl, q⟩
theorem r_if2 {p : Prop} [Decidable p] {P1 P2 : Prop} (h1 : p → P1) (h2 : ¬ p → P2) : if p then P1 else P2 := by
  by_cases h : p
  · rw [if_pos h]; exact h1 h
  · rw [if_neg h]; exact h2 h
theorem r_lcL {g : TG} {tt : TT} {te : TE} {vs : List Nat} {tl : TE} (h : tl σ H fun x H1 => ∃ a, x = .ref a ∧ (∃ xs, SqL K H1 a xs) ∧ ∀ D, H1 D = none → ∃ W : Nat → Nat → Hp → Prop, (∃ m, W 0 m (upd H1 D (.lst []))) ∧ ∀ i m H, W i m H →
    ((Itl K a).stop i H ∧ Q (.ref D) H) ∨ ((Itl K a).go i H ∧ ∃ Nx : Hp → Prop, (∀ H', Nx H' → ∃ m', m' < m ∧ W (i + 1) m' H') ∧ ∀ x H', (Itl K a).yld i H x H' → g x (wipe σ vs) H' fun σ2 H2 => wipe σ2 vs = wipe σ vs ∧ tt σ2 H2 fun b H3 =>
      if b = true then te σ2 H3 fun y H4 => ∃ acc, H4 D = some (.lst acc) ∧ acc.length < sizeLine ∧ Nx (upd H4 D (.lst (acc ++ [y]))) else Nx H3)) : tLc (iList K tl) g tt te vs σ H Q := h
theorem r_lcR {g : TG} {tt : TT} {te : TE} {vs : List Nat} {tA : TA} (h : tA σ H fun vs' H1 => ∃ j : Int, vs' = [.int j] ∧ -(2 ^ 62) ≤ j ∧ j < 2 ^ 62 ∧ ∀ D, H1 D = none → ∃ W : Nat → Nat → Hp → Prop, (∃ m, W 0 m (upd H1 D (.lst []))) ∧ ∀ i m H, W i m H →
    ((Itr 0 j.toNat).stop i H ∧ Q (.ref D) H) ∨ ((Itr 0 j.toNat).go i H ∧ ∃ Nx : Hp → Prop, (∀ H', Nx H' → ∃ m', m' < m ∧ W (i + 1) m' H') ∧ ∀ x H', (Itr 0 j.toNat).yld i H x H' → g x (wipe σ vs) H' fun σ2 H2 => wipe σ2 vs = wipe σ vs ∧ tt σ2 H2 fun b H3 =>
      if b = true then te σ2 H3 fun y H4 => ∃ acc, H4 D = some (.lst acc) ∧ acc.length < sizeLine ∧ Nx (upd H4 D (.lst (acc ++ [y]))) else Nx H3)) : tLc (iRng1 tA) g tt te vs σ H Q := h
/-- list(range(n)) -/
theorem r_lstRg {te : L2.St → Hp → (Int → Int → Hp → Prop) → Prop} (h : te σ H fun a b H1 => RgOk a b ∧ ∀ q, H1 q = none → Q (.ref q) (upd H1 q (.lst (rgV a b)))) : tLstRg te σ H Q := h
theorem r_rg1 {QR : Int → Int → Hp → Prop} (h : ta σ H fun x H1 => ∃ n, x = .int n ∧ QR 0 n H1) : tRg1 ta σ H QR := h
theorem r_rg2 {QR : Int → Int → Hp → Prop} (h : ta σ H fun x H1 => tb σ H1 fun y H2 => ∃ i j, x = .int i ∧ y = .int j ∧ QR i j H2) : tRg2 ta tb σ H QR := h
theorem r_intE2 {f : Int → Int → Prop} (q : f i j) : ∃ k l, V.int i = .int k ∧ V.int j = .int l ∧ f k l := ⟨i, j, rfl, rfl, q⟩
end
def But2 (p q : Addr) (H H' : Hp) : Prop := ∀ b o, H b = some o → b ≠ p → b ≠ q → H' b = some o
theorem nd_keys {kvs : List (Key × V)} {k : Key} : (valV kvs k).isSome = true ↔ k ∈ kvs.map (·.1) := by
  cases e : valV kvs k with
  | none => simp only [Option.isSome_none, Bool.false_eq_true, false_iff]; exact valV_not e
  | some v => simp only [Option.isSome_some, true_iff]; exact valV_in e
theorem valV_of_mem {kvs : List (Key × V)} (hn : (kvs.map (·.1)).Nodup) {k : Key} {v : V} (h : (k, v) ∈ kvs) : valV kvs k = some v := by
  induction kvs with
  | nil => cases h
  | cons p r ih =>
    obtain ⟨h1, h2⟩ := List.nodup_cons.mp (show (p.1 :: r.map (·.1)).Nodup from hn)
    rcases List.mem_cons.mp h with e | e
    · rw [← e]; exact valV_pos rfl
    · have : ¬ p.1 = k := fun z => h1 (List.mem_map.mpr ⟨_, e, z.symm⟩)
      rw [valV_neg this]
      exact ih h2 e
theorem valV_drop {kvs : List (Key × V)} {k j : Key} : valV (dropK kvs k) j = if j = k then none else valV kvs j := by
  induction kvs with
  | nil => by_cases e : j = k <;> simp [e, valV_nil, dropK]
  | cons p r ih =>
    by_cases e : p.1 = k
    · rw [dropK_pos e, ih]
      by_cases e2 : j = k
      · rw [if_pos e2, if_pos e2]
      · rw [if_neg e2, if_neg e2, valV_neg (fun z => e2 (by rw [← z, e]))]
    · rw [dropK_neg e]
      by_cases e2 : p.1 = j
      · rw [valV_pos e2, valV_pos e2, if_neg (fun z => e (by rw [e2, z]))]
      · rw [valV_neg e2, valV_neg e2, ih]
theorem keys_drop {kvs : List (Key × V)} (k : Key) : (dropK kvs k).map (·.1) = (kvs.map (·.1)).filter fun j => decide (j ≠ k) := by
  unfold dropK
  rw [List.filter_map]
  rfl
/-! ### more steps: stores, bools, comprehensions as functions -/
section
variable {K : PySem.W.Frag} {σ : L2.St} {H : Hp} {Q : VK} {D : Ends} {x y v : V} {ta tb tc : TE} {t u : TT} {ts tu : TS} {i j : Int} {b : Bool} {P R : Prop}
theorem r_gsub {st : TSet} {N : L2.St → Hp → Prop} (h : ta σ H fun o H1 => tb σ H1 fun i H2 => st o i v H2 fun H3 => N σ H3) : gSub ta tb st v σ H N := h
theorem r_gtup {n : Nat} {tg : TGs} {N : L2.St → Hp → Prop} {a : Addr} {xs : List V} (h : SqT K H a xs) (hl : xs.length = n) (q : tg xs σ H N) : gTup K n tg (.ref a) σ H N := ⟨a, xs, rfl, h, hl, q⟩
theorem r_gcons {g : TG} {gs : TGs} {N : L2.St → Hp → Prop} {r : List V} (h : g v σ H fun σ' H' => gs r σ' H' N) : gCons g gs (v :: r) σ H N := ⟨v, r, rfl, h⟩
theorem r_gnil {N : L2.St → Hp → Prop} (h : N σ H) : gNil [] σ H N := ⟨rfl, h⟩
theorem r_setL {l : Addr} {xs : List V} {n : Nat} {N : Hp → Prop} (h : H l = some (.lst xs)) (e : i = (n : Int)) (hn : n < xs.length) (q : N (upd H l (.lst (xs.set n v)))) : rSetL (.ref l) (.int i) v H N := by
  refine ⟨l, xs, i, n, rfl, rfl, h, ?_, q⟩
  unfold ixN
  rw [if_pos (by omega), if_pos (by omega)]
  congr 1
  omega
theorem inV_bl (c : Bool) (row : List Bool) : inV (.bl c) (row.map V.bl) = decide (c ∈ row) := by
  unfold inV
  induction row with
  | nil => rfl
  | cons b r ih =>
    rw [List.map_cons, List.any_cons, ih]
    cases b <;> cases c <;> simp [eqV]
theorem flat_bools (row : List Bool) : (row.map V.bl).all flatV = true := by
  rw [List.all_eq_true]
  intro v hv
  obtain ⟨n, _, rfl⟩ := List.mem_map.mp hv
  rfl
theorem bl_at {row : List Bool} {i : Nat} {b : Bool} (h : row[i]? = some b) : (row.map V.bl)[i]? = some (.bl b) := by rw [List.getElem?_map, h]; rfl
theorem int_at {ns : List Int} {i : Nat} {b : Int} (h : ns[i]? = some b) : (ns.map V.int)[i]? = some (.int b) := by rw [List.getElem?_map, h]; rfl
theorem r_inB {l : Addr} {row : List Bool} {c : Bool} (h : SqL K H l (row.map V.bl)) (q : Q (.bl (decide (c ∈ row))) H) : rInP K (.bl c) (.ref l) H Q := .inl ⟨l, _, rfl, .inl h, rfl, flat_bools row, by rw [inV_bl]; exact q⟩
theorem r_ninB {l : Addr} {row : List Bool} {c : Bool} (h : SqL K H l (row.map V.bl)) (q : Q (.bl (!decide (c ∈ row))) H) : rInN K (.bl c) (.ref l) H Q := .inl ⟨l, _, rfl, .inl h, rfl, flat_bools row, by rw [inV_bl]; exact q⟩
theorem idx_at {row : List Bool} {c : Bool} (h : c ∈ row) : row[row.idxOf c]? = some c := by
  have hl := List.idxOf_lt_length_of_mem h
  rw [List.getElem?_eq_getElem hl, List.getElem_idxOf hl]
theorem idx_first {row : List Bool} {c : Bool} {m : Nat} (h : m < row.idxOf c) : row[m]? = some (!c) ∨ row[m]? = none := by
  cases e : row[m]? with
  | none => exact .inr rfl
  | some b =>
    left
    obtain ⟨hm, hb⟩ := List.getElem?_eq_some_iff.mp e
    have : row[m] ≠ c := fun z => by
      have q := List.not_of_lt_findIdx (p := (· == c)) (xs := row) (i := m) (by show m < List.idxOf c row; exact h)
      rw [z] at q
      simp at q
    rw [hb] at this
    cases b <;> cases c <;> first | rfl | exact absurd rfl this
theorem r_indexB {l : Addr} {row : List Bool} {c : Bool} (h : SqL K H l (row.map V.bl)) (hc : c ∈ row) (q : Q (.int ((row.idxOf c : Nat) : Int)) H) : rIndexA K (.ref l) [.bl c] H Q := by
  refine .inl ⟨l, row.map V.bl, .bl c, row.idxOf c, .bl c, rfl, rfl, h, rfl, flat_bools row, bl_at (idx_at hc), by cases c <;> rfl, fun m z hm hz => ?_, q⟩
  rw [List.getElem?_map] at hz
  rcases idx_first hm with e | e
  · rw [e] at hz
    cases hz
    cases c <;> rfl
  · rw [e] at hz; cases hz
theorem r_cntB {l : Addr} {row : List Bool} {c : Bool} (h : SqL K H l (row.map V.bl)) (q : Q (.int ((row.count c : Nat) : Int)) H) : rCntB K (.ref l) [.bl c] H Q := ⟨l, row, c, rfl, rfl, h, q⟩
/-- [e for x in xs if t]: what each item gives, f -/
theorem lc_fm {a : Addr} {xs : List V} {g : TG} {tt : TT} {te : TE} {vs : List Nat} {H1 : Hp} {D : Addr} {Qd : Hp → Prop} (f : V → Option V) (hD : H1 D = none) (hs : SqL K H1 a xs) (hz : xs.length ≤ sizeLine)
    (step : ∀ (i : Nat) x H (Ny : V → Hp → Prop) (Nn : Hp → Prop), xs[i]? = some x → Same H1 H → (∀ y H4, Same H H4 → f x = some y → Ny y H4) → (∀ H3, Same H H3 → f x = none → Nn H3) →
      g x (wipe σ vs) H fun σ2 H2 => wipe σ2 vs = wipe σ vs ∧ tt σ2 H2 fun b H3 => if b = true then te σ2 H3 Ny else Nn H3)
    (hd : ∀ H', Same H1 H' → H' D = some (.lst (xs.filterMap f)) → Qd H') :
    ∃ W : Nat → Nat → Hp → Prop, (∃ m, W 0 m (upd H1 D (.lst []))) ∧ ∀ i m H, W i m H →
      ((Itl K a).stop i H ∧ Qd H) ∨ ((Itl K a).go i H ∧ ∃ Nx : Hp → Prop, (∀ H', Nx H' → ∃ m', m' < m ∧ W (i + 1) m' H') ∧ ∀ x H', (Itl K a).yld i H x H' → g x (wipe σ vs) H' fun σ2 H2 => wipe σ2 vs = wipe σ vs ∧ tt σ2 H2 fun b H3 =>
        if b = true then te σ2 H3 fun y H4 => ∃ acc, H4 D = some (.lst acc) ∧ acc.length < sizeLine ∧ Nx (upd H4 D (.lst (acc ++ [y]))) else Nx H3) := by
  refine lc_list (K := K) (xs := xs) (fun i H => Same H1 H ∧ H D = some (.lst ((xs.take i).filterMap f))) ⟨same_new hD, by rw [upd_same]; rfl⟩ (fun i H _ p => p.1.seq hs) (fun i x H hx p => ?_) (fun H p => hd H p.1 (by rw [List.take_length] at p; exact p.2))
  obtain ⟨s, hl⟩ := p
  have hi : i < xs.length := (List.getElem?_eq_some_iff.mp hx).1
  have et : xs.take (i + 1) = xs.take i ++ [x] := by rw [List.take_add_one, hx]; rfl
  refine step i x H _ _ hx s (fun y H4 s4 hf => ⟨_, s4 _ _ hl, ?_, fun b o e => ?_, ?_⟩) (fun H3 s3 hf => ⟨s.trans s3, ?_⟩)
  · have := List.length_filterMap_le f (xs.take i)
    rw [List.length_take] at this
    omega
  · rw [upd_ne (ne_of_none e hD)]
    exact s4 _ _ (s _ _ e)
  · rw [upd_same, et, List.filterMap_append]
    simp [hf]
  · rw [s3 _ _ hl, et, List.filterMap_append]
    simp [hf]
/-- the same over range(n) -/
theorem lc_fmR {lo : Int} {n : Nat} {g : TG} {tt : TT} {te : TE} {vs : List Nat} {H1 : Hp} {D : Addr} {Qd : Hp → Prop} (f : Nat → Option V) (hD : H1 D = none) (hz : n ≤ sizeLine)
    (step : ∀ (i : Nat) H (Ny : V → Hp → Prop) (Nn : Hp → Prop), i < n → Same H1 H → (∀ y H4, Same H H4 → f i = some y → Ny y H4) → (∀ H3, Same H H3 → f i = none → Nn H3) →
      g (.int (lo + i)) (wipe σ vs) H fun σ2 H2 => wipe σ2 vs = wipe σ vs ∧ tt σ2 H2 fun b H3 => if b = true then te σ2 H3 Ny else Nn H3)
    (hd : ∀ H', Same H1 H' → H' D = some (.lst ((List.range n).filterMap f)) → Qd H') :
    ∃ W : Nat → Nat → Hp → Prop, (∃ m, W 0 m (upd H1 D (.lst []))) ∧ ∀ i m H, W i m H →
      ((Itr lo n).stop i H ∧ Qd H) ∨ ((Itr lo n).go i H ∧ ∃ Nx : Hp → Prop, (∀ H', Nx H' → ∃ m', m' < m ∧ W (i + 1) m' H') ∧ ∀ x H', (Itr lo n).yld i H x H' → g x (wipe σ vs) H' fun σ2 H2 => wipe σ2 vs = wipe σ vs ∧ tt σ2 H2 fun b H3 =>
        if b = true then te σ2 H3 fun y H4 => ∃ acc, H4 D = some (.lst acc) ∧ acc.length < sizeLine ∧ Nx (upd H4 D (.lst (acc ++ [y]))) else Nx H3) := by
  refine lc_range (fun i H => Same H1 H ∧ H D = some (.lst ((List.range i).filterMap f))) ⟨same_new hD, by rw [upd_same]; rfl⟩ (fun i H hi p => ?_) (fun H p => hd H p.1 p.2)
  obtain ⟨s, hl⟩ := p
  refine step i H _ _ hi s (fun y H4 s4 hf => ⟨_, s4 _ _ hl, ?_, fun b o e => ?_, ?_⟩) (fun H3 s3 hf => ⟨s.trans s3, ?_⟩)
  · have := List.length_filterMap_le f (List.range i)
    rw [List.length_range] at this
    omega
  · rw [upd_ne (ne_of_none e hD)]
    exact s4 _ _ (s _ _ e)
  · rw [upd_same, List.range_succ, List.filterMap_append]
    simp [hf]
  · rw [s3 _ _ hl, List.range_succ, List.filterMap_append]
    simp [hf]
/-- [(..) for x in xs]: each item gives a thing that stands so from then on -/
theorem lc_rel {a : Addr} {xs : List V} {g : TG} {te : TE} {vs : List Nat} {H1 : Hp} {D : Addr} {Qd : Hp → Prop} (Rl : V → V → Hp → Prop) (hRs : ∀ x y H H', Rl x y H → Same H H' → Rl x y H') (hRu : ∀ x y H acc ys, Rl x y H → H D = some (.lst acc) → Rl x y (upd H D (.lst ys)))
    (hD : H1 D = none) (hs : SqL K H1 a xs) (hz : xs.length ≤ sizeLine)
    (step : ∀ (i : Nat) x H (Ny : V → Hp → Prop), xs[i]? = some x → Same H1 H → (∀ y H4, Same H H4 → Rl x y H4 → Ny y H4) → g x (wipe σ vs) H fun σ2 H2 => wipe σ2 vs = wipe σ vs ∧ te σ2 H2 Ny)
    (hd : ∀ H' ys, Same H1 H' → H' D = some (.lst ys) → ys.length = xs.length → (∀ (i : Nat) x y, xs[i]? = some x → ys[i]? = some y → Rl x y H') → Qd H') :
    ∃ W : Nat → Nat → Hp → Prop, (∃ m, W 0 m (upd H1 D (.lst []))) ∧ ∀ i m H, W i m H →
      ((Itl K a).stop i H ∧ Qd H) ∨ ((Itl K a).go i H ∧ ∃ Nx : Hp → Prop, (∀ H', Nx H' → ∃ m', m' < m ∧ W (i + 1) m' H') ∧ ∀ x H', (Itl K a).yld i H x H' → g x (wipe σ vs) H' fun σ2 H2 => wipe σ2 vs = wipe σ vs ∧ tYes σ2 H2 fun b H3 =>
        if b = true then te σ2 H3 fun y H4 => ∃ acc, H4 D = some (.lst acc) ∧ acc.length < sizeLine ∧ Nx (upd H4 D (.lst (acc ++ [y]))) else Nx H3) := by
  refine lc_list (K := K) (xs := xs) (tt := tYes) (fun i H => Same H1 H ∧ ∃ ys, H D = some (.lst ys) ∧ ys.length = i ∧ ∀ (j : Nat) x y, xs[j]? = some x → ys[j]? = some y → Rl x y H) ⟨same_new hD, [], upd_same, rfl, fun j x y _ h => by simp at h⟩ (fun i H _ p => p.1.seq hs) (fun i x H hx p => ?_) (fun H p => ?_)
  · obtain ⟨s, ys, hl, hn, hr⟩ := p
    have hi : i < xs.length := (List.getElem?_eq_some_iff.mp hx).1
    refine step i x H (fun y H4 => ∃ acc, H4 D = some (.lst acc) ∧ acc.length < sizeLine ∧ (Same H1 (upd H4 D (.lst (acc ++ [y]))) ∧ ∃ ys, upd H4 D (.lst (acc ++ [y])) D = some (.lst ys) ∧ ys.length = i + 1 ∧ ∀ (j : Nat) x y', xs[j]? = some x → ys[j]? = some y' → Rl x y' (upd H4 D (.lst (acc ++ [y]))))) hx s (fun y H4 s4 hR => ⟨ys, s4 _ _ hl, by omega, fun b o e => ?_, ys ++ [y], upd_same, by simp [hn], fun j x' y' hx' hy' => hRu _ _ _ ys _ ?_ (s4 _ _ hl)⟩)
    · rw [upd_ne (ne_of_none e hD)]
      exact s4 _ _ (s _ _ e)
    · by_cases hj : j < ys.length
      · rw [List.getElem?_append_left hj] at hy'
        exact hRs _ _ _ _ (hr j x' y' hx' hy') s4
      · have hj2 : j < (ys ++ [y]).length := (List.getElem?_eq_some_iff.mp hy').1
        rw [List.length_append, List.length_singleton] at hj2
        have e : j = i := by omega
        subst e
        rw [List.getElem?_append_right (by omega), hn, Nat.sub_self] at hy'
        rw [hx] at hx'
        cases hx'
        cases hy'
        exact hR
  · obtain ⟨s, ys, hl, hn, hr⟩ := p
    exact hd H ys s hl hn hr
end

theorem flat_rep {α : Type} (v : α) : ∀ n : Nat, (List.replicate n [v]).flatten = List.replicate n v
  | 0 => rfl
  | n + 1 => by rw [List.replicate_succ, List.flatten_cons, flat_rep v n, List.replicate_succ]; rfl

theorem cut_dropA {xs : List V} (k : Nat) : cutV xs (some (k : Int)) none = xs.drop k := by
  unfold cutV
  rw [HT.sIx_none, HT.sIx_nat]
  by_cases h : k ≤ xs.length
  · rw [Nat.min_eq_left h, List.take_of_length_le (by rw [List.length_drop]; exact Nat.le_refl _)]
  · rw [Nat.min_eq_right (by omega), List.drop_of_length_le (Nat.le_refl _), List.drop_of_length_le (by omega)]
    simp
theorem cut_takeA {xs : List V} (k : Nat) : cutV xs none (some (k : Int)) = xs.take k := by
  unfold cutV
  rw [HT.sIx_none, HT.sIx_nat]
  by_cases h : k ≤ xs.length
  · rw [Nat.min_eq_left h, List.drop_zero, Nat.sub_zero]
  · rw [Nat.min_eq_right (by omega), List.drop_zero, Nat.sub_zero, List.take_of_length_le (by omega), List.take_of_length_le (by omega)]

local macro_rules | `(tactic| walk_at "rd0") => `(tactic| first
  | assumption | decide | omega | rfl)
local macro_rules | `(tactic| walk_at "rd1") => `(tactic| first
  | with_reducible refine r_seq ?_
  | with_reducible refine r_asg ?_
  | with_reducible refine r_name ?_
  | with_reducible refine r_nx ?_
  | with_reducible refine r_rt ?_
  | with_reducible refine r_c ?_
  | ((with_reducible refine r_var (v := ?_) ?_ ?_); (rotate_left; rfl))
  | with_reducible refine r_op ?_
  | with_reducible refine r_un ?_
  | with_reducible refine r_cb ?_
  | with_reducible refine r_cons ?_
  | with_reducible refine r_nil ?_
  | with_reducible refine r_call ?_
  | with_reducible refine r_callS ?_
  | with_reducible refine r_meth ?_
  | with_reducible refine r_methS ?_
  | with_reducible refine r_make ?_
  | with_reducible refine r_makeS ?_
  | with_reducible refine r_add ?_
  | with_reducible refine r_sub ?_
  | with_reducible refine r_neg ?_
  | with_reducible refine r_lt ?_
  | with_reducible refine r_le ?_
  | with_reducible refine r_gt ?_
  | with_reducible refine r_ge ?_
  | with_reducible refine r_eqI ?_
  | with_reducible refine r_neI ?_
  | with_reducible refine r_eqB ?_
  | with_reducible refine r_neB ?_
  | with_reducible refine r_isN ?_
  | with_reducible refine r_notN ?_
  | ((with_reducible refine r_mod ?_ ?_); (walk_at "rd0"))
  | ((with_reducible refine r_div ?_ ?_ ?_); (walk_at "rd0"); (walk_at "rd0"))
  | with_reducible refine r_test ?_
  | with_reducible refine r_B ?_
  | with_reducible refine r_blV ?_
  | with_reducible refine r_ifT ?_
  | with_reducible refine r_ifF ?_
  | with_reducible refine r_ifS ?_
  | with_reducible refine r_not ?_
  | with_reducible refine r_and ?_
  | with_reducible refine r_or ?_
  | with_reducible refine r_andV ?_
  | with_reducible refine r_orV ?_
  | with_reducible refine r_notV ?_
  | with_reducible refine r_chain ?_
  | with_reducible refine r_if ?_
  | with_reducible refine r_next ?_
  | with_reducible refine r_ret ?_
  | with_reducible refine r_retN ?_
  | with_reducible refine r_drop ?_
  | with_reducible refine r_break ?_
  | with_reducible refine r_cont ?_
  | with_reducible refine r_bk ?_
  | with_reducible refine r_ct ?_
  | with_reducible refine r_sfld ?_
  | with_reducible refine r_fld ?_
  | with_reducible refine r_tup ?_
  | with_reducible refine r_lst ?_
  | with_reducible refine r_bm ?_
  | with_reducible refine r_bm0 ?_
  | with_reducible refine r_sl ?_
  | with_reducible refine r_noPart ?_
  | with_reducible refine r_part ?_
  | with_reducible refine r_intE ?_
  | with_reducible refine r_abs ?_
  | with_reducible refine r_intI ?_
  | with_reducible refine r_intB ?_
  | with_reducible refine isi_II ?_
  | with_reducible refine isi_IB ?_
  | with_reducible refine isi_BI ?_
  | with_reducible refine isi_BB ?_
  | with_reducible refine isi_SI ?_
  | with_reducible refine isi_SB ?_
  | with_reducible refine isi_NI ?_
  | with_reducible refine isi_NB ?_
  | with_reducible refine isi_SL ?_
  | with_reducible refine isi_NL ?_
  | with_reducible refine r_dget ?_
  | with_reducible refine r_din ?_
  | with_reducible refine r_dnin ?_
  | with_reducible refine r_dnew ?_
  | with_reducible refine r_dput ?_
  | with_reducible refine r_ddel ?_
  | with_reducible refine r_dpop ?_
  | with_reducible refine r_tru ?_
  | with_reducible refine r_ckw ?_
  | with_reducible refine r_yes ?_
  | with_reducible refine r_lcL ?_
  | with_reducible refine r_lcR ?_
  | with_reducible refine r_lstRg ?_
  | with_reducible refine r_rg1 ?_
  | with_reducible refine r_rg2 ?_
  | with_reducible refine r_intE2 ?_
  | with_reducible refine r_gsub ?_
  | with_reducible refine r_gcons ?_
  | with_reducible refine r_gnil ?_
  | with_reducible refine r_ifNT ?_
  | with_reducible refine r_ifNF ?_
  | with_reducible refine r_forL ?_
  | with_reducible refine r_forR ?_)
local macro_rules | `(tactic| walk_at "rd") => `(tactic| repeat (walk_at "rd1"))

structure Ad where
  K : PySem.W.Frag
  c_Shelf : Addr
  c_Room : Addr
  c_Plan : Addr
  c_RoomError : Addr
  c_BadPlan : Addr
  c_BadWish : Addr
  c_TooLarge : Addr
  c_NoSize : Addr
  c_NoRoom : Addr
  c_NotOut : Addr
  c_OutOfThing : Addr
  v_fullest_first : Addr
  lamC : Addr
  lamP : Addr
  lamQ : Str
  lamO : Addr → Addr → HO

/-! ### rows of slots -/
def freeFrom (k : Nat) : List Bool → List Int
  | [] => []
  | b :: r => if b = true then freeFrom (k + 1) r else (k : Int) :: freeFrom (k + 1) r
def takenFrom (k : Nat) : List Bool → List Int
  | [] => []
  | b :: r => if b = true then (k : Int) :: takenFrom (k + 1) r else takenFrom (k + 1) r
theorem mem_free : ∀ (row : List Bool) (k : Nat) (x : Int), x ∈ freeFrom k row ↔ ∃ i : Nat, x = ((k + i : Nat) : Int) ∧ row[i]? = some false
  | [], k, x => by simp [freeFrom]
  | b :: r, k, x => by
    have ih := mem_free r (k + 1) x
    unfold freeFrom
    constructor
    · intro h
      cases b with
      | true =>
        rw [if_pos rfl, ih] at h
        obtain ⟨i, h1, h2⟩ := h
        exact ⟨i + 1, by rw [h1]; congr 1; omega, by simpa using h2⟩
      | false =>
        rw [if_neg Bool.false_ne_true, List.mem_cons, ih] at h
        rcases h with h | ⟨i, h1, h2⟩
        · exact ⟨0, h, rfl⟩
        · exact ⟨i + 1, by rw [h1]; congr 1; omega, by simpa using h2⟩
    · rintro ⟨i, h1, h2⟩
      cases i with
      | zero =>
        have e : b = false := by simpa using h2
        rw [e, if_neg Bool.false_ne_true, h1]
        exact List.mem_cons_self
      | succ i =>
        have : x ∈ freeFrom (k + 1) r := ih.mpr ⟨i, by rw [h1]; congr 1; omega, by simpa using h2⟩
        split
        · exact this
        · exact List.mem_cons_of_mem _ this
theorem mem_taken : ∀ (row : List Bool) (k : Nat) (x : Int), x ∈ takenFrom k row ↔ ∃ i : Nat, x = ((k + i : Nat) : Int) ∧ row[i]? = some true
  | [], k, x => by simp [takenFrom]
  | b :: r, k, x => by
    have ih := mem_taken r (k + 1) x
    unfold takenFrom
    constructor
    · intro h
      cases b with
      | false =>
        rw [if_neg Bool.false_ne_true, ih] at h
        obtain ⟨i, h1, h2⟩ := h
        exact ⟨i + 1, by rw [h1]; congr 1; omega, by simpa using h2⟩
      | true =>
        rw [if_pos rfl, List.mem_cons, ih] at h
        rcases h with h | ⟨i, h1, h2⟩
        · exact ⟨0, h, rfl⟩
        · exact ⟨i + 1, by rw [h1]; congr 1; omega, by simpa using h2⟩
    · rintro ⟨i, h1, h2⟩
      cases i with
      | zero =>
        have e : b = true := by simpa using h2
        rw [e, if_pos rfl, h1]
        exact List.mem_cons_self
      | succ i =>
        have : x ∈ takenFrom (k + 1) r := ih.mpr ⟨i, by rw [h1]; congr 1; omega, by simpa using h2⟩
        split
        · exact List.mem_cons_of_mem _ this
        · exact this
theorem free_ge {row : List Bool} {k : Nat} {x : Int} (h : x ∈ freeFrom k row) : (k : Int) ≤ x := by
  obtain ⟨i, h1, _⟩ := (mem_free row k x).mp h
  omega
theorem taken_ge {row : List Bool} {k : Nat} {x : Int} (h : x ∈ takenFrom k row) : (k : Int) ≤ x := by
  obtain ⟨i, h1, _⟩ := (mem_taken row k x).mp h
  omega
theorem free_up : ∀ (row : List Bool) (k : Nat), (freeFrom k row).Pairwise (· < ·)
  | [], _ => List.Pairwise.nil
  | b :: r, k => by
    unfold freeFrom
    split
    · exact free_up r (k + 1)
    · refine List.Pairwise.cons (fun x hx => ?_) (free_up r (k + 1))
      have := free_ge hx
      omega
theorem taken_up : ∀ (row : List Bool) (k : Nat), (takenFrom k row).Pairwise (· < ·)
  | [], _ => List.Pairwise.nil
  | b :: r, k => by
    unfold takenFrom
    split
    · refine List.Pairwise.cons (fun x hx => ?_) (taken_up r (k + 1))
      have := taken_ge hx
      omega
    · exact taken_up r (k + 1)
theorem nodup_of_lt {l : List Int} (h : l.Pairwise (· < ·)) : l.Nodup := h.imp fun q e => by omega
theorem perm_of_mem {l m : List Int} (h1 : l.Nodup) (h2 : m.Nodup) (h : ∀ x, x ∈ l ↔ x ∈ m) : l.Perm m := (List.perm_ext_iff_of_nodup h1 h2).mpr h
theorem up_unique : ∀ {l m : List Int}, l.Pairwise (· < ·) → m.Pairwise (· ≤ ·) → m.Perm l → m = l
  | [], m, _, _, p => List.Perm.eq_nil p
  | x :: l, [], _, _, p => absurd p.length_eq (by simp)
  | x :: l, y :: m, h1, h2, p => by
    obtain ⟨a1, a2⟩ := List.pairwise_cons.mp h1
    obtain ⟨b1, b2⟩ := List.pairwise_cons.mp h2
    have e : y = x := by
      have q1 : y ∈ x :: l := p.mem_iff.mp List.mem_cons_self
      have q2 : x ∈ y :: m := p.mem_iff.mpr List.mem_cons_self
      rcases List.mem_cons.mp q1 with e | q1
      · exact e
      · rcases List.mem_cons.mp q2 with e | q2
        · exact e.symm
        · have := a1 y q1
          have := b1 x q2
          omega
    subst e
    rw [up_unique a2 b2 (List.Perm.cons_inv p)]
theorem len_free : ∀ (row : List Bool) (k : Nat), (freeFrom k row).length = row.count false
  | [], _ => rfl
  | b :: r, k => by
    unfold freeFrom
    cases b with
    | true => rw [if_pos rfl, len_free r, List.count_cons]; simp
    | false => rw [if_neg Bool.false_ne_true, List.length_cons, len_free r, List.count_cons]; simp
theorem len_taken : ∀ (row : List Bool) (k : Nat), (takenFrom k row).length = row.count true
  | [], _ => rfl
  | b :: r, k => by
    unfold takenFrom
    cases b with
    | false => rw [if_neg Bool.false_ne_true, len_taken r, List.count_cons]; simp
    | true => rw [if_pos rfl, List.length_cons, len_taken r, List.count_cons]; simp
theorem free_set {row : List Bool} {i : Nat} (h : row[i]? = some false) : (freeFrom 0 row).Perm ((i : Int) :: freeFrom 0 (row.set i true)) := by
  have hi : i < row.length := (List.getElem?_eq_some_iff.mp h).1
  refine perm_of_mem (nodup_of_lt (free_up _ _)) (List.nodup_cons.mpr ⟨fun m => ?_, nodup_of_lt (free_up _ _)⟩) fun x => ?_
  · obtain ⟨j, h1, h2⟩ := (mem_free _ _ _).mp m
    have : i = j := by omega
    subst this
    rw [List.getElem?_set_self (by simpa using hi)] at h2
    cases h2
  · rw [List.mem_cons, mem_free, mem_free]
    constructor
    · rintro ⟨j, h1, h2⟩
      by_cases e : i = j
      · left; omega
      · right; exact ⟨j, h1, by rw [List.getElem?_set_ne e]; exact h2⟩
    · rintro (e | ⟨j, h1, h2⟩)
      · exact ⟨i, by rw [e]; simp, h⟩
      · by_cases e : i = j
        · subst e
          rw [List.getElem?_set_self (by simpa using hi)] at h2
          cases h2
        · rw [List.getElem?_set_ne e] at h2
          exact ⟨j, h1, h2⟩
theorem taken_set {row : List Bool} {i : Nat} (h : row[i]? = some false) : (takenFrom 0 (row.set i true)).Perm ((i : Int) :: takenFrom 0 row) := by
  have hi : i < row.length := (List.getElem?_eq_some_iff.mp h).1
  refine perm_of_mem (nodup_of_lt (taken_up _ _)) (List.nodup_cons.mpr ⟨fun m => ?_, nodup_of_lt (taken_up _ _)⟩) fun x => ?_
  · obtain ⟨j, h1, h2⟩ := (mem_taken _ _ _).mp m
    have : i = j := by omega
    subst this
    rw [h] at h2
    cases h2
  · rw [List.mem_cons, mem_taken, mem_taken]
    constructor
    · rintro ⟨j, h1, h2⟩
      by_cases e : i = j
      · left; omega
      · right
        rw [List.getElem?_set_ne e] at h2
        exact ⟨j, h1, h2⟩
    · rintro (e | ⟨j, h1, h2⟩)
      · exact ⟨i, by rw [e]; simp, by rw [List.getElem?_set_self (by simpa using hi)]⟩
      · by_cases e : i = j
        · subst e
          rw [h] at h2
          cases h2
        · exact ⟨j, h1, by rw [List.getElem?_set_ne e]; exact h2⟩
theorem set_back {row : List Bool} {i : Nat} (h : row[i]? = some true) : (row.set i false).set i true = row := by
  rw [List.set_set]
  refine List.ext_getElem? fun j => ?_
  by_cases e : i = j
  · subst e
    rw [List.getElem?_set_self (List.getElem?_eq_some_iff.mp h).1, h]
  · rw [List.getElem?_set_ne e]
theorem set_false {row : List Bool} {i : Nat} (h : row[i]? = some true) : (row.set i false)[i]? = some false := List.getElem?_set_self (List.getElem?_eq_some_iff.mp h).1
theorem free_all (n : Nat) : ∀ k, freeFrom k (List.replicate n false) = (List.range n).map fun i => ((k + i : Nat) : Int) := by
  induction n with
  | zero => intro k; rfl
  | succ n ih =>
    intro k
    rw [List.replicate_succ]
    unfold freeFrom
    rw [if_neg Bool.false_ne_true, ih, List.range_succ_eq_map, List.map_cons, List.map_map]
    congr 1
    refine List.map_congr_left fun i _ => ?_
    show ((k + 1 + i : Nat) : Int) = ((k + (i + 1) : Nat) : Int)
    congr 1
    omega
theorem taken_none (n : Nat) : ∀ k, takenFrom k (List.replicate n false) = [] := by
  induction n with
  | zero => intro k; rfl
  | succ n ih =>
    intro k
    rw [List.replicate_succ]
    unfold takenFrom
    rw [if_neg Bool.false_ne_true, ih]
/-- the least free slot -/
theorem free_head : ∀ (row : List Bool) (k : Nat), false ∈ row → ∃ t, freeFrom k row = ((k + row.idxOf false : Nat) : Int) :: t
  | [], _, h => nomatch h
  | b :: r, k, h => by
    unfold freeFrom
    cases b with
    | false => rw [if_neg Bool.false_ne_true]; exact ⟨freeFrom (k + 1) r, by simp⟩
    | true =>
      rw [if_pos rfl]
      obtain ⟨t, ht⟩ := free_head r (k + 1) (by simpa using h)
      refine ⟨t, ?_⟩
      rw [ht, List.idxOf_cons]
      simp
      omega
theorem idx_false {row : List Bool} (h : false ∈ row) : row[row.idxOf false]? = some false := by
  have hl := List.idxOf_lt_length_of_mem h
  rw [List.getElem?_eq_getElem hl, List.getElem_idxOf hl]
theorem up_le {l : List Int} (h : l.Pairwise (· < ·)) : l.Pairwise (· ≤ ·) := h.imp fun q => by omega
theorem ord_of_up {l : List Int} (h : l.Pairwise (· < ·)) : Hq.Ord l := fun i i0 il => by
  unfold Hq.at0
  have h1 : (i - 1) / 2 < l.length := by omega
  rw [List.getD_eq_getElem?_getD, List.getD_eq_getElem?_getD, List.getElem?_eq_getElem il, List.getElem?_eq_getElem h1]
  have := List.pairwise_iff_getElem.mp h _ _ h1 il (by omega)
  show l[(i - 1) / 2] ≤ l[i]
  omega
/-- the first of a heap is the least free slot -/
theorem heap_first {ns : List Int} {row : List Bool} (o : Hq.Ord ns) (p : ns.Perm (freeFrom 0 row)) (h : false ∈ row) : Hq.at0 ns 0 = ((row.idxOf false : Nat) : Int) := by
  obtain ⟨t, ht⟩ := free_head row 0 h
  rw [Nat.zero_add] at ht
  have hu := free_up row 0
  rw [ht] at p hu
  have hl : 0 < ns.length := by rw [p.length_eq]; simp
  have m0 : Hq.at0 ns 0 ∈ ns := by
    unfold Hq.at0
    rw [List.getD_eq_getElem?_getD, List.getElem?_eq_getElem hl]
    exact List.getElem_mem hl
  have m1 := p.mem_iff.mp m0
  have m2 : ((row.idxOf false : Nat) : Int) ∈ ns := p.mem_iff.mpr List.mem_cons_self
  obtain ⟨k, hk⟩ := List.mem_iff_getElem?.mp m2
  have hkl : k < ns.length := (List.getElem?_eq_some_iff.mp hk).1
  have a := Hq.ord_least o k hkl
  have e : Hq.at0 ns k = ((row.idxOf false : Nat) : Int) := by
    unfold Hq.at0
    rw [List.getD_eq_getElem?_getD, hk]; rfl
  rcases List.mem_cons.mp m1 with z | z
  · exact z
  · have := (List.pairwise_cons.mp hu).1 _ z
    omega
/-! ### a shelf in the heap -/
def shelfF (pg sz : Int) (fl td : Addr) : List (Str × V) := putF "_taken" (.ref td) (putF "_free" (.ref fl) (putF "size" (.int sz) (putF "page" (.int pg) [])))
theorem sf_page (pg sz : Int) (fl td : Addr) : (shelfF pg sz fl td).lookup ("page" : Str) = some (.int pg) := by
  unfold shelfF
  rw [lookup_putF, if_neg (by decide +kernel), lookup_putF, if_neg (by decide +kernel), lookup_putF, if_neg (by decide +kernel), lookup_putF, if_pos rfl]
theorem sf_size (pg sz : Int) (fl td : Addr) : (shelfF pg sz fl td).lookup ("size" : Str) = some (.int sz) := by
  unfold shelfF
  rw [lookup_putF, if_neg (by decide +kernel), lookup_putF, if_neg (by decide +kernel), lookup_putF, if_pos rfl]
theorem sf_free (pg sz : Int) (fl td : Addr) : (shelfF pg sz fl td).lookup ("_free" : Str) = some (.ref fl) := by
  unfold shelfF
  rw [lookup_putF, if_neg (by decide +kernel), lookup_putF, if_pos rfl]
theorem sf_taken (pg sz : Int) (fl td : Addr) : (shelfF pg sz fl td).lookup ("_taken" : Str) = some (.ref td) := by
  unfold shelfF
  rw [lookup_putF, if_pos rfl]
theorem sf_no (pg sz : Int) (fl td : Addr) {x : Str} (h1 : ¬ x = "_taken") (h2 : ¬ x = "_free") (h3 : ¬ x = "size") (h4 : ¬ x = "page") : (shelfF pg sz fl td).lookup x = none := by
  unfold shelfF
  rw [lookup_putF, if_neg h1, lookup_putF, if_neg h2, lookup_putF, if_neg h3, lookup_putF, if_neg h4]
  rfl
/-- a shelf stands at a: its free slots at fl, what is taken at td -/
structure ShelfAt (A : Ad) (H : Hp) (a fl td : Addr) (pg sz : Int) (row : List Bool) : Prop where
  ob : ∃ dx, H a = some (.ins A.c_Shelf dx (shelfF pg sz fl td))
  fr : ∃ ns, H fl = some (.lst (ns.map V.int)) ∧ Hq.Ord ns ∧ ns.Perm (freeFrom 0 row)
  tk : ∃ kvs, H td = some (.dK kvs) ∧ (kvs.map (·.1)).Perm ((takenFrom 0 row).map Sum.inl)
  z : row.length ≤ 60
theorem ShelfAt.same {A : Ad} {H H' : Hp} {a fl td : Addr} {pg sz : Int} {row : List Bool} (h : ShelfAt A H a fl td pg sz row) (s1 : ∀ o, H a = some o → H' a = some o) (s2 : ∀ o, H fl = some o → H' fl = some o) (s3 : ∀ o, H td = some o → H' td = some o) : ShelfAt A H' a fl td pg sz row := by
  obtain ⟨⟨dx, h1⟩, ⟨ns, h2, h3⟩, ⟨kvs, h4, h5⟩, hz⟩ := h
  exact ⟨⟨dx, s1 _ h1⟩, ⟨ns, s2 _ h2, h3⟩, ⟨kvs, s3 _ h4, h5⟩, hz⟩
theorem ShelfAt.sm {A : Ad} {H H' : Hp} {a fl td : Addr} {pg sz : Int} {row : List Bool} (h : ShelfAt A H a fl td pg sz row) (s : Same H H') : ShelfAt A H' a fl td pg sz row := h.same (fun o => s _ o) (fun o => s _ o) (fun o => s _ o)
/-! ### the promises of shelves -/
def sp_Shelf_init (A : Ad) : Sp := fun vs H Q _ => ∃ p dx pg sz, ∃ n : Nat, vs = [.ref p, .int pg, .int sz, .int n] ∧ H p = some (.ins A.c_Shelf dx []) ∧ n ≤ 60 ∧
  ∀ H' fl td, But p H H' → H fl = none → H td = none → fl ≠ p → td ≠ p → fl ≠ td → ShelfAt A H' p fl td pg sz (List.replicate n false) → Q .non H'
def sp_Shelf_out (A : Ad) : Sp := fun vs H Q _ => ∃ a fl td pg sz row, vs = [.ref a] ∧ ShelfAt A H a fl td pg sz row ∧ Q (.int ((row.count true : Nat) : Int)) H
def sp_Shelf_free (A : Ad) : Sp := fun vs H Q _ => ∃ a fl td pg sz row, vs = [.ref a] ∧ ShelfAt A H a fl td pg sz row ∧ ∀ p, H p = none → Q (.ref p) (upd H p (.lst ((freeFrom 0 row).map V.int)))
def sp_Shelf_take (A : Ad) : Sp := fun vs H Q E => ∃ a fl td pg sz row, vs = [.ref a] ∧ ShelfAt A H a fl td pg sz row ∧ (false ∉ row → E (.ref A.c_NoRoom) none H) ∧
  (false ∈ row → ∀ H', But2 fl td H H' → ShelfAt A H' a fl td pg sz (row.set (row.idxOf false) true) → Q (.int ((row.idxOf false : Nat) : Int)) H')
def sp_Shelf_give (A : Ad) : Sp := fun vs H Q E => ∃ a fl td pg sz row s, vs = [.ref a, .int s] ∧ ShelfAt A H a fl td pg sz row ∧ ((∀ i : Nat, s = i → row[i]? ≠ some true) → E (.ref A.c_NotOut) none H) ∧
  ∀ i : Nat, s = i → row[i]? = some true → ∀ H', But2 fl td H H' → ShelfAt A H' a fl td pg sz (row.set i false) → Q .non H'
theorem len_Shelf_init (A : Ad) {vs : List V} {H : Hp} {Q : VK} {E : XK} (h : sp_Shelf_init A vs H Q E) : vs.length = 4 := by
  obtain ⟨_, _, _, _, _, rfl, _⟩ := h; rfl
theorem len_Shelf_out (A : Ad) {vs : List V} {H : Hp} {Q : VK} {E : XK} (h : sp_Shelf_out A vs H Q E) : vs.length = 1 := by
  obtain ⟨_, _, _, _, _, _, rfl, _⟩ := h; rfl
theorem len_Shelf_free (A : Ad) {vs : List V} {H : Hp} {Q : VK} {E : XK} (h : sp_Shelf_free A vs H Q E) : vs.length = 1 := by
  obtain ⟨_, _, _, _, _, _, rfl, _⟩ := h; rfl
theorem len_Shelf_take (A : Ad) {vs : List V} {H : Hp} {Q : VK} {E : XK} (h : sp_Shelf_take A vs H Q E) : vs.length = 1 := by
  obtain ⟨_, _, _, _, _, _, rfl, _⟩ := h; rfl
theorem len_Shelf_give (A : Ad) {vs : List V} {H : Hp} {Q : VK} {E : XK} (h : sp_Shelf_give A vs H Q E) : vs.length = 2 := by
  obtain ⟨_, _, _, _, _, _, _, rfl, _⟩ := h; rfl

/-! ### the data: values without an address, a plan's fields -/
def plainV : V → Bool
  | .non => true
  | .bl _ => true
  | .int _ => true
  | .str _ => true
  | _ => false
def isI : V → Bool
  | .int _ => true
  | _ => false
/-- a whole number from a to b -/
def inR (x : V) (a b : Int) : Bool := match x with
  | .int i => decide (a ≤ i) && decide (i ≤ b)
  | _ => false
/-- rising from beyond a, up to n -/
def okFrom (n : Int) : Int → List V → Bool
  | _, [] => true
  | a, .int i :: r => decide (a + 1 ≤ i) && decide (i ≤ n) && okFrom n i r
  | _, _ :: _ => false
def okSizes (xs : List V) (n : Int) : Bool := decide (1 ≤ xs.length) && decide (xs.length ≤ 8) && okFrom n 0 xs
def planF (m n : Int) (l : Addr) : List (Str × V) := putF "sizes" (.ref l) (putF "length" (.int n) (putF "pages" (.int m) []))
theorem pf_pages (m n : Int) (l : Addr) : (planF m n l).lookup ("pages" : Str) = some (.int m) := by
  unfold planF
  rw [lookup_putF, if_neg (by decide +kernel), lookup_putF, if_neg (by decide +kernel), lookup_putF, if_pos rfl]
theorem pf_length (m n : Int) (l : Addr) : (planF m n l).lookup ("length" : Str) = some (.int n) := by
  unfold planF
  rw [lookup_putF, if_neg (by decide +kernel), lookup_putF, if_pos rfl]
theorem pf_sizes (m n : Int) (l : Addr) : (planF m n l).lookup ("sizes" : Str) = some (.ref l) := by
  unfold planF
  rw [lookup_putF, if_pos rfl]
theorem pf_no (m n : Int) (l : Addr) {x : Str} (h1 : ¬ x = "sizes") (h2 : ¬ x = "length") (h3 : ¬ x = "pages") : (planF m n l).lookup x = none := by
  unfold planF
  rw [lookup_putF, if_neg h1, lookup_putF, if_neg h2, lookup_putF, if_neg h3]
  rfl
theorem pf_len1 (m : Int) : (putF "pages" (.int m) []).length < 1000 := by show 1 < 1000; decide
theorem pf_len2 (m n : Int) : (putF "length" (.int n) (putF "pages" (.int m) [])).length < 1000 := by
  have := length_putF "length" (.int n) (putF "pages" (.int m) [])
  have h1 := pf_len1 m
  show _ < 1000
  have : (putF "pages" (V.int m) []).length = 1 := rfl
  omega
/-- a plan stands at p -/
structure PlanAt (A : Ad) (H : Hp) (p : Addr) (m n : Int) (xs : List Int) : Prop where
  ob : ∃ dx l, H p = some (.ins A.c_Plan dx (planF m n l)) ∧ H l = some (.lst (xs.map V.int))
  m1 : 1 ≤ m
  m2 : m ≤ 40
  n1 : 1 ≤ n
  n2 : n ≤ 60
  ok : okSizes (xs.map V.int) n = true
theorem PlanAt.same {A : Ad} {H H' : Hp} {p : Addr} {m n : Int} {xs : List Int} (h : PlanAt A H p m n xs) (s : Same H H') : PlanAt A H' p m n xs := by
  obtain ⟨⟨dx, l, h1, h2⟩, a, b, c, d, e⟩ := h
  exact ⟨⟨dx, l, s _ _ h1, s _ _ h2⟩, a, b, c, d, e⟩
theorem okFrom_mem {n : Int} : ∀ {xs : List Int} {a : Int}, okFrom n a (xs.map V.int) = true → ∀ x ∈ xs, a + 1 ≤ x ∧ x ≤ n
  | [], _, _, _, h => nomatch h
  | y :: r, a, h, x, hx => by
    have h' : (decide (a + 1 ≤ y) && decide (y ≤ n) && okFrom n y (r.map V.int)) = true := h
    simp only [Bool.and_eq_true, decide_eq_true_eq] at h'
    obtain ⟨⟨h1, h2⟩, h3⟩ := h'
    rcases List.mem_cons.mp hx with e | e
    · omega
    · have := okFrom_mem h3 x e
      omega
theorem okSizes_mem {n : Int} {xs : List Int} (h : okSizes (xs.map V.int) n = true) (x : Int) (hx : x ∈ xs) : 1 ≤ x ∧ x ≤ n := by
  unfold okSizes at h
  simp only [Bool.and_eq_true] at h
  have := okFrom_mem h.2 x hx
  omega
theorem okSizes_len {n : Int} {xs : List Int} (h : okSizes (xs.map V.int) n = true) : xs.length ≤ 8 := by
  unfold okSizes at h
  simp only [Bool.and_eq_true, decide_eq_true_eq, List.length_map] at h
  omega
/-! ### the promises of errors and plans -/
def spPlain1 : Sp := fun vs H Q _ => ∃ x, vs = [x] ∧ plainV x = true ∧ Q (.bl (isI x)) H
def sp_is_whole (A : Ad) : Sp := spPlain1
def sp_is_within (A : Ad) : Sp := fun vs H Q _ => ∃ x a b, vs = [x, .int a, .int b] ∧ plainV x = true ∧ Q (.bl (inR x a b)) H
def notList (s : V) (H : Hp) : Prop := plainV s = true ∨ ∃ t ys, s = .ref t ∧ H t = some (.tup ys)
def sp_check_sizes (A : Ad) : Sp := fun vs H Q E => ∃ s n, vs = [s, .int n] ∧
  ((∃ l xs, s = .ref l ∧ H l = some (.lst xs) ∧ xs.all plainV = true ∧ (okSizes xs n = true → Q .non H) ∧ (okSizes xs n = false → E (.ref A.c_BadPlan) none H)) ∨ (notList s H ∧ E (.ref A.c_BadPlan) none H))
def badPlan (pg ln sz : V) (H : Hp) : Prop := inR pg 1 40 = false ∨ inR ln 1 60 = false ∨ (isI ln = true ∧ notList sz H) ∨ ∃ n l xs, ln = .int n ∧ sz = .ref l ∧ H l = some (.lst xs) ∧ xs.all plainV = true ∧ okSizes xs n = false
def sp_Plan_init (A : Ad) : Sp := fun vs H Q E => ∃ p dx pg ln sz, vs = [.ref p, pg, ln, sz] ∧ H p = some (.ins A.c_Plan dx []) ∧ plainV pg = true ∧ plainV ln = true ∧
  ((∃ (m n : Int) (xs : List Int) (l : Addr), pg = .int m ∧ ln = .int n ∧ sz = .ref l ∧ 1 ≤ m ∧ m ≤ 40 ∧ 1 ≤ n ∧ n ≤ 60 ∧ H l = some (.lst (xs.map V.int)) ∧ okSizes (xs.map V.int) n = true ∧
      ∀ H' l', H l' = none → H' p = some (.ins A.c_Plan dx (planF m n l')) → H' l' = some (.lst (xs.map V.int)) → But p H H' → Q .non H') ∨
    (badPlan pg ln sz H ∧ E (.ref A.c_BadPlan) none H))
def sp_Plan_size_for (A : Ad) : Sp := fun vs H Q E => ∃ (p : Addr) (m n : Int) (xs : List Int) (w : V), vs = [.ref p, w] ∧ PlanAt A H p m n xs ∧ plainV w = true ∧
  ((isI w = false ∨ ∃ i, w = .int i ∧ i < 1) → E (.ref A.c_BadWish) none H) ∧
  (∀ i, w = .int i → 1 ≤ i → (∀ s, xs.find? (fun s => decide (i ≤ s)) = some s → Q (.int s) H) ∧ (xs.find? (fun s => decide (i ≤ s)) = none → E (.ref A.c_TooLarge) none H))
def sp_Plan_per (A : Ad) : Sp := fun vs H Q E => ∃ (p : Addr) (m n : Int) (xs : List Int) (s : V), vs = [.ref p, s] ∧ PlanAt A H p m n xs ∧ plainV s = true ∧
  (∀ i, s = .int i → i ∈ xs → Q (.int (n / i)) H) ∧ ((∀ i, s = .int i → i ∉ xs) → E (.ref A.c_NoSize) none H)
def spL (K : PySem.W.Frag) : Sp := fun vs H Q _ => ∃ (a : Addr) (ns : List Int), vs = [.ref a] ∧ SqL K H a (ns.map V.int) ∧ ns.length ≤ 63 ∧ ∀ H', Q (.bl true) H'
theorem len_is_whole (A : Ad) {vs : List V} {H : Hp} {Q : VK} {E : XK} (h : sp_is_whole A vs H Q E) : vs.length = 1 := by
  obtain ⟨x, rfl, _⟩ := h; rfl
theorem len_is_within (A : Ad) {vs : List V} {H : Hp} {Q : VK} {E : XK} (h : sp_is_within A vs H Q E) : vs.length = 3 := by
  obtain ⟨x, a, b, rfl, _⟩ := h; rfl
theorem len_check_sizes (A : Ad) {vs : List V} {H : Hp} {Q : VK} {E : XK} (h : sp_check_sizes A vs H Q E) : vs.length = 2 := by
  obtain ⟨x, a, rfl, _⟩ := h; rfl
theorem len_Plan_init (A : Ad) {vs : List V} {H : Hp} {Q : VK} {E : XK} (h : sp_Plan_init A vs H Q E) : vs.length = 4 := by
  obtain ⟨p, dx, pg, ln, sz, rfl, _⟩ := h; rfl
theorem len_Plan_size_for (A : Ad) {vs : List V} {H : Hp} {Q : VK} {E : XK} (h : sp_Plan_size_for A vs H Q E) : vs.length = 2 := by
  obtain ⟨p, m, n, xs, w, rfl, _⟩ := h; rfl
theorem len_Plan_per (A : Ad) {vs : List V} {H : Hp} {Q : VK} {E : XK} (h : sp_Plan_per A vs H Q E) : vs.length = 2 := by
  obtain ⟨p, m, n, xs, w, rfl, _⟩ := h; rfl

/-! ### rooms: the pages by their rows of slots, the things by what they hold -/
abbrev Bits := List (Option (Int × List Bool))
abbrev Held := Int → Option (List V)
def isSh (bs : Bits) (p : Nat) : Bool := match bs[p]? with
  | some (some _) => true
  | _ => false
def szAt (bs : Bits) (p : Nat) : Int := match bs[p]? with
  | some (some (s, _)) => s
  | _ => 0
def rowAt (bs : Bits) (p : Nat) : List Bool := match bs[p]? with
  | some (some (_, r)) => r
  | _ => []
def outAt (bs : Bits) (p : Nat) : Nat := (rowAt bs p).count true
def pagesOf (bs : Bits) : List Nat := (List.range bs.length).filter fun p => isSh bs p
def pileOf (bs : Bits) : List Nat := (List.range bs.length).filter fun p => !isSh bs p
def ofSize (bs : Bits) (s : Int) : List Nat := (pagesOf bs).filter fun p => decide (szAt bs p = s)
def unused (bs : Bits) : List Nat := (pagesOf bs).filter fun p => decide (outAt bs p = 0)
def cands (bs : Bits) (s : Int) : List Nat := (ofSize bs s).filter fun p => decide (false ∈ rowAt bs p)
theorem sh_get {bs : Bits} {p : Nat} (h : isSh bs p = true) : bs[p]? = some (some (szAt bs p, rowAt bs p)) := by
  unfold isSh at h
  unfold szAt rowAt
  cases e : bs[p]? with
  | none => rw [e] at h; cases h
  | some o =>
    cases o with
    | none => rw [e] at h; cases h
    | some q => rfl
theorem sh_lt {bs : Bits} {p : Nat} (h : isSh bs p = true) : p < bs.length := (List.getElem?_eq_some_iff.mp (sh_get h)).1
theorem sh_row {bs : Bits} {p : Nat} {b : Bool} (h : b ∈ rowAt bs p) : isSh bs p = true := by
  unfold rowAt at h
  unfold isSh
  cases e : bs[p]? with
  | none => rw [e] at h; cases h
  | some o =>
    cases o with
    | none => rw [e] at h; cases h
    | some q => rfl
theorem sh_at {bs : Bits} {p k : Nat} {b : Bool} (h : (rowAt bs p)[k]? = some b) : isSh bs p = true := sh_row (List.mem_of_getElem? h)
theorem mem_pages {bs : Bits} {p : Nat} : p ∈ pagesOf bs ↔ isSh bs p = true := by
  unfold pagesOf
  rw [List.mem_filter, List.mem_range]
  exact ⟨fun h => h.2, fun h => ⟨sh_lt h, h⟩⟩
theorem mem_pile {bs : Bits} {p : Nat} : p ∈ pileOf bs ↔ p < bs.length ∧ isSh bs p = false := by
  unfold pileOf
  rw [List.mem_filter, List.mem_range, Bool.not_eq_true']
theorem mem_ofSize {bs : Bits} {p : Nat} {s : Int} : p ∈ ofSize bs s ↔ isSh bs p = true ∧ szAt bs p = s := by
  unfold ofSize
  rw [List.mem_filter, mem_pages, decide_eq_true_eq]
theorem mem_unused {bs : Bits} {p : Nat} : p ∈ unused bs ↔ isSh bs p = true ∧ outAt bs p = 0 := by
  unfold unused
  rw [List.mem_filter, mem_pages, decide_eq_true_eq]
theorem mem_cands {bs : Bits} {p : Nat} {s : Int} : p ∈ cands bs s ↔ isSh bs p = true ∧ szAt bs p = s ∧ false ∈ rowAt bs p := by
  unfold cands
  rw [List.mem_filter, mem_ofSize, decide_eq_true_eq, and_assoc]
theorem range_up (n : Nat) : (List.range n).Pairwise (· < ·) := List.pairwise_lt_range
theorem pages_up (bs : Bits) : (pagesOf bs).Pairwise (· < ·) := (range_up _).filter _
theorem pages_le (bs : Bits) : (pagesOf bs).length ≤ bs.length := by
  unfold pagesOf
  exact Nat.le_trans (List.length_filter_le _ _) (by rw [List.length_range]; exact Nat.le_refl _)
theorem nd_lt {l : List Nat} (h : l.Pairwise (· < ·)) : l.Nodup := h.imp fun q e => by omega
theorem pages_nd (bs : Bits) : (pagesOf bs).Nodup := nd_lt (pages_up bs)
/-! a page is changed -/
theorem isSh_set {bs : Bits} {p q : Nat} {o : Option (Int × List Bool)} (hp : p < bs.length) : isSh (bs.set p o) q = if q = p then o.isSome else isSh bs q := by
  unfold isSh
  by_cases h : q = p
  · subst h
    rw [List.getElem?_set_self hp, if_pos rfl]
    cases o with
    | none => rfl
    | some x => rfl
  · rw [List.getElem?_set_ne (fun z => h z.symm), if_neg h]
theorem szAt_set {bs : Bits} {p q : Nat} {s : Int} {row : List Bool} (hp : p < bs.length) : szAt (bs.set p (some (s, row))) q = if q = p then s else szAt bs q := by
  unfold szAt
  by_cases h : q = p
  · subst h
    rw [List.getElem?_set_self hp, if_pos rfl]
  · rw [List.getElem?_set_ne (fun z => h z.symm), if_neg h]
theorem rowAt_set {bs : Bits} {p q : Nat} {s : Int} {row : List Bool} (hp : p < bs.length) : rowAt (bs.set p (some (s, row))) q = if q = p then row else rowAt bs q := by
  unfold rowAt
  by_cases h : q = p
  · subst h
    rw [List.getElem?_set_self hp, if_pos rfl]
  · rw [List.getElem?_set_ne (fun z => h z.symm), if_neg h]
theorem szAt_drop {bs : Bits} {p q : Nat} (h : q ≠ p) : szAt (bs.set p none) q = szAt bs q := by
  unfold szAt
  rw [List.getElem?_set_ne (fun z => h z.symm)]
theorem rowAt_drop {bs : Bits} {p q : Nat} (h : q ≠ p) : rowAt (bs.set p none) q = rowAt bs q := by
  unfold rowAt
  rw [List.getElem?_set_ne (fun z => h z.symm)]
theorem rowAt_gone {bs : Bits} {p : Nat} : rowAt (bs.set p none) p = [] := by
  unfold rowAt
  by_cases hp : p < bs.length
  · rw [List.getElem?_set_self hp]
  · rw [List.getElem?_eq_none (by rw [List.length_set]; omega)]
/-- the rules that rows keep -/
structure Wf (m n : Int) (xs : List Int) (bs : Bits) : Prop where
  len : bs.length = m.toNat
  ok : ∀ (p : Nat), isSh bs p = true → szAt bs p ∈ xs ∧ (rowAt bs p).length = (n / szAt bs p).toNat
/-- shelves given back -/
def dropPages (bs : Bits) (ps : List Nat) : Bits := ps.foldl (fun b p => b.set p none) bs
def takeAt (bs : Bits) (p : Nat) : Bits := bs.set p (some (szAt bs p, (rowAt bs p).set ((rowAt bs p).idxOf false) true))
def newShelf (n : Int) (bs : Bits) (p : Nat) (s : Int) : Bits := bs.set p (some (s, List.replicate (n / s).toNat false))
def giveAt (bs : Bits) (p k : Nat) : Bits := bs.set p (some (szAt bs p, (rowAt bs p).set k false))
def giveSt (bs : Bits) (p k : Nat) : Bits := if outAt (giveAt bs p k) p = 0 ∧ 1 < ((unused (giveAt bs p k)).filter fun q => decide (szAt (giveAt bs p k) q = szAt (giveAt bs p k) p)).length then (giveAt bs p k).set p none else giveAt bs p k
theorem wf_set {m n : Int} {xs : List Int} {bs : Bits} {p : Nat} {s : Int} {row : List Bool} (h : Wf m n xs bs) (hp : p < bs.length) (hs : s ∈ xs) (hr : row.length = (n / s).toNat) : Wf m n xs (bs.set p (some (s, row))) := by
  refine ⟨by rw [List.length_set]; exact h.len, fun q hq => ?_⟩
  rw [isSh_set hp] at hq
  rw [szAt_set hp, rowAt_set hp]
  by_cases e : q = p
  · rw [if_pos e, if_pos e]; exact ⟨hs, hr⟩
  · rw [if_neg e] at hq ⊢
    rw [if_neg e]
    exact h.ok q hq
theorem wf_drop {m n : Int} {xs : List Int} {bs : Bits} {p : Nat} (h : Wf m n xs bs) : Wf m n xs (bs.set p none) := by
  refine ⟨by rw [List.length_set]; exact h.len, fun q hq => ?_⟩
  by_cases e : q = p
  · subst e
    exfalso
    by_cases hp : q < bs.length
    · rw [isSh_set hp, if_pos rfl] at hq
      cases hq
    · have := sh_lt hq
      rw [List.length_set] at this
      exact hp this
  · rw [szAt_drop e, rowAt_drop e]
    refine h.ok q ?_
    unfold isSh at hq ⊢
    rw [List.getElem?_set_ne (fun z => e z.symm)] at hq
    exact hq
theorem isSh_drop {bs : Bits} {p q : Nat} : isSh (bs.set p none) q = true ↔ q ≠ p ∧ isSh bs q = true := by
  by_cases hp : p < bs.length
  · rw [isSh_set hp]
    by_cases e : q = p
    · rw [if_pos e]
      exact ⟨fun h => (by cases h), fun h => absurd e h.1⟩
    · rw [if_neg e]
      exact ⟨fun h => ⟨e, h⟩, fun h => h.2⟩
  · rw [List.set_eq_of_length_le (by omega)]
    exact ⟨fun h => ⟨fun z => hp (z ▸ sh_lt h), h⟩, fun h => h.2⟩
theorem drops_sh : ∀ {ps : List Nat} {bs : Bits} {q : Nat}, isSh (dropPages bs ps) q = true ↔ q ∉ ps ∧ isSh bs q = true
  | [], bs, q => by simp [dropPages]
  | p :: ps, bs, q => by
    show isSh (dropPages (bs.set p none) ps) q = true ↔ _
    rw [drops_sh, isSh_drop, List.mem_cons, not_or]
    exact ⟨fun h => ⟨⟨h.2.1, h.1⟩, h.2.2⟩, fun h => ⟨h.1.2, h.1.1, h.2⟩⟩
theorem drops_at : ∀ {ps : List Nat} {bs : Bits} {q : Nat}, q ∉ ps → szAt (dropPages bs ps) q = szAt bs q ∧ rowAt (dropPages bs ps) q = rowAt bs q
  | [], bs, q, _ => ⟨rfl, rfl⟩
  | p :: ps, bs, q, h => by
    rw [List.mem_cons, not_or] at h
    show szAt (dropPages (bs.set p none) ps) q = _ ∧ rowAt (dropPages (bs.set p none) ps) q = _
    obtain ⟨a, b⟩ := drops_at (bs := bs.set p none) h.2
    rw [a, b, szAt_drop h.1, rowAt_drop h.1]
    exact ⟨rfl, rfl⟩
theorem drops_len : ∀ {ps : List Nat} {bs : Bits}, (dropPages bs ps).length = bs.length
  | [], _ => rfl
  | p :: ps, bs => by
    show (dropPages (bs.set p none) ps).length = _
    rw [drops_len, List.length_set]
theorem drops_wf {m n : Int} {xs : List Int} : ∀ {ps : List Nat} {bs : Bits}, Wf m n xs bs → Wf m n xs (dropPages bs ps)
  | [], _, h => h
  | p :: ps, bs, h => drops_wf (ps := ps) (wf_drop h)
/-! which shelf, which page -/
/-- the shelf with the most things out, of like ones the one of the least page -/
def IsBest (bs : Bits) (s : Int) (p : Nat) : Prop := p ∈ cands bs s ∧ ∀ q ∈ cands bs s, outAt bs q < outAt bs p ∨ (outAt bs q = outAt bs p ∧ p ≤ q)
/-- the page for a new shelf -/
def pageFor (bs : Bits) : Option Nat := (pileOf bs).head?.or (unused bs).head?
/-- which page the next thing of the size goes to, and the pages then -/
def ForSize (n : Int) (bs : Bits) (s : Int) (p : Nat) (bs' : Bits) : Prop := (IsBest bs s p ∧ bs' = bs) ∨ (cands bs s = [] ∧ pageFor bs = some p ∧ bs' = newShelf n bs p s)
/-- how many such wishes would be met -/
def roomFor (n : Int) (bs : Bits) (s : Int) : Int := ((ofSize bs s).map fun p => (((rowAt bs p).count false : Nat) : Int)).sum + (((pileOf bs).length : Int) + (((unused bs).filter fun p => decide (szAt bs p ≠ s)).length : Int)) * (n / s)
def shelvesOf (bs : Bits) : List (Int × Int × Int) := (pagesOf bs).map fun p : Nat => ((p : Int), szAt bs p, ((outAt bs p : Nat) : Int))
/-! the things -/
def placesAt (n : Int) (bs : Bits) (p : Nat) : List Int := (takenFrom 0 (rowAt bs p)).map fun k => (p : Int) * n + k * szAt bs p
def thingsOf (n : Int) (bs : Bits) : List (Int × Int) := (pagesOf bs).flatMap fun p => (placesAt n bs p).map fun x => (x, szAt bs p)
/-- what is held is what is out -/
def Con (n : Int) (bs : Bits) (hf : Held) : Prop := ∀ x s, (∃ c, hf x = some c ∧ (c.length : Int) = s) ↔ (x, s) ∈ thingsOf n bs
/-! gathering -/
def mvH (hf : Held) (a b : Int) : Held := fun y => if y = b then hf a else if y = a then none else hf y
def fill (n : Int) (ri : List Nat) : List Int → Bits → Held → Bits × Held × List (Int × Int)
  | [], bs, hf => (bs, hf, [])
  | x :: xs, bs, hf => match ri.find? (fun p => decide (false ∈ rowAt bs p)) with
    | none => (bs, hf, [])
    | some g => let y := (g : Int) * n + (((rowAt bs g).idxOf false : Nat) : Int) * szAt bs g
      ((fill n ri xs (takeAt bs g) (mvH hf x y)).1, (fill n ri xs (takeAt bs g) (mvH hf x y)).2.1, (x, y) :: (fill n ri xs (takeAt bs g) (mvH hf x y)).2.2)
def freeSum (bs : Bits) (ps : List Nat) : Nat := (ps.map fun p => (rowAt bs p).count false).sum
def outSum (bs : Bits) (ps : List Nat) : Nat := (ps.map fun p => outAt bs p).sum
def needed (n : Int) (bs : Bits) (s : Int) : Nat := (((outSum bs (ofSize bs s) : Nat) + n / s - 1) / (n / s)).toNat
def IsRank (bs : Bits) (s : Int) (rk : List Nat) : Prop := rk.Perm (ofSize bs s) ∧ rk.Pairwise fun p q => outAt bs q < outAt bs p ∨ (outAt bs p = outAt bs q ∧ p < q)
/-- those of a list of pages, rising -/
def rise (bs : Bits) (ps : List Nat) : List Nat := (pagesOf bs).filter fun p => decide (p ∈ ps)
def placesOn (n : Int) (bs : Bits) (ps : List Nat) : List Int := (rise bs ps).flatMap fun p => placesAt n bs p
def gath (n : Int) (bs : Bits) (hf : Held) (s : Int) (rk : List Nat) : Bits × Held × List (Int × Int) :=
  let f := fill n (rise bs (rk.take (needed n bs s))) (placesOn n bs (rk.drop (needed n bs s))) bs hf
  (dropPages f.1 (rk.drop (needed n bs s)), f.2.1, f.2.2)

/-! ### where things begin -/
structure Ok (m n : Int) (xs : List Int) (bs : Bits) : Prop where
  wf : Wf m n xs bs
  n1 : 1 ≤ n
  sz : ∀ s ∈ xs, 1 ≤ s ∧ s ≤ n
theorem mem_placesAt {n : Int} {bs : Bits} {p : Nat} {x : Int} : x ∈ placesAt n bs p ↔ ∃ k : Nat, (rowAt bs p)[k]? = some true ∧ x = (p : Int) * n + (k : Int) * szAt bs p := by
  unfold placesAt
  rw [List.mem_map]
  constructor
  · rintro ⟨z, hz, rfl⟩
    obtain ⟨i, e, h⟩ := (mem_taken _ _ _).mp hz
    rw [Nat.zero_add] at e
    exact ⟨i, h, by rw [e]⟩
  · rintro ⟨k, h, rfl⟩
    exact ⟨(k : Int), (mem_taken _ _ _).mpr ⟨k, by rw [Nat.zero_add], h⟩, rfl⟩
theorem mem_things {n : Int} {bs : Bits} {x s : Int} : (x, s) ∈ thingsOf n bs ↔ ∃ p k : Nat, (rowAt bs p)[k]? = some true ∧ x = (p : Int) * n + (k : Int) * szAt bs p ∧ s = szAt bs p := by
  unfold thingsOf
  rw [List.mem_flatMap]
  constructor
  · rintro ⟨p, hp, h⟩
    obtain ⟨y, hy, e⟩ := List.mem_map.mp h
    cases e
    obtain ⟨k, h1, h2⟩ := mem_placesAt.mp hy
    exact ⟨p, k, h1, h2, rfl⟩
  · rintro ⟨p, k, h1, h2, h3⟩
    exact ⟨p, mem_pages.mpr (sh_at h1), List.mem_map.mpr ⟨x, mem_placesAt.mpr ⟨k, h1, h2⟩, by rw [h3]⟩⟩
theorem Ok.size {m n : Int} {xs : List Int} {bs : Bits} (h : Ok m n xs bs) {p : Nat} (hp : isSh bs p = true) : 1 ≤ szAt bs p ∧ szAt bs p ≤ n := h.sz _ (h.wf.ok p hp).1
/-- a slot lies within its page -/
theorem Ok.slot {m n : Int} {xs : List Int} {bs : Bits} (h : Ok m n xs bs) {p k : Nat} (hp : isSh bs p = true) (hk : k < (rowAt bs p).length) : (k : Int) * szAt bs p + szAt bs p ≤ n ∧ 0 ≤ (k : Int) * szAt bs p := by
  obtain ⟨h1, h2⟩ := h.size hp
  have hl := (h.wf.ok p hp).2
  have hd : 0 ≤ n / szAt bs p := Int.ediv_nonneg (by omega) (by omega)
  have hk2 : (k : Int) + 1 ≤ n / szAt bs p := by omega
  have := (Int.le_ediv_iff_mul_le (by omega : 0 < szAt bs p)).mp hk2
  rw [Int.add_mul, Int.one_mul] at this
  exact ⟨this, Int.mul_nonneg (by omega) (by omega)⟩
theorem row_lt {row : List Bool} {k : Nat} {b : Bool} (h : row[k]? = some b) : k < row.length := (List.getElem?_eq_some_iff.mp h).1
/-- the page and the slot of a place -/
theorem Ok.page {m n : Int} {xs : List Int} {bs : Bits} (h : Ok m n xs bs) {p k : Nat} (hp : isSh bs p = true) (hk : k < (rowAt bs p).length) : ((p : Int) * n + (k : Int) * szAt bs p) / n = p ∧ ((p : Int) * n + (k : Int) * szAt bs p) % n = (k : Int) * szAt bs p := by
  obtain ⟨a, b⟩ := h.slot hp hk
  obtain ⟨c, _⟩ := h.size hp
  have hn := h.n1
  rw [Int.add_comm]
  rw [Int.add_mul_ediv_right _ _ (by omega : n ≠ 0), Int.ediv_eq_zero_of_lt b (by omega), Int.zero_add]
  refine ⟨rfl, ?_⟩
  rw [Int.add_mul_emod_self_right]
  exact Int.emod_eq_of_lt b (by omega)
theorem Ok.inj {m n : Int} {xs : List Int} {bs : Bits} (h : Ok m n xs bs) {p k q j : Nat} (hp : isSh bs p = true) (hk : k < (rowAt bs p).length) (hq : isSh bs q = true) (hj : j < (rowAt bs q).length) (e : (p : Int) * n + (k : Int) * szAt bs p = (q : Int) * n + (j : Int) * szAt bs q) : p = q ∧ k = j := by
  obtain ⟨a, b⟩ := h.page hp hk
  obtain ⟨c, d⟩ := h.page hq hj
  rw [e] at a b
  have e1 : p = q := by omega
  subst e1
  refine ⟨rfl, ?_⟩
  have e2 : (k : Int) * szAt bs p = (j : Int) * szAt bs p := by omega
  have := (h.size hp).1
  have := Int.eq_of_mul_eq_mul_right (by omega) e2
  omega
theorem places_up {m n : Int} {xs : List Int} {bs : Bits} (h : Ok m n xs bs) {p : Nat} (hp : isSh bs p = true) : (placesAt n bs p).Pairwise (· < ·) := by
  unfold placesAt
  rw [List.pairwise_map]
  have := (h.size hp).1
  refine (taken_up _ 0).imp fun {a b} e => ?_
  have := Int.mul_lt_mul_of_pos_right e (by omega : 0 < szAt bs p)
  omega
theorem pl_range {m n : Int} {xs : List Int} {bs : Bits} (h : Ok m n xs bs) {p : Nat} {x : Int} (hx : x ∈ placesAt n bs p) : (p : Int) * n ≤ x ∧ x < (p : Int) * n + n := by
  obtain ⟨k, h1, rfl⟩ := mem_placesAt.mp hx
  obtain ⟨a, b⟩ := h.slot (sh_at h1) (row_lt h1)
  have := (h.size (sh_at h1)).1
  omega
/-- the places on rising pages rise -/
theorem flat_up {m n : Int} {xs : List Int} {bs : Bits} (h : Ok m n xs bs) {ps : List Nat} (hu : ps.Pairwise (· < ·)) (hs : ∀ p ∈ ps, isSh bs p = true) : (ps.flatMap fun p => placesAt n bs p).Pairwise (· < ·) := by
  rw [List.pairwise_flatMap]
  refine ⟨fun p hp => places_up h (hs p hp), hu.imp fun {p q} e x hx y hy => ?_⟩
  have a := pl_range h hx
  have b := pl_range h hy
  have : ((p : Int) + 1) * n ≤ (q : Int) * n := Int.mul_le_mul_of_nonneg_right (by omega) (by have := h.n1; omega)
  rw [Int.add_mul, Int.one_mul] at this
  omega
theorem things_fst (n : Int) (bs : Bits) : (thingsOf n bs).map (·.1) = (pagesOf bs).flatMap fun p => placesAt n bs p := by
  unfold thingsOf
  rw [List.map_flatMap]
  congr 1
  funext p
  rw [List.map_map]
  exact List.map_id _
theorem things_up {m n : Int} {xs : List Int} {bs : Bits} (h : Ok m n xs bs) : ((thingsOf n bs).map (·.1)).Pairwise (· < ·) := by
  rw [things_fst]
  exact flat_up h (pages_up bs) fun p hp => mem_pages.mp hp
theorem pairs_eq : ∀ {l m : List (Int × Int)}, (l.map (·.1)).Nodup → m.Perm l → m.map (·.1) = l.map (·.1) → m = l := by
  intro l m hn hp he
  refine List.ext_getElem? fun i => ?_
  have hl := hp.length_eq
  by_cases hi : i < l.length
  · have hi2 : i < m.length := by omega
    rw [List.getElem?_eq_getElem hi, List.getElem?_eq_getElem hi2]
    have hm : m[i] ∈ l := hp.mem_iff.mp (List.getElem_mem hi2)
    obtain ⟨j, hj, ej⟩ := List.getElem_of_mem hm
    have e1 : (m.map (·.1))[i]'(by simpa using hi2) = (l.map (·.1))[i]'(by simpa using hi) := by congr 1
    rw [List.getElem_map, List.getElem_map] at e1
    have e2 : (l.map (·.1))[j]'(by simpa using hj) = (l.map (·.1))[i]'(by simpa using hi) := by rw [List.getElem_map, List.getElem_map, ej, e1]
    have e3 : j = i := (List.getElem_inj hn).mp e2
    subst e3
    rw [ej]
  · rw [List.getElem?_eq_none (by omega), List.getElem?_eq_none (by omega)]
theorem con_perm {m n : Int} {xs : List Int} {bs : Bits} {hf : Held} (h : Ok m n xs bs) (hc : Con n bs hf) {ps : List (Int × Int)} (hn : (ps.map (·.1)).Nodup) (hm : ∀ x s, (x, s) ∈ ps ↔ ∃ c, hf x = some c ∧ (c.length : Int) = s) : ps.Perm (thingsOf n bs) := by
  refine (List.perm_ext_iff_of_nodup ?_ ?_).mpr fun ⟨x, s⟩ => (hm x s).trans (hc x s)
  · exact List.Pairwise.imp (fun {a b} q (e : a = b) => q (by rw [e])) (List.pairwise_map.mp hn)
  · exact List.Pairwise.imp (fun {a b} q (e : a = b) => by rw [e] at q; omega) (List.pairwise_map.mp (things_up h))
theorem Con.dom {n : Int} {bs : Bits} {hf : Held} (hc : Con n bs hf) {x : Int} {c : List V} (h : hf x = some c) : ∃ p k : Nat, (rowAt bs p)[k]? = some true ∧ x = (p : Int) * n + (k : Int) * szAt bs p ∧ (c.length : Int) = szAt bs p := mem_things.mp ((hc x c.length).mp ⟨c, h, rfl⟩)
theorem Con.at {n : Int} {bs : Bits} {hf : Held} (hc : Con n bs hf) {p k : Nat} (h : (rowAt bs p)[k]? = some true) : ∃ c, hf ((p : Int) * n + (k : Int) * szAt bs p) = some c ∧ (c.length : Int) = szAt bs p := (hc _ _).mpr (mem_things.mpr ⟨p, k, h, rfl, rfl⟩)

/-! ### what is out stays what is held -/
theorem row_none {bs : Bits} {p : Nat} (h : isSh bs p = false) : rowAt bs p = [] := by
  unfold isSh at h
  unfold rowAt
  cases e : bs[p]? with
  | none => rfl
  | some o =>
    cases o with
    | none => rfl
    | some q => rw [e] at h; cases h
theorem sh_false {bs : Bits} {p : Nat} (h : ¬ isSh bs p = true) : isSh bs p = false := by
  cases e : isSh bs p with
  | true => exact absurd e h
  | false => rfl
theorem no_true {row : List Bool} (h : row.count true = 0) (k : Nat) : row[k]? ≠ some true := fun e => by
  have := List.count_eq_zero.mp h
  exact this (List.mem_of_getElem? e)
theorem drops_row {bs : Bits} {ps : List Nat} {p : Nat} (h : p ∈ ps) : rowAt (dropPages bs ps) p = [] := row_none (sh_false fun e => (drops_sh.mp e).1 h)
theorem drops_mem {bs : Bits} {ps : List Nat} {p k : Nat} : (rowAt (dropPages bs ps) p)[k]? = some true ↔ p ∉ ps ∧ (rowAt bs p)[k]? = some true := by
  by_cases h : p ∈ ps
  · rw [drops_row h]
    exact ⟨fun e => by simp at e, fun e => absurd h e.1⟩
  · rw [(drops_at h).2]
    exact ⟨fun e => ⟨h, e⟩, fun e => e.2⟩
theorem con_drop {n : Int} {bs : Bits} {hf : Held} {ps : List Nat} (h : Con n bs hf) (h0 : ∀ p ∈ ps, outAt bs p = 0) : Con n (dropPages bs ps) hf := fun x s => by
  rw [h x s, mem_things, mem_things]
  constructor
  · rintro ⟨p, k, h1, h2, h3⟩
    have hp : p ∉ ps := fun z => no_true (h0 p z) k h1
    exact ⟨p, k, drops_mem.mpr ⟨hp, h1⟩, by rw [(drops_at hp).1]; exact h2, by rw [(drops_at hp).1]; exact h3⟩
  · rintro ⟨p, k, h1, h2, h3⟩
    obtain ⟨hp, h4⟩ := drops_mem.mp h1
    rw [(drops_at hp).1] at h2 h3
    exact ⟨p, k, h4, h2, h3⟩
theorem drops_snoc (bs : Bits) (ps : List Nat) (p : Nat) : dropPages bs (ps ++ [p]) = (dropPages bs ps).set p none := by
  unfold dropPages
  rw [List.foldl_append]
  rfl
/-- the things of other pages stay -/
theorem things_set {n : Int} {bs : Bits} {p : Nat} {s : Int} {row : List Bool} (hp : p < bs.length) (x z : Int) : (x, z) ∈ thingsOf n (bs.set p (some (s, row))) ↔ (∃ k : Nat, row[k]? = some true ∧ x = (p : Int) * n + (k : Int) * s ∧ z = s) ∨ ∃ q k : Nat, q ≠ p ∧ (rowAt bs q)[k]? = some true ∧ x = (q : Int) * n + (k : Int) * szAt bs q ∧ z = szAt bs q := by
  rw [mem_things]
  constructor
  · rintro ⟨q, k, h1, h2, h3⟩
    rw [rowAt_set hp] at h1
    rw [szAt_set hp] at h2 h3
    by_cases e : q = p
    · subst e
      rw [if_pos rfl] at h1 h2 h3
      exact .inl ⟨k, h1, h2, h3⟩
    · rw [if_neg e] at h1 h2 h3
      exact .inr ⟨q, k, e, h1, h2, h3⟩
  · rintro (⟨k, h1, h2, h3⟩ | ⟨q, k, e, h1, h2, h3⟩)
    · exact ⟨p, k, by rw [rowAt_set hp, if_pos rfl]; exact h1, by rw [szAt_set hp, if_pos rfl]; exact h2, by rw [szAt_set hp, if_pos rfl]; exact h3⟩
    · exact ⟨q, k, by rw [rowAt_set hp, if_neg e]; exact h1, by rw [szAt_set hp, if_neg e]; exact h2, by rw [szAt_set hp, if_neg e]; exact h3⟩
theorem con_new {n : Int} {bs : Bits} {hf : Held} {p : Nat} {s : Int} (h : Con n bs hf) (hp : p < bs.length) (h0 : outAt bs p = 0) : Con n (newShelf n bs p s) hf := fun x z => by
  rw [h x z, newShelf, things_set hp, mem_things]
  constructor
  · rintro ⟨q, k, h1, h2, h3⟩
    exact .inr ⟨q, k, fun e => no_true h0 k (by rw [← e]; exact h1), h1, h2, h3⟩
  · rintro (⟨k, h1, _⟩ | ⟨q, k, e, h1, h2, h3⟩)
    · rw [List.getElem?_replicate] at h1
      split at h1 <;> cases h1
    · exact ⟨q, k, h1, h2, h3⟩
theorem set_true {row : List Bool} {i k : Nat} (hi : row[i]? = some false) : (row.set i true)[k]? = some true ↔ k = i ∨ row[k]? = some true := by
  have hl := (List.getElem?_eq_some_iff.mp hi).1
  by_cases e : i = k
  · subst e
    rw [List.getElem?_set_self hl]
    exact ⟨fun _ => .inl rfl, fun _ => rfl⟩
  · rw [List.getElem?_set_ne e]
    exact ⟨fun h => .inr h, fun h => h.resolve_left fun z => e z.symm⟩
theorem set_fals {row : List Bool} {i k : Nat} (hi : i < row.length) : (row.set i false)[k]? = some true ↔ k ≠ i ∧ row[k]? = some true := by
  by_cases e : i = k
  · subst e
    rw [List.getElem?_set_self hi]
    exact ⟨fun h => (by cases h), fun h => absurd rfl h.1⟩
  · rw [List.getElem?_set_ne e]
    exact ⟨fun h => ⟨fun z => e z.symm, h⟩, fun h => h.2⟩
/-- the place that is taken next is not held -/
theorem con_free {m n : Int} {xs : List Int} {bs : Bits} {hf : Held} (o : Ok m n xs bs) (h : Con n bs hf) {p : Nat} (hp : false ∈ rowAt bs p) : hf ((p : Int) * n + (((rowAt bs p).idxOf false : Nat) : Int) * szAt bs p) = none := by
  cases e : hf ((p : Int) * n + (((rowAt bs p).idxOf false : Nat) : Int) * szAt bs p) with
  | none => rfl
  | some c =>
    obtain ⟨q, k, h1, h2, _⟩ := h.dom e
    have hi := idx_false hp
    obtain ⟨e1, e2⟩ := o.inj (sh_row hp) (row_lt hi) (sh_at h1) (row_lt h1) h2
    subst e1
    rw [← e2, hi] at h1
    cases h1
theorem con_take {m n : Int} {xs : List Int} {bs : Bits} {hf : Held} {p : Nat} {c : List V} (o : Ok m n xs bs) (h : Con n bs hf) (hp : false ∈ rowAt bs p) (hc : (c.length : Int) = szAt bs p) :
    Con n (takeAt bs p) (fun y => if y = (p : Int) * n + (((rowAt bs p).idxOf false : Nat) : Int) * szAt bs p then some c else hf y) := fun x z => by
  have hi := idx_false hp
  have hn := con_free o h hp
  unfold takeAt
  rw [things_set (sh_lt (sh_row hp))]
  constructor
  · rintro ⟨d, h1, h2⟩
    by_cases e : x = (p : Int) * n + (((rowAt bs p).idxOf false : Nat) : Int) * szAt bs p
    · replace h1 := (if_pos e).symm.trans h1
      cases h1
      exact .inl ⟨_, (set_true hi).mpr (.inl rfl), e, by rw [← h2, hc]⟩
    · replace h1 := (if_neg e).symm.trans h1
      obtain ⟨q, k, h3, h4, h5⟩ := mem_things.mp ((h x z).mp ⟨d, h1, h2⟩)
      by_cases y : q = p
      · subst y
        exact .inl ⟨k, (set_true hi).mpr (.inr h3), h4, h5⟩
      · exact .inr ⟨q, k, y, h3, h4, h5⟩
  · rintro (⟨k, h1, h2, h3⟩ | ⟨q, k, e, h1, h2, h3⟩)
    · rcases (set_true hi).mp h1 with y | y
      · subst y
        exact ⟨c, if_pos h2, by rw [hc, h3]⟩
      · obtain ⟨d, h4, h5⟩ := (h x z).mpr (mem_things.mpr ⟨p, k, y, h2, h3⟩)
        refine ⟨d, (if_neg ?_).trans h4, h5⟩
        · intro e; rw [e, hn] at h4; cases h4
    · obtain ⟨d, h4, h5⟩ := (h x z).mpr (mem_things.mpr ⟨q, k, h1, h2, h3⟩)
      refine ⟨d, (if_neg ?_).trans h4, h5⟩
      · intro e; rw [e, hn] at h4; cases h4
theorem con_give {m n : Int} {xs : List Int} {bs : Bits} {hf : Held} {p k : Nat} (o : Ok m n xs bs) (h : Con n bs hf) (hk : (rowAt bs p)[k]? = some true) : Con n (giveAt bs p k) (fun y => if y = (p : Int) * n + (k : Int) * szAt bs p then none else hf y) := fun x z => by
  have hl := row_lt hk
  unfold giveAt
  rw [things_set (sh_lt (sh_at hk))]
  constructor
  · rintro ⟨d, h1, h2⟩
    by_cases e : x = (p : Int) * n + (k : Int) * szAt bs p
    · replace h1 := (if_pos e).symm.trans h1
      cases h1
    · replace h1 := (if_neg e).symm.trans h1
      obtain ⟨q, j, h3, h4, h5⟩ := mem_things.mp ((h x z).mp ⟨d, h1, h2⟩)
      by_cases y : q = p
      · subst y
        exact .inl ⟨j, (set_fals hl).mpr ⟨fun y => e (by rw [h4, y]), h3⟩, h4, h5⟩
      · exact .inr ⟨q, j, y, h3, h4, h5⟩
  · rintro (⟨j, h1, h2, h3⟩ | ⟨q, j, e, h1, h2, h3⟩)
    · obtain ⟨y1, y2⟩ := (set_fals hl).mp h1
      obtain ⟨d, h4, h5⟩ := (h x z).mpr (mem_things.mpr ⟨p, j, y2, h2, h3⟩)
      refine ⟨d, (if_neg ?_).trans h4, h5⟩
      · intro e
        rw [h2] at e
        exact y1 (o.inj (sh_at hk) (row_lt y2) (sh_at hk) hl e).2
    · obtain ⟨d, h4, h5⟩ := (h x z).mpr (mem_things.mpr ⟨q, j, h1, h2, h3⟩)
      refine ⟨d, (if_neg ?_).trans h4, h5⟩
      · intro y
        rw [h2] at y
        exact e (o.inj (sh_at h1) (row_lt h1) (sh_at hk) hl y).1
theorem con_wr {n : Int} {bs : Bits} {hf : Held} {x : Int} {c d : List V} (h : Con n bs hf) (hx : hf x = some c) (hd : d.length = c.length) : Con n bs (fun y => if y = x then some d else hf y) := fun y s => by
  rw [← h y s]
  show (∃ c, (if y = x then some d else hf y) = some c ∧ _) ↔ _
  by_cases e : y = x
  · rw [if_pos e]
    constructor
    · rintro ⟨u, h1, h2⟩
      cases h1
      exact ⟨c, by rw [e]; exact hx, by rw [← hd]; exact h2⟩
    · rintro ⟨u, h1, h2⟩
      rw [e, hx] at h1
      cases h1
      exact ⟨d, rfl, by rw [hd]; exact h2⟩
  · rw [if_neg e]
theorem Ok.take {m n : Int} {xs : List Int} {bs : Bits} (o : Ok m n xs bs) {p : Nat} (hp : false ∈ rowAt bs p) : Ok m n xs (takeAt bs p) := ⟨wf_set o.wf (sh_lt (sh_row hp)) (o.wf.ok p (sh_row hp)).1 (by rw [List.length_set]; exact (o.wf.ok p (sh_row hp)).2), o.n1, o.sz⟩
theorem Ok.give {m n : Int} {xs : List Int} {bs : Bits} (o : Ok m n xs bs) {p k : Nat} (hp : isSh bs p = true) : Ok m n xs (giveAt bs p k) := ⟨wf_set o.wf (sh_lt hp) (o.wf.ok p hp).1 (by rw [List.length_set]; exact (o.wf.ok p hp).2), o.n1, o.sz⟩
theorem Ok.fresh {m n : Int} {xs : List Int} {bs : Bits} (o : Ok m n xs bs) {p : Nat} {s : Int} (hp : p < bs.length) (hs : s ∈ xs) : Ok m n xs (newShelf n bs p s) := ⟨wf_set o.wf hp hs (by rw [List.length_replicate]), o.n1, o.sz⟩
theorem Ok.drop {m n : Int} {xs : List Int} {bs : Bits} {ps : List Nat} (o : Ok m n xs bs) : Ok m n xs (dropPages bs ps) := ⟨drops_wf o.wf, o.n1, o.sz⟩
/-- a page for a shelf has nothing out -/
theorem pageFor_at {bs : Bits} {p : Nat} (h : pageFor bs = some p) : p < bs.length ∧ outAt bs p = 0 := by
  unfold pageFor at h
  cases e : (pileOf bs).head? with
  | some q =>
    rw [e] at h
    cases h
    have := mem_pile.mp (List.mem_of_head? e)
    exact ⟨this.1, by unfold outAt; rw [row_none this.2]; rfl⟩
  | none =>
    rw [e] at h
    have := mem_unused.mp (List.mem_of_head? h)
    exact ⟨sh_lt this.1, this.2⟩
theorem slots_pos {n s : Int} (h1 : 1 ≤ s) (h2 : s ≤ n) : 0 < (n / s).toNat := by
  have : 1 ≤ n / s := (Int.le_ediv_iff_mul_le (by omega)).mpr (by omega)
  omega
theorem slots_le {n s : Int} (h1 : 1 ≤ s) (h2 : 1 ≤ n) (h3 : n ≤ 60) : (n / s).toNat ≤ 60 := by
  have h4 : n / s ≤ n := Int.ediv_le_self s (by omega)
  omega
/-- the page of the next thing of the size has room -/
theorem ForSize.room {m n : Int} {xs : List Int} {bs bs' : Bits} {s : Int} {p : Nat} (o : Ok m n xs bs) (hs : s ∈ xs) (h : ForSize n bs s p bs') : Ok m n xs bs' ∧ false ∈ rowAt bs' p ∧ szAt bs' p = s := by
  rcases h with ⟨⟨h1, _⟩, rfl⟩ | ⟨_, h2, rfl⟩
  · obtain ⟨a, b, c⟩ := mem_cands.mp h1
    exact ⟨o, c, b⟩
  · obtain ⟨h3, h4⟩ := pageFor_at h2
    obtain ⟨a, b⟩ := o.sz s hs
    refine ⟨o.fresh h3 hs, ?_, by unfold newShelf; rw [szAt_set h3, if_pos rfl]⟩
    unfold newShelf
    rw [rowAt_set h3, if_pos rfl, List.mem_replicate]
    exact ⟨by have := slots_pos a b; omega, rfl⟩
theorem ForSize.con {n : Int} {bs bs' : Bits} {hf : Held} {s : Int} {p : Nat} (c : Con n bs hf) (h : ForSize n bs s p bs') : Con n bs' hf := by
  rcases h with ⟨_, rfl⟩ | ⟨_, h2, rfl⟩
  · exact c
  · obtain ⟨h3, h4⟩ := pageFor_at h2
    exact con_new c h3 h4

/-! ### gathering -/
def ConG (n : Int) (bs : Bits) (hf : Held) (gone : List Int) : Prop := ∀ x s, (∃ c, hf x = some c ∧ (c.length : Int) = s) ↔ (x, s) ∈ thingsOf n bs ∧ x ∉ gone
/-- moves that go from things of the size to places where nothing lies -/
def MovesOk (s : Int) : Held → List (Int × Int) → Held → Prop
  | hf, [], hf' => hf' = hf
  | hf, m :: r, hf' => (∃ c, hf m.1 = some c ∧ (c.length : Int) = s) ∧ hf m.2 = none ∧ MovesOk s (mvH hf m.1 m.2) r hf'
theorem isSh_take {bs : Bits} {g q : Nat} (hg : isSh bs g = true) : isSh (takeAt bs g) q = isSh bs q := by
  unfold takeAt
  rw [isSh_set (sh_lt hg)]
  by_cases e : q = g
  · rw [if_pos e, e, hg]; rfl
  · rw [if_neg e]
theorem szAt_take {bs : Bits} {g q : Nat} (hg : isSh bs g = true) : szAt (takeAt bs g) q = szAt bs q := by
  unfold takeAt
  rw [szAt_set (sh_lt hg)]
  by_cases e : q = g
  · rw [if_pos e, e]
  · rw [if_neg e]
theorem rowAt_take {bs : Bits} {g q : Nat} (hg : isSh bs g = true) : rowAt (takeAt bs g) q = if q = g then (rowAt bs g).set ((rowAt bs g).idxOf false) true else rowAt bs q := by
  unfold takeAt
  rw [rowAt_set (sh_lt hg)]
theorem count_false_set {row : List Bool} {i : Nat} (h : row[i]? = some false) : (row.set i true).count false + 1 = row.count false := by
  have p := free_set h
  have := p.length_eq
  rw [List.length_cons, len_free, len_free] at this
  omega
theorem freeSum_not {bs : Bits} {g : Nat} (hg : isSh bs g = true) : ∀ {ps : List Nat}, g ∉ ps → freeSum (takeAt bs g) ps = freeSum bs ps
  | [], _ => rfl
  | p :: ps, h => by
    rw [List.mem_cons, not_or] at h
    have ih := freeSum_not hg (ps := ps) h.2
    unfold freeSum at ih ⊢
    rw [List.map_cons, List.map_cons, List.sum_cons, List.sum_cons, ih, rowAt_take hg, if_neg (fun z => h.1 z.symm)]
theorem freeSum_take {bs : Bits} {g : Nat} (hg : false ∈ rowAt bs g) : ∀ {ps : List Nat}, ps.Nodup → g ∈ ps → freeSum (takeAt bs g) ps + 1 = freeSum bs ps
  | [], _, h => nomatch h
  | p :: ps, hn, h => by
    obtain ⟨h1, h2⟩ := List.nodup_cons.mp hn
    by_cases e : p = g
    · subst e
      have ih := freeSum_not (sh_row hg) h1
      have c := count_false_set (idx_false hg)
      unfold freeSum at ih ⊢
      rw [List.map_cons, List.map_cons, List.sum_cons, List.sum_cons, ih, rowAt_take (sh_row hg), if_pos rfl]
      omega
    · have ih := freeSum_take hg h2 ((List.mem_cons.mp h).resolve_left fun z => e z.symm)
      unfold freeSum at ih ⊢
      rw [List.map_cons, List.map_cons, List.sum_cons, List.sum_cons, rowAt_take (sh_row hg), if_neg e]
      omega
theorem find_free {bs : Bits} {ps : List Nat} (h : 0 < freeSum bs ps) : ∃ g, ps.find? (fun p => decide (false ∈ rowAt bs p)) = some g ∧ g ∈ ps ∧ false ∈ rowAt bs g := by
  cases e : ps.find? (fun p => decide (false ∈ rowAt bs p)) with
  | some g => exact ⟨g, rfl, List.mem_of_find?_eq_some e, of_decide_eq_true (p := false ∈ rowAt bs g) (List.find?_some (p := fun p => decide (false ∈ rowAt bs p)) e)⟩
  | none =>
    exfalso
    have hz : ∀ qs : List Nat, (∀ p ∈ qs, p ∈ ps) → freeSum bs qs = 0 := by
      intro qs
      induction qs with
      | nil => intro _; rfl
      | cons p qs ih =>
        intro hq
        have h1 := ih fun q hq2 => hq q (List.mem_cons_of_mem _ hq2)
        have h2 : ¬ false ∈ rowAt bs p := fun z => List.find?_eq_none.mp e p (hq p List.mem_cons_self) (decide_eq_true z)
        unfold freeSum at h1 ⊢
        rw [List.map_cons, List.sum_cons, h1, List.count_eq_zero.mpr h2]
    have := hz ps fun p hp => hp
    omega
/-- what a filling does -/
structure FillR (n s : Int) (ri : List Nat) (bs : Bits) (hf : Held) (gone xs : List Int) (r : Bits × Held × List (Int × Int)) : Prop where
  con : ConG n r.1 r.2.1 (gone ++ xs)
  len : r.2.2.map (·.1) = xs
  mv : MovesOk s hf r.2.2 r.2.1
  sh : ∀ q, isSh r.1 q = isSh bs q ∧ szAt r.1 q = szAt bs q ∧ (q ∉ ri → rowAt r.1 q = rowAt bs q)
  mono : ∀ q k : Nat, (rowAt bs q)[k]? = some true → (rowAt r.1 q)[k]? = some true
theorem fill_ok {m n s : Int} {zs : List Int} {ri : List Nat} (hn : ri.Nodup) : ∀ (xs : List Int) (bs : Bits) (hf : Held) (gone : List Int), Ok m n zs bs → ConG n bs hf gone → (∀ p ∈ ri, isSh bs p = true ∧ szAt bs p = s) → xs.Nodup → (∀ x ∈ xs, x ∉ gone ∧ (x, s) ∈ thingsOf n bs ∧ ∀ p ∈ ri, x / n ≠ (p : Int)) → (∀ x ∈ gone, ∀ p ∈ ri, x / n ≠ (p : Int)) → xs.length ≤ freeSum bs ri →
    Ok m n zs (fill n ri xs bs hf).1 ∧ FillR n s ri bs hf gone xs (fill n ri xs bs hf)
  | [], bs, hf, gone, o, c, _, _, _, _, _ => ⟨o, ⟨by rw [List.append_nil]; exact c, rfl, rfl, fun q => ⟨rfl, rfl, fun _ => rfl⟩, fun _ _ h => h⟩⟩
  | x :: xs, bs, hf, gone, o, c, hri, hxn, hx, hgo, hl => by
    obtain ⟨g, e, hg, hfg⟩ := find_free (bs := bs) (ps := ri) (by rw [List.length_cons] at hl; omega)
    have hsg := sh_row hfg
    have hszg := (hri g hg).2
    have hi := idx_false hfg
    obtain ⟨hx1, hx2⟩ := List.nodup_cons.mp hxn
    obtain ⟨x1, x2, x3⟩ := hx x List.mem_cons_self
    have hpg := o.page hsg (row_lt hi)
    have hyn : hf ((g : Int) * n + (((rowAt bs g).idxOf false : Nat) : Int) * szAt bs g) = none := by
      cases ey : hf ((g : Int) * n + (((rowAt bs g).idxOf false : Nat) : Int) * szAt bs g) with
      | none => rfl
      | some d =>
        obtain ⟨q, k, h1, h2, _⟩ := mem_things.mp ((c _ d.length).mp ⟨d, ey, rfl⟩).1
        obtain ⟨e1, e2⟩ := o.inj hsg (row_lt hi) (sh_at h1) (row_lt h1) h2
        subst e1
        rw [← e2, hi] at h1
        cases h1
    obtain ⟨d, hd1, hd2⟩ := (c x s).mpr ⟨x2, x1⟩
    have hxy : x ≠ (g : Int) * n + (((rowAt bs g).idxOf false : Nat) : Int) * szAt bs g := fun z => by rw [← z, hd1] at hyn; cases hyn
    have o2 := o.take hfg
    have tk : ∀ z t, (z, t) ∈ thingsOf n (takeAt bs g) ↔ (z, t) ∈ thingsOf n bs ∨ (z = (g : Int) * n + (((rowAt bs g).idxOf false : Nat) : Int) * szAt bs g ∧ t = s) := fun z t => by
      unfold takeAt
      rw [things_set (sh_lt hsg), mem_things]
      constructor
      · rintro (⟨k, h1, h2, h3⟩ | ⟨q, k, hq, h1, h2, h3⟩)
        · rcases (set_true hi).mp h1 with y | y
          · exact .inr ⟨by rw [h2, y], by rw [h3, hszg]⟩
          · exact .inl ⟨g, k, y, h2, h3⟩
        · exact .inl ⟨q, k, h1, h2, h3⟩
      · rintro (⟨q, k, h1, h2, h3⟩ | ⟨h1, h2⟩)
        · by_cases hq : q = g
          · subst hq
            exact .inl ⟨k, (set_true hi).mpr (.inr h1), h2, h3⟩
          · exact .inr ⟨q, k, hq, h1, h2, h3⟩
        · exact .inl ⟨_, (set_true hi).mpr (.inl rfl), h1, by rw [h2, hszg]⟩
    have hyg : ∀ z, z = (g : Int) * n + (((rowAt bs g).idxOf false : Nat) : Int) * szAt bs g → z ∉ gone ++ [x] := fun z hz hm => by
      rw [List.mem_append, List.mem_singleton] at hm
      rcases hm with hm | hm
      · exact hgo z hm g hg (by rw [hz]; exact hpg.1)
      · exact hxy (by rw [← hz, hm])
    have c2 : ConG n (takeAt bs g) (mvH hf x ((g : Int) * n + (((rowAt bs g).idxOf false : Nat) : Int) * szAt bs g)) (gone ++ [x]) := fun z t => by
      rw [tk z t]
      show (∃ c, (if z = (g : Int) * n + (((rowAt bs g).idxOf false : Nat) : Int) * szAt bs g then hf x else if z = x then none else hf z) = some c ∧ _) ↔ _
      by_cases e1 : z = (g : Int) * n + (((rowAt bs g).idxOf false : Nat) : Int) * szAt bs g
      · rw [if_pos e1]
        constructor
        · rintro ⟨u, h1, h2⟩
          rw [hd1] at h1
          cases h1
          exact ⟨.inr ⟨e1, by omega⟩, hyg z e1⟩
        · rintro ⟨h1 | h1, h2⟩
          · exfalso
            have := (c z t).mpr ⟨h1, fun q => h2 (List.mem_append_left _ q)⟩
            obtain ⟨u, h3, _⟩ := this
            rw [e1, hyn] at h3
            cases h3
          · exact ⟨d, hd1, by rw [h1.2]; exact hd2⟩
      · rw [if_neg e1]
        by_cases e2 : z = x
        · rw [if_pos e2]
          constructor
          · rintro ⟨u, h1, _⟩; cases h1
          · rintro ⟨_, h2⟩
            exact absurd (List.mem_append_right _ (List.mem_singleton.mpr e2)) h2
        · rw [if_neg e2, c z t]
          constructor
          · rintro ⟨h1, h2⟩
            refine ⟨.inl h1, fun q => ?_⟩
            rcases List.mem_append.mp q with q | q
            · exact h2 q
            · exact e2 (List.mem_singleton.mp q)
          · rintro ⟨h1 | h1, h2⟩
            · exact ⟨h1, fun q => h2 (List.mem_append_left _ q)⟩
            · exact absurd h1.1 e1
    have fs := freeSum_take hfg hn hg
    rw [List.length_cons] at hl
    obtain ⟨r1, r2⟩ := fill_ok hn xs (takeAt bs g) (mvH hf x ((g : Int) * n + (((rowAt bs g).idxOf false : Nat) : Int) * szAt bs g)) (gone ++ [x]) o2 c2 (fun p hp => by rw [isSh_take hsg, szAt_take hsg]; exact hri p hp) hx2 (fun z hz => by
        obtain ⟨y1, y2, y3⟩ := hx z (List.mem_cons_of_mem _ hz)
        refine ⟨fun q => ?_, (tk z s).mpr (.inl y2), y3⟩
        rcases List.mem_append.mp q with q | q
        · exact y1 q
        · exact hx1 (by rw [← List.mem_singleton.mp q]; exact hz)) (fun z hz p hp => by
        rcases List.mem_append.mp hz with q | q
        · exact hgo z q p hp
        · rw [List.mem_singleton.mp q]; exact x3 p hp) (by omega)
    have ef : fill n ri (x :: xs) bs hf = ((fill n ri xs (takeAt bs g) (mvH hf x ((g : Int) * n + (((rowAt bs g).idxOf false : Nat) : Int) * szAt bs g))).1, (fill n ri xs (takeAt bs g) (mvH hf x ((g : Int) * n + (((rowAt bs g).idxOf false : Nat) : Int) * szAt bs g))).2.1, (x, (g : Int) * n + (((rowAt bs g).idxOf false : Nat) : Int) * szAt bs g) :: (fill n ri xs (takeAt bs g) (mvH hf x ((g : Int) * n + (((rowAt bs g).idxOf false : Nat) : Int) * szAt bs g))).2.2) := by
      show (match ri.find? (fun p => decide (false ∈ rowAt bs p)) with | none => _ | some g => _) = _
      rw [e]
    rw [ef]
    refine ⟨r1, ?_, ?_, ?_, fun q => ?_, fun q k hk => r2.mono q k ?_⟩
    · have := r2.con
      rw [List.append_assoc] at this
      exact this
    · show x :: _ = _
      rw [r2.len]
    · exact ⟨⟨d, hd1, hd2⟩, hyn, r2.mv⟩
    · obtain ⟨q1, q2, q3⟩ := r2.sh q
      rw [isSh_take hsg] at q1
      rw [szAt_take hsg] at q2
      refine ⟨q1, q2, fun hq => ?_⟩
      rw [q3 hq, rowAt_take hsg, if_neg (fun z => hq (by rw [z]; exact hg))]
    · rw [rowAt_take hsg]
      by_cases hq : q = g
      · rw [if_pos hq]
        rw [hq] at hk
        exact (set_true hi).mpr (.inr hk)
      · rw [if_neg hq]; exact hk
/-! counting -/
theorem outSum_append (bs : Bits) (a b : List Nat) : outSum bs (a ++ b) = outSum bs a + outSum bs b := by
  unfold outSum
  rw [List.map_append, List.sum_append]
theorem outSum_perm {bs : Bits} {a b : List Nat} (h : a.Perm b) : outSum bs a = outSum bs b := by
  unfold outSum
  exact (h.map _).sum_nat
theorem freeSum_perm {bs : Bits} {a b : List Nat} (h : a.Perm b) : freeSum bs a = freeSum bs b := by
  unfold freeSum
  exact (h.map _).sum_nat
theorem two_counts (row : List Bool) : row.count true + row.count false = row.length := by
  have := len_free row 0
  have h2 := len_taken row 0
  induction row with
  | nil => rfl
  | cons b r ih =>
    have := ih (len_free r 0) (len_taken r 0)
    cases b <;> simp <;> omega
theorem sums_per {m n s : Int} {zs : List Int} {bs : Bits} (o : Ok m n zs bs) : ∀ {ps : List Nat}, (∀ p ∈ ps, isSh bs p = true ∧ szAt bs p = s) → outSum bs ps + freeSum bs ps = ps.length * (n / s).toNat
  | [], _ => by simp [outSum, freeSum]
  | p :: ps, h => by
    have ih := sums_per o (ps := ps) fun q hq => h q (List.mem_cons_of_mem _ hq)
    obtain ⟨h1, h2⟩ := h p List.mem_cons_self
    have h3 := (o.wf.ok p h1).2
    rw [h2] at h3
    have h4 := two_counts (rowAt bs p)
    unfold outSum freeSum at ih ⊢
    rw [List.map_cons, List.map_cons, List.sum_cons, List.sum_cons, List.length_cons, Nat.add_mul, Nat.one_mul]
    unfold outAt at ih ⊢
    omega
theorem placesAt_len (n : Int) (bs : Bits) (p : Nat) : (placesAt n bs p).length = outAt bs p := by
  unfold placesAt outAt
  rw [List.length_map, len_taken]
theorem flat_len (n : Int) (bs : Bits) : ∀ ps : List Nat, (ps.flatMap fun p => placesAt n bs p).length = outSum bs ps
  | [] => rfl
  | p :: ps => by
    have ih := flat_len n bs ps
    unfold outSum at ih ⊢
    rw [List.flatMap_cons, List.length_append, ih, placesAt_len, List.map_cons, List.sum_cons]
theorem rise_perm {bs : Bits} {ps : List Nat} (hn : ps.Nodup) (hs : ∀ p ∈ ps, isSh bs p = true) : (rise bs ps).Perm ps := by
  unfold rise
  refine (List.perm_ext_iff_of_nodup ((pages_nd bs).filter _) hn).mpr fun p => ?_
  rw [List.mem_filter, mem_pages, decide_eq_true_eq]
  exact ⟨fun h => h.2, fun h => ⟨hs p h, h⟩⟩
theorem rise_up (bs : Bits) (ps : List Nat) : (rise bs ps).Pairwise (· < ·) := (pages_up bs).filter _
theorem mem_rise {bs : Bits} {ps : List Nat} {p : Nat} : p ∈ rise bs ps ↔ isSh bs p = true ∧ p ∈ ps := by
  unfold rise
  rw [List.mem_filter, mem_pages, decide_eq_true_eq]
/-- the facts of a gathering -/
structure GathF (m n : Int) (zs : List Int) (bs : Bits) (hf : Held) (s : Int) (rk : List Nat) : Prop where
  k : needed n bs s ≤ rk.length
  eq : (((outSum bs (ofSize bs s) : Nat) : Int) + n / s - 1) / (n / s) = (needed n bs s : Nat)
  nd : rk.Nodup
  shs : ∀ p ∈ rk, isSh bs p = true ∧ szAt bs p = s
  st : (rise bs (rk.take (needed n bs s))).Perm (rk.take (needed n bs s))
  pu : (placesOn n bs (rk.drop (needed n bs s))).Pairwise (· < ·)
  pm : ∀ x, x ∈ placesOn n bs (rk.drop (needed n bs s)) ↔ hf x ≠ none ∧ ∃ p ∈ rk.drop (needed n bs s), x / n = (p : Nat)
  pl : (placesOn n bs (rk.drop (needed n bs s))).length ≤ freeSum bs (rise bs (rk.take (needed n bs s)))
  fin : Ok m n zs (gath n bs hf s rk).1 ∧ Con n (gath n bs hf s rk).1 (gath n bs hf s rk).2.1
  fr : FillR n s (rise bs (rk.take (needed n bs s))) bs hf [] (placesOn n bs (rk.drop (needed n bs s))) (fill n (rise bs (rk.take (needed n bs s))) (placesOn n bs (rk.drop (needed n bs s))) bs hf)
theorem gath_facts {m n s : Int} {zs : List Int} {bs : Bits} {hf : Held} {rk : List Nat} (o : Ok m n zs bs) (c : Con n bs hf) (hs : s ∈ zs) (hr : IsRank bs s rk) : GathF m n zs bs hf s rk := by
  obtain ⟨hs1, hs2⟩ := o.sz s hs
  have hper : 1 ≤ n / s := (Int.le_ediv_iff_mul_le (by omega)).mpr (by omega)
  have hnd : rk.Nodup := hr.1.nodup_iff.mpr ((pages_nd bs).filter _)
  have hsh : ∀ p ∈ rk, isSh bs p = true ∧ szAt bs p = s := fun p hp => mem_ofSize.mp (hr.1.mem_iff.mp hp)
  have hsum := outSum_perm (bs := bs) hr.1
  have htot := sums_per o hsh
  have hP : ((n / s).toNat : Int) = n / s := by omega
  have hq0 : 0 ≤ (((outSum bs (ofSize bs s) : Nat) : Int) + n / s - 1) / (n / s) := Int.ediv_nonneg (by omega) (by omega)
  have heq : (((outSum bs (ofSize bs s) : Nat) : Int) + n / s - 1) / (n / s) = (needed n bs s : Nat) := by
    unfold needed
    omega
  -- a ≤ needed * per < a + per
  have h1 : ((outSum bs rk : Nat) : Int) ≤ (needed n bs s : Int) * (n / s) := by
    have := Int.lt_ediv_add_one_mul_self (((outSum bs (ofSize bs s) : Nat) : Int) + n / s - 1) (by omega : 0 < n / s)
    rw [heq, Int.add_mul, Int.one_mul] at this
    omega
  have hk : needed n bs s ≤ rk.length := by
    have h2 : (((outSum bs (ofSize bs s) : Nat) : Int) + n / s - 1) / (n / s) < (rk.length : Int) + 1 := by
      rw [Int.ediv_lt_iff_lt_mul (by omega), Int.add_mul, Int.one_mul]
      have h3 : ((outSum bs rk : Nat) : Int) ≤ (rk.length : Int) * (n / s) := by
        rw [← hP, ← Int.natCast_mul]
        omega
      omega
    rw [heq] at h2
    omega
  have hst : ∀ p ∈ rk.take (needed n bs s), isSh bs p = true ∧ szAt bs p = s := fun p hp => hsh p (List.mem_of_mem_take hp)
  have hlv : ∀ p ∈ rk.drop (needed n bs s), isSh bs p = true ∧ szAt bs p = s := fun p hp => hsh p (List.mem_of_mem_drop hp)
  have hsplit : rk.take (needed n bs s) ++ rk.drop (needed n bs s) = rk := List.take_append_drop _ _
  have hdis : ∀ p ∈ rk.take (needed n bs s), p ∉ rk.drop (needed n bs s) := fun p h1 h2 => by
    have := hnd
    rw [← hsplit, List.nodup_append] at this
    exact this.2.2 p h1 p h2 rfl
  have hndt : (rk.take (needed n bs s)).Nodup := hnd.sublist (List.take_sublist _ _)
  have hndd : (rk.drop (needed n bs s)).Nodup := hnd.sublist (List.drop_sublist _ _)
  have hpt := rise_perm hndt fun p hp => (hst p hp).1
  have hpd := rise_perm hndd fun p hp => (hlv p hp).1
  have hpu : (placesOn n bs (rk.drop (needed n bs s))).Pairwise (· < ·) := flat_up o (rise_up _ _) fun p hp => (mem_rise.mp hp).1
  have hmem : ∀ x, x ∈ placesOn n bs (rk.drop (needed n bs s)) ↔ ∃ p k : Nat, p ∈ rk.drop (needed n bs s) ∧ (rowAt bs p)[k]? = some true ∧ x = (p : Int) * n + (k : Int) * szAt bs p := fun x => by
    unfold placesOn
    rw [List.mem_flatMap]
    constructor
    · rintro ⟨p, hp, hx⟩
      obtain ⟨k, h2, h3⟩ := mem_placesAt.mp hx
      exact ⟨p, k, (mem_rise.mp hp).2, h2, h3⟩
    · rintro ⟨p, k, hp, h2, h3⟩
      exact ⟨p, mem_rise.mpr ⟨sh_at h2, hp⟩, mem_placesAt.mpr ⟨k, h2, h3⟩⟩
  have hpm : ∀ x, x ∈ placesOn n bs (rk.drop (needed n bs s)) ↔ hf x ≠ none ∧ ∃ p ∈ rk.drop (needed n bs s), x / n = (p : Nat) := fun x => by
    rw [hmem]
    constructor
    · rintro ⟨p, k, hp, h2, h3⟩
      obtain ⟨d, h4, _⟩ := c.at h2
      refine ⟨by rw [h3, h4]; exact nofun, p, hp, ?_⟩
      rw [h3]
      exact (o.page (sh_at h2) (row_lt h2)).1
    · rintro ⟨h2, p, hp, h3⟩
      cases e : hf x with
      | none => exact absurd e h2
      | some d =>
        obtain ⟨q, k, h4, h5, _⟩ := c.dom e
        have := (o.page (sh_at h4) (row_lt h4)).1
        rw [← h5, h3] at this
        have : q = p := by omega
        subst this
        exact ⟨q, k, hp, h4, h5⟩
  have hlen : (placesOn n bs (rk.drop (needed n bs s))).length = outSum bs (rk.drop (needed n bs s)) := by
    unfold placesOn
    rw [flat_len, outSum_perm hpd]
  have hpl : (placesOn n bs (rk.drop (needed n bs s))).length ≤ freeSum bs (rise bs (rk.take (needed n bs s))) := by
    rw [hlen, freeSum_perm hpt]
    have h2 := sums_per o hst
    rw [List.length_take, Nat.min_eq_left hk] at h2
    have h3 := outSum_append bs (rk.take (needed n bs s)) (rk.drop (needed n bs s))
    rw [hsplit] at h3
    have h4 : ((needed n bs s * (n / s).toNat : Nat) : Int) = (needed n bs s : Int) * (n / s) := by rw [Int.natCast_mul, hP]
    omega
  have cg : ConG n bs hf [] := fun x t => by rw [c x t]; simp
  obtain ⟨f1, f2⟩ := fill_ok (s := s) (hpt.nodup_iff.mpr hndt) (placesOn n bs (rk.drop (needed n bs s))) bs hf [] o cg (fun p hp => hst p (hpt.mem_iff.mp hp)) (nodup_of_lt hpu) (fun x hx => by
      obtain ⟨p, k, hp, h2, h3⟩ := (hmem x).mp hx
      refine ⟨List.not_mem_nil, mem_things.mpr ⟨p, k, h2, h3, (hlv p hp).2.symm⟩, fun q hq z => ?_⟩
      have := (o.page (sh_at h2) (row_lt h2)).1
      rw [← h3, z] at this
      have : q = p := by omega
      rw [this] at hq
      exact hdis p (hpt.mem_iff.mp hq) hp) (fun x hx => nomatch hx) hpl
  refine ⟨hk, heq, hnd, hsh, hpt, hpu, hpm, hpl, ⟨f1.drop, fun x t => ?_⟩, f2⟩
  show (∃ c, (fill n (rise bs (rk.take (needed n bs s))) (placesOn n bs (rk.drop (needed n bs s))) bs hf).2.1 x = some c ∧ _) ↔ (x, t) ∈ thingsOf n (dropPages (fill n _ _ bs hf).1 _)
  rw [f2.con x t, List.nil_append, mem_things, mem_things]
  constructor
  · rintro ⟨⟨p, k, h2, h3, h4⟩, h5⟩
    have hp : p ∉ rk.drop (needed n bs s) := fun hp => h5 ((hmem x).mpr ⟨p, k, hp, by
      rw [← (f2.sh p).2.2 (fun z => hdis p (hpt.mem_iff.mp z) hp)]; exact h2, by rw [← (f2.sh p).2.1]; exact h3⟩)
    exact ⟨p, k, drops_mem.mpr ⟨hp, h2⟩, by rw [(drops_at hp).1]; exact h3, by rw [(drops_at hp).1]; exact h4⟩
  · rintro ⟨p, k, h2, h3, h4⟩
    obtain ⟨hp, h5⟩ := drops_mem.mp h2
    rw [(drops_at hp).1] at h3 h4
    refine ⟨⟨p, k, h5, h3, h4⟩, fun hx => ?_⟩
    obtain ⟨q, j, hq, h6, h7⟩ := (hmem x).mp hx
    have g1 := (o.page (sh_at h6) (row_lt h6)).1
    have g2 := (f1.page (sh_at h5) (row_lt h5)).1
    rw [← h7] at g1
    rw [← h3] at g2
    have : p = q := by omega
    rw [this] at hp
    exact hp hq

/-! ### a room in the heap -/
theorem wh_I {i : Int} {H : Hp} {Q : VK} {E : XK} (q : Q (.bl true) H) : spPlain1 [.int i] H Q E := ⟨_, rfl, rfl, q⟩
/-- who owns an address -/
inductive Ow where
  | no | pl | rm | ds | dh | sh (p : Nat) | hd (x : Int)
  deriving DecidableEq
def own : Ow → Bool
  | .no => false
  | .pl => false
  | _ => true
/-- a thing of the program's own -/
def plainO : HO → Bool
  | .lst _ => true
  | .dK _ => true
  | .ins _ _ _ => true
  | _ => false
/-- what no room owns stays; so does the table of lambdas -/
structure Stp (A : Ad) (w : Addr → Ow) (H : Hp) (w' : Addr → Ow) (H' : Hp) : Prop where
  fr : ∀ b o, H b = some o → own (w b) = false → (∀ ps, o ≠ .tbl ps) → H' b = some o ∧ w' b = w b
  tb : LamX.TabS H A.lamP A.lamQ → LamX.TabS H' A.lamP A.lamQ
theorem Stp.refl {A : Ad} {w : Addr → Ow} {H : Hp} : Stp A w H w H := ⟨fun _ _ h _ _ => ⟨h, rfl⟩, fun h => h⟩
theorem Stp.same {A : Ad} {w : Addr → Ow} {H H' : Hp} (s : Same H H') : Stp A w H w H' := ⟨fun b o h _ _ => ⟨s b o h, rfl⟩, fun h => h.ext s⟩
theorem Stp.at {A : Ad} {w w' : Addr → Ow} {H H' : Hp} (s : Stp A w H w' H') {b : Addr} {o : HO} (h : H b = some o) (hw : own (w b) = false) (hp : plainO o = true ∨ ∃ xs, o = .tup xs) : H' b = some o ∧ w' b = w b := by
  refine s.fr b o h hw fun ps z => ?_
  rcases hp with hp | ⟨xs, hp⟩
  · rw [z] at hp; cases hp
  · rw [z] at hp; cases hp
theorem Stp.trans {A : Ad} {w w' w2 : Addr → Ow} {H H' H2 : Hp} (a : Stp A w H w' H') (b : Stp A w' H' w2 H2) : Stp A w H w2 H2 := by
  refine ⟨fun c o h hw hn => ?_, fun h => b.tb (a.tb h)⟩
  obtain ⟨e1, e2⟩ := a.fr c o h hw hn
  obtain ⟨e3, e4⟩ := b.fr c o e1 (by rw [e2]; exact hw) hn
  exact ⟨e3, e4.trans e2⟩
/-- where the parts of a room stand -/
structure RC where
  ds : Addr
  dh : Addr
  sa : Nat → Addr
  fl : Nat → Addr
  td : Nat → Addr
  ha : Int → Addr
def roomF (pl ds dh : Addr) : List (Str × V) := putF "_held" (.ref dh) (putF "_shelves" (.ref ds) (putF "_plan" (.ref pl) []))
theorem rf_plan (pl ds dh : Addr) : (roomF pl ds dh).lookup ("_plan" : Str) = some (.ref pl) := by
  unfold roomF
  rw [lookup_putF, if_neg (by decide +kernel), lookup_putF, if_neg (by decide +kernel), lookup_putF, if_pos rfl]
theorem rf_shelves (pl ds dh : Addr) : (roomF pl ds dh).lookup ("_shelves" : Str) = some (.ref ds) := by
  unfold roomF
  rw [lookup_putF, if_neg (by decide +kernel), lookup_putF, if_pos rfl]
theorem rf_held (pl ds dh : Addr) : (roomF pl ds dh).lookup ("_held" : Str) = some (.ref dh) := by
  unfold roomF
  rw [lookup_putF, if_pos rfl]
theorem rf_no (pl ds dh : Addr) {x : Str} (h1 : ¬ x = "_held") (h2 : ¬ x = "_shelves") (h3 : ¬ x = "_plan") : (roomF pl ds dh).lookup x = none := by
  unfold roomF
  rw [lookup_putF, if_neg h1, lookup_putF, if_neg h2, lookup_putF, if_neg h3]
  rfl
structure RoomC (A : Ad) (H : Hp) (r : Addr) (w : Addr → Ow) (C : RC) (pl : Addr) (m n : Int) (xs : List Int) (bs : Bits) (hf : Held) : Prop where
  plan : ∃ dx l, H pl = some (.ins A.c_Plan dx (planF m n l)) ∧ H l = some (.lst (xs.map V.int)) ∧ w pl = .pl ∧ w l = .pl
  pb : 1 ≤ m ∧ m ≤ 40 ∧ 1 ≤ n ∧ n ≤ 60 ∧ okSizes (xs.map V.int) n = true
  ob : ∃ dx, H r = some (.ins A.c_Room dx (roomF pl C.ds C.dh)) ∧ w r = .rm
  sd : ∃ kS, H C.ds = some (.dK kS) ∧ w C.ds = .ds ∧ (kS.map (·.1)).Nodup ∧ (∀ k ∈ kS.map (·.1), ∃ p : Nat, k = Sum.inl (p : Int) ∧ isSh bs p = true) ∧ ∀ p : Nat, isSh bs p = true → valV kS (.inl (p : Int)) = some (.ref (C.sa p))
  sh : ∀ p : Nat, isSh bs p = true → ShelfAt A H (C.sa p) (C.fl p) (C.td p) p (szAt bs p) (rowAt bs p) ∧ w (C.sa p) = .sh p ∧ w (C.fl p) = .sh p ∧ w (C.td p) = .sh p
  hd : ∃ kH, H C.dh = some (.dK kH) ∧ w C.dh = .dh ∧ (kH.map (·.1)).Nodup ∧ (∀ k ∈ kH.map (·.1), ∃ i, k = Sum.inl i) ∧ ∀ x, valV kH (.inl x) = (hf x).map fun _ => .ref (C.ha x)
  hl : ∀ x c, hf x = some c → H (C.ha x) = some (.lst c) ∧ w (C.ha x) = .hd x ∧ c.length ≤ 60
  wf : Wf m n xs bs
  hb : ∀ x, hf x ≠ none → 0 ≤ x ∧ x < 2400
  ow : ∀ b, w b ≠ .no → ∃ o, H b = some o ∧ plainO o = true
theorem RoomC.same {A : Ad} {H H' : Hp} {r : Addr} {w : Addr → Ow} {C : RC} {pl : Addr} {m n : Int} {xs : List Int} {bs : Bits} {hf : Held} (h : RoomC A H r w C pl m n xs bs hf) (s : ∀ b o, H b = some o → w b ≠ .no → H' b = some o) : RoomC A H' r w C pl m n xs bs hf := by
  obtain ⟨⟨dx, l, a1, a2, a3, a4⟩, b, ⟨dr, c1, c2⟩, ⟨kS, d1, d2⟩, e, ⟨kH, f1, f2⟩, g, i, j, k⟩ := h
  refine ⟨⟨dx, l, s _ _ a1 (by rw [a3]; exact nofun), s _ _ a2 (by rw [a4]; exact nofun), a3, a4⟩, b, ⟨dr, s _ _ c1 (by rw [c2]; exact nofun), c2⟩, ⟨kS, s _ _ d1 (by rw [d2.1]; exact nofun), d2⟩, fun p hp => ?_, ⟨kH, s _ _ f1 (by rw [f2.1]; exact nofun), f2⟩, fun x c hx => ⟨s _ _ (g x c hx).1 (by rw [(g x c hx).2.1]; exact nofun), (g x c hx).2⟩, i, j, fun b hb => ?_⟩
  · obtain ⟨e1, e2, e3, e4⟩ := e p hp
    exact ⟨e1.same (fun o ho => s _ _ ho (by rw [e2]; exact nofun)) (fun o ho => s _ _ ho (by rw [e3]; exact nofun)) (fun o ho => s _ _ ho (by rw [e4]; exact nofun)), e2, e3, e4⟩
  · obtain ⟨o, ho, hp⟩ := k b hb
    exact ⟨o, s _ _ ho hb, hp⟩
theorem RoomC.sm {A : Ad} {H H' : Hp} {r : Addr} {w : Addr → Ow} {C : RC} {pl : Addr} {m n : Int} {xs : List Int} {bs : Bits} {hf : Held} (h : RoomC A H r w C pl m n xs bs hf) (s : Same H H') : RoomC A H' r w C pl m n xs bs hf := h.same fun b o e _ => s b o e
theorem RoomC.planAt {A : Ad} {H : Hp} {r : Addr} {w : Addr → Ow} {C : RC} {pl : Addr} {m n : Int} {xs : List Int} {bs : Bits} {hf : Held} (h : RoomC A H r w C pl m n xs bs hf) : PlanAt A H pl m n xs := by
  obtain ⟨dx, l, a1, a2, _⟩ := h.plan
  obtain ⟨b1, b2, b3, b4, b5⟩ := h.pb
  exact ⟨⟨dx, l, a1, a2⟩, b1, b2, b3, b4, b5⟩
theorem RoomC.free {A : Ad} {H : Hp} {r : Addr} {w : Addr → Ow} {C : RC} {pl : Addr} {m n : Int} {xs : List Int} {bs : Bits} {hf : Held} (h : RoomC A H r w C pl m n xs bs hf) {b : Addr} (e : H b = none) : w b = .no := by
  cases hw : w b with
  | no => rfl
  | _ =>
    obtain ⟨o, ho, _⟩ := h.ow b (by rw [hw]; exact nofun)
    rw [e] at ho
    cases ho
/-- the table of lambdas stays where only what is owned changes -/
theorem RoomC.stp {A : Ad} {H H' : Hp} {r : Addr} {w w' : Addr → Ow} {C : RC} {pl : Addr} {m n : Int} {xs : List Int} {bs : Bits} {hf : Held} (h : RoomC A H r w C pl m n xs bs hf) (s : ∀ b o, H b = some o → own (w b) = false → H' b = some o) (sw : ∀ b o, H b = some o → own (w b) = false → w' b = w b) : Stp A w H w' H' := by
  refine ⟨fun b o e hw _ => ⟨s b o e hw, sw b o e hw⟩, fun ⟨ps, h1, h2, h3⟩ => ?_⟩
  have key : ∀ b o, H b = some o → plainO o = false → own (w b) = false := fun b o e hp => by
    cases hw : w b with
    | no => rfl
    | _ =>
      obtain ⟨u, hu, hq⟩ := h.ow b (by rw [hw]; exact nofun)
      rw [e] at hu
      cases hu
      rw [hp] at hq
      cases hq
  refine ⟨ps, s _ _ h1 (key _ _ h1 rfl), h2, fun pos cv hc => ?_⟩
  obtain ⟨c, e1, e2⟩ := h3 pos cv hc
  exact ⟨c, e1, s _ _ e2 (key _ _ e2 rfl)⟩
/-- a law's own object is changed -/
theorem RoomC.chg {A : Ad} {H : Hp} {r : Addr} {w : Addr → Ow} {C : RC} {pl : Addr} {m n : Int} {xs : List Int} {bs : Bits} {hf : Held} (h : RoomC A H r w C pl m n xs bs hf) {l : Addr} {o : HO} (hl : w l = .no) : RoomC A (upd H l o) r w C pl m n xs bs hf := h.same fun b o e hb => by
  rw [upd_ne]
  · exact e
  · rintro rfl
    exact hb hl
/-- a room stands at r, and what is out is what it holds -/
def Rm (A : Ad) (H : Hp) (r : Addr) (w : Addr → Ow) (pl : Addr) (m n : Int) (xs : List Int) (bs : Bits) (hf : Held) : Prop := ∃ C, RoomC A H r w C pl m n xs bs hf ∧ Con n bs hf
/-- a new address (a table of lambdas is never a list) -/
def Nw (H : Hp) (D : Addr) : Prop := ∀ o, H D = some o → ∃ ps, o = .tbl ps
theorem Nw.ne {H : Hp} {D b : Addr} {o : HO} (h : Nw H D) (hb : H b = some o) (ho : ∀ ps, o ≠ .tbl ps) : b ≠ D := by
  rintro rfl
  obtain ⟨ps, e⟩ := h o hb
  exact ho ps e
/-- a list is told -/
def Ret (H : Hp) (Q : VK) (ys : List V) : Prop := ∀ H' D, Same H H' → H D = none → H' D = some (.lst ys) → Q (.ref D) H'
def refsOf (C : RC) (ps : List Nat) : List V := ps.map fun p => V.ref (C.sa p)
def pgs (ps : List Nat) : List V := ps.map fun p : Nat => V.int (p : Int)
/-! ### the promises of rooms: what only reads -/
def sp_fullest_first (A : Ad) : Sp := fun vs H Q _ => ∃ a fl td pg sz row, vs = [.ref a] ∧ ShelfAt A H a fl td pg sz row ∧ ∀ t, H t = none → Q (.ref t) (upd H t (.tup [.int (-((row.count true : Nat) : Int)), .int pg]))
def sp_Room_init (A : Ad) : Sp := fun vs H Q _ => ∃ r dx pl m n xs, vs = [.ref r, .ref pl] ∧ H r = some (.ins A.c_Room dx []) ∧ PlanAt A H pl m n xs ∧
  ∀ H' w, But r H H' → (∀ b o, H b = some o → b ≠ r → own (w b) = false) → Rm A H' r w pl m n xs (List.replicate m.toNat none) (fun _ => none) → Q .non H'
def sp_Room__all (A : Ad) : Sp := fun vs H Q _ => ∃ r w C pl m n xs bs hf, vs = [.ref r] ∧ RoomC A H r w C pl m n xs bs hf ∧ Ret H Q (refsOf C (pagesOf bs))
def sp_Room__of_size (A : Ad) : Sp := fun vs H Q _ => ∃ r w C pl m n xs bs hf s, vs = [.ref r, .int s] ∧ RoomC A H r w C pl m n xs bs hf ∧ Ret H Q (refsOf C (ofSize bs s))
def sp_Room__unused (A : Ad) : Sp := fun vs H Q _ => ∃ r w C pl m n xs bs hf, vs = [.ref r] ∧ RoomC A H r w C pl m n xs bs hf ∧ Ret H Q (refsOf C (unused bs))
def sp_Room_pile (A : Ad) : Sp := fun vs H Q _ => ∃ r w C pl m n xs bs hf, vs = [.ref r] ∧ RoomC A H r w C pl m n xs bs hf ∧ Ret H Q (pgs (pileOf bs))
/-- a list of triples -/
def Trip (w : Addr → Ow) (H : Hp) (ys : List V) (ts : List (Int × Int × Int)) : Prop := ys.length = ts.length ∧ ∀ (i : Nat) y t, ys[i]? = some y → ts[i]? = some t → ∃ a, y = .ref a ∧ H a = some (.tup [.int t.1, .int t.2.1, .int t.2.2]) ∧ own (w a) = false
def Pairs (w : Addr → Ow) (H : Hp) (ys : List V) (ts : List (Int × Int)) : Prop := ys.length = ts.length ∧ ∀ (i : Nat) y t, ys[i]? = some y → ts[i]? = some t → ∃ a, y = .ref a ∧ H a = some (.tup [.int t.1, .int t.2]) ∧ own (w a) = false
def sp_Room_shelves (A : Ad) : Sp := fun vs H Q _ => ∃ r w C pl m n xs bs hf, vs = [.ref r] ∧ RoomC A H r w C pl m n xs bs hf ∧
  ∀ H' D ys, Same H H' → H D = none → H' D = some (.lst ys) → Trip w H' ys (shelvesOf bs) → Q (.ref D) H'
/-- the things told, whatever order the keys had -/
def sp_Room_things (A : Ad) : Sp := fun vs H Q _ => ∃ r w C pl m n xs bs hf, vs = [.ref r] ∧ RoomC A H r w C pl m n xs bs hf ∧ Con n bs hf ∧
  ∀ H' D ys, Same H H' → H D = none → H' D = some (.lst ys) → Pairs w H' ys (thingsOf n bs) → Q (.ref D) H'
def sp_Room__page_of (A : Ad) : Sp := fun vs H Q _ => ∃ r w C pl m n xs bs hf x, vs = [.ref r, .int x] ∧ RoomC A H r w C pl m n xs bs hf ∧ Q (.int (x / n)) H
def sp_Room__check_out (A : Ad) : Sp := fun vs H Q E => ∃ r w C pl m n xs bs hf x, vs = [.ref r, .int x] ∧ RoomC A H r w C pl m n xs bs hf ∧ (hf x = none → E (.ref A.c_NotOut) none H) ∧ (hf x ≠ none → Q .non H)
def sp_Room__check_step (A : Ad) : Sp := fun vs H Q E => ∃ r w C pl m n xs bs hf x i, vs = [.ref r, .int x, .int i] ∧ RoomC A H r w C pl m n xs bs hf ∧ (hf x = none → E (.ref A.c_NotOut) none H) ∧
  ∀ c, hf x = some c → ((i < 0 ∨ (c.length : Int) ≤ i) → E (.ref A.c_OutOfThing) none H) ∧ (0 ≤ i ∧ i < (c.length : Int) → Q .non H)
def sp_Room_read (A : Ad) : Sp := fun vs H Q E => ∃ r w C pl m n xs bs hf x i, vs = [.ref r, .int x, .int i] ∧ RoomC A H r w C pl m n xs bs hf ∧ (hf x = none → E (.ref A.c_NotOut) none H) ∧
  ∀ c, hf x = some c → ((i < 0 ∨ (c.length : Int) ≤ i) → E (.ref A.c_OutOfThing) none H) ∧ (∀ k : Nat, i = k → ∀ v, c[k]? = some v → Q v H)
/-- a wish by a plan's sizes -/
def WishW (A : Ad) (xs : List Int) (x : V) (H : Hp) (E : XK) (P : Int → Prop) : Prop := plainV x = true ∧ ((isI x = false ∨ ∃ i, x = .int i ∧ i < 1) → E (.ref A.c_BadWish) none H) ∧
  ∀ i, x = .int i → 1 ≤ i → (xs.find? (fun s => decide (i ≤ s)) = none → E (.ref A.c_TooLarge) none H) ∧ ∀ s, xs.find? (fun s => decide (i ≤ s)) = some s → P s
def sp_Room_room_for (A : Ad) : Sp := fun vs H Q E => ∃ r w C pl m n xs bs hf x, vs = [.ref r, x] ∧ RoomC A H r w C pl m n xs bs hf ∧ WishW A xs x H E (fun s => ∀ H', Same H H' → Q (.int (roomFor n bs s)) H')
def sp_Room__page_for_shelf (A : Ad) : Sp := fun vs H Q E => ∃ r w C pl m n xs bs hf, vs = [.ref r] ∧ RoomC A H r w C pl m n xs bs hf ∧ (pageFor bs = none → ∀ H', Same H H' → E (.ref A.c_NoRoom) none H') ∧ ∀ p, pageFor bs = some p → ∀ H', Same H H' → Q (.int (p : Int)) H'
/-! ### what changes -/
def sp_Room_write (A : Ad) : Sp := fun vs H Q E => ∃ r w pl m n xs bs hf x i j, vs = [.ref r, .int x, .int i, .int j] ∧ Rm A H r w pl m n xs bs hf ∧ (hf x = none → E (.ref A.c_NotOut) none H) ∧
  ∀ c, hf x = some c → ((i < 0 ∨ (c.length : Int) ≤ i) → E (.ref A.c_OutOfThing) none H) ∧ (∀ k : Nat, i = k → k < c.length → ∀ H', Stp A w H w H' → Rm A H' r w pl m n xs bs (fun y => if y = x then some (c.set k (.int j)) else hf y) → Q .non H')
def sp_Room__give_back_shelves (A : Ad) : Sp := fun vs H Q _ => ∃ r w C pl m n xs bs hf ps l, vs = [.ref r, .ref l] ∧ RoomC A H r w C pl m n xs bs hf ∧ H l = some (.lst (refsOf C ps)) ∧ own (w l) = false ∧ ps.Nodup ∧ (∀ p ∈ ps, isSh bs p = true) ∧
  ∀ H', Stp A w H w H' → RoomC A H' r w C pl m n xs (dropPages bs ps) hf → Q .non H'
def sp_Room_trim (A : Ad) : Sp := fun vs H Q _ => ∃ r w pl m n xs bs hf, vs = [.ref r] ∧ Rm A H r w pl m n xs bs hf ∧
  ∀ H', Stp A w H w H' → Rm A H' r w pl m n xs (dropPages bs (unused bs)) hf → Q (.int ((unused bs).length : Int)) H'
def sp_Room__shelf_for (A : Ad) : Sp := fun vs H Q E => ∃ r w C pl m n xs bs hf s, vs = [.ref r, .int s] ∧ RoomC A H r w C pl m n xs bs hf ∧ s ∈ xs ∧ (cands bs s = [] → pageFor bs = none → ∀ H', Same H H' → E (.ref A.c_NoRoom) none H') ∧
  ∀ p bs' H' w' C', ForSize n bs s p bs' → Stp A w H w' H' → RoomC A H' r w' C' pl m n xs bs' hf → Q (.ref (C'.sa p)) H'
def sp_Room__take_place (A : Ad) : Sp := fun vs H Q _ => ∃ r w C pl m n xs bs hf p, vs = [.ref r, .ref (C.sa p)] ∧ RoomC A H r w C pl m n xs bs hf ∧ false ∈ rowAt bs p ∧
  ∀ H', Stp A w H w H' → RoomC A H' r w C pl m n xs (takeAt bs p) hf → Q (.int ((p : Int) * n + (((rowAt bs p).idxOf false : Nat) : Int) * szAt bs p)) H'
def sp_Room_wish (A : Ad) : Sp := fun vs H Q E => ∃ r w pl m n xs bs hf x, vs = [.ref r, x] ∧ Rm A H r w pl m n xs bs hf ∧ WishW A xs x H E (fun s =>
  (cands bs s = [] → pageFor bs = none → ∀ H', Same H H' → E (.ref A.c_NoRoom) none H') ∧
  ∀ p bs' H' w', ForSize n bs s p bs' → Stp A w H w' H' →
    Rm A H' r w' pl m n xs (takeAt bs' p) (fun y => if y = (p : Int) * n + (((rowAt bs' p).idxOf false : Nat) : Int) * s then some (List.replicate s.toNat (.int 0)) else hf y) → Q (.int ((p : Int) * n + (((rowAt bs' p).idxOf false : Nat) : Int) * s)) H')
/-- a thing is given back -/
def sp_Room_give_back (A : Ad) : Sp := fun vs H Q E => ∃ r w pl m n xs bs hf x, vs = [.ref r, .int x] ∧ Rm A H r w pl m n xs bs hf ∧ (hf x = none → E (.ref A.c_NotOut) none H) ∧
  (hf x ≠ none → ∀ p k : Nat, (rowAt bs p)[k]? = some true → x = (p : Int) * n + (k : Int) * szAt bs p →
    ∀ H', Stp A w H w H' → Rm A H' r w pl m n xs (giveSt bs p k) (fun y => if y = x then none else hf y) → Q .non H')
def sp_Room__move_things (A : Ad) : Sp := fun vs H Q _ => ∃ r w C pl m n xs bs hf lv st l1 l2 ri places, vs = [.ref r, .ref l1, .ref l2] ∧ RoomC A H r w C pl m n xs bs hf ∧ LamX.TabS H A.lamP A.lamQ ∧
  H l1 = some (.lst (refsOf C lv)) ∧ own (w l1) = false ∧ H l2 = some (.lst (refsOf C st)) ∧ own (w l2) = false ∧ (∀ p ∈ lv, isSh bs p = true) ∧ (∀ p ∈ st, isSh bs p = true) ∧ lv.length ≤ 40 ∧ ri.Perm st ∧ ri.Pairwise (· < ·) ∧
  places.Pairwise (· < ·) ∧ (∀ x, x ∈ places ↔ hf x ≠ none ∧ ∃ p ∈ lv, x / n = (p : Nat)) ∧ places.length ≤ freeSum bs ri ∧
  ∀ H' w' C' D ys, Stp A w H w' H' → C'.sa = C.sa → Nw H D → w' D = .no → H' D = some (.lst ys) → Pairs w' H' ys (fill n ri places bs hf).2.2 → RoomC A H' r w' C' pl m n xs (fill n ri places bs hf).1 (fill n ri places bs hf).2.1 → Q (.ref D) H'
def sp_Room_gather (A : Ad) : Sp := fun vs H Q E => ∃ r w pl m n xs bs hf x, vs = [.ref r, x] ∧ Rm A H r w pl m n xs bs hf ∧ LamX.TabS H A.lamP A.lamQ ∧ plainV x = true ∧ ((∀ i, x = .int i → i ∉ xs) → E (.ref A.c_NoSize) none H) ∧
  ∀ s, x = .int s → s ∈ xs → ∀ rk, IsRank bs s rk → ∀ H' w' D ys, Stp A w H w' H' → Nw H D → w' D = .no → H' D = some (.lst ys) → Pairs w' H' ys (gath n bs hf s rk).2.2 → Rm A H' r w' pl m n xs (gath n bs hf s rk).1 (gath n bs hf s rk).2.1 → Q (.ref D) H'
theorem len_fullest_first (A : Ad) {vs : List V} {H : Hp} {Q : VK} {E : XK} (h : sp_fullest_first A vs H Q E) : vs.length = 1 := by
  obtain ⟨_, _, _, _, _, _, rfl, _⟩ := h; rfl
theorem len_Room_init (A : Ad) {vs : List V} {H : Hp} {Q : VK} {E : XK} (h : sp_Room_init A vs H Q E) : vs.length = 2 := by
  obtain ⟨_, _, _, _, _, _, rfl, _⟩ := h; rfl
theorem len_Room__all (A : Ad) {vs : List V} {H : Hp} {Q : VK} {E : XK} (h : sp_Room__all A vs H Q E) : vs.length = 1 := by
  obtain ⟨_, _, _, _, _, _, _, _, _, rfl, _⟩ := h; rfl
theorem len_Room__of_size (A : Ad) {vs : List V} {H : Hp} {Q : VK} {E : XK} (h : sp_Room__of_size A vs H Q E) : vs.length = 2 := by
  obtain ⟨_, _, _, _, _, _, _, _, _, _, rfl, _⟩ := h; rfl
theorem len_Room__unused (A : Ad) {vs : List V} {H : Hp} {Q : VK} {E : XK} (h : sp_Room__unused A vs H Q E) : vs.length = 1 := by
  obtain ⟨_, _, _, _, _, _, _, _, _, rfl, _⟩ := h; rfl
theorem len_Room_pile (A : Ad) {vs : List V} {H : Hp} {Q : VK} {E : XK} (h : sp_Room_pile A vs H Q E) : vs.length = 1 := by
  obtain ⟨_, _, _, _, _, _, _, _, _, rfl, _⟩ := h; rfl
theorem len_Room_shelves (A : Ad) {vs : List V} {H : Hp} {Q : VK} {E : XK} (h : sp_Room_shelves A vs H Q E) : vs.length = 1 := by
  obtain ⟨_, _, _, _, _, _, _, _, _, rfl, _⟩ := h; rfl
theorem len_Room_things (A : Ad) {vs : List V} {H : Hp} {Q : VK} {E : XK} (h : sp_Room_things A vs H Q E) : vs.length = 1 := by
  obtain ⟨_, _, _, _, _, _, _, _, _, rfl, _⟩ := h; rfl
theorem len_Room__page_of (A : Ad) {vs : List V} {H : Hp} {Q : VK} {E : XK} (h : sp_Room__page_of A vs H Q E) : vs.length = 2 := by
  obtain ⟨_, _, _, _, _, _, _, _, _, _, rfl, _⟩ := h; rfl
theorem len_Room__check_out (A : Ad) {vs : List V} {H : Hp} {Q : VK} {E : XK} (h : sp_Room__check_out A vs H Q E) : vs.length = 2 := by
  obtain ⟨_, _, _, _, _, _, _, _, _, _, rfl, _⟩ := h; rfl
theorem len_Room__check_step (A : Ad) {vs : List V} {H : Hp} {Q : VK} {E : XK} (h : sp_Room__check_step A vs H Q E) : vs.length = 3 := by
  obtain ⟨_, _, _, _, _, _, _, _, _, _, _, rfl, _⟩ := h; rfl
theorem len_Room_read (A : Ad) {vs : List V} {H : Hp} {Q : VK} {E : XK} (h : sp_Room_read A vs H Q E) : vs.length = 3 := by
  obtain ⟨_, _, _, _, _, _, _, _, _, _, _, rfl, _⟩ := h; rfl
theorem len_Room_room_for (A : Ad) {vs : List V} {H : Hp} {Q : VK} {E : XK} (h : sp_Room_room_for A vs H Q E) : vs.length = 2 := by
  obtain ⟨_, _, _, _, _, _, _, _, _, _, rfl, _⟩ := h; rfl
theorem len_Room__page_for_shelf (A : Ad) {vs : List V} {H : Hp} {Q : VK} {E : XK} (h : sp_Room__page_for_shelf A vs H Q E) : vs.length = 1 := by
  obtain ⟨_, _, _, _, _, _, _, _, _, rfl, _⟩ := h; rfl
theorem len_Room_write (A : Ad) {vs : List V} {H : Hp} {Q : VK} {E : XK} (h : sp_Room_write A vs H Q E) : vs.length = 4 := by
  obtain ⟨_, _, _, _, _, _, _, _, _, _, _, rfl, _⟩ := h; rfl
theorem len_Room__give_back_shelves (A : Ad) {vs : List V} {H : Hp} {Q : VK} {E : XK} (h : sp_Room__give_back_shelves A vs H Q E) : vs.length = 2 := by
  obtain ⟨_, _, _, _, _, _, _, _, _, _, _, rfl, _⟩ := h; rfl
theorem len_Room_trim (A : Ad) {vs : List V} {H : Hp} {Q : VK} {E : XK} (h : sp_Room_trim A vs H Q E) : vs.length = 1 := by
  obtain ⟨_, _, _, _, _, _, _, _, rfl, _⟩ := h; rfl
theorem len_Room__shelf_for (A : Ad) {vs : List V} {H : Hp} {Q : VK} {E : XK} (h : sp_Room__shelf_for A vs H Q E) : vs.length = 2 := by
  obtain ⟨_, _, _, _, _, _, _, _, _, _, rfl, _⟩ := h; rfl
theorem len_Room__take_place (A : Ad) {vs : List V} {H : Hp} {Q : VK} {E : XK} (h : sp_Room__take_place A vs H Q E) : vs.length = 2 := by
  obtain ⟨_, _, _, _, _, _, _, _, _, _, rfl, _⟩ := h; rfl
theorem len_Room_wish (A : Ad) {vs : List V} {H : Hp} {Q : VK} {E : XK} (h : sp_Room_wish A vs H Q E) : vs.length = 2 := by
  obtain ⟨_, _, _, _, _, _, _, _, _, rfl, _⟩ := h; rfl
theorem len_Room_give_back (A : Ad) {vs : List V} {H : Hp} {Q : VK} {E : XK} (h : sp_Room_give_back A vs H Q E) : vs.length = 2 := by
  obtain ⟨_, _, _, _, _, _, _, _, _, rfl, _⟩ := h; rfl
theorem len_Room__move_things (A : Ad) {vs : List V} {H : Hp} {Q : VK} {E : XK} (h : sp_Room__move_things A vs H Q E) : vs.length = 3 := by
  obtain ⟨_, _, _, _, _, _, _, _, _, _, _, _, _, _, _, rfl, _⟩ := h; rfl
theorem len_Room_gather (A : Ad) {vs : List V} {H : Hp} {Q : VK} {E : XK} (h : sp_Room_gather A vs H Q E) : vs.length = 2 := by
  obtain ⟨_, _, _, _, _, _, _, _, _, rfl, _⟩ := h; rfl

/-! ### lemmas of rooms and pairs -/
theorem RoomC.okk {A : Ad} {H : Hp} {r : Addr} {w : Addr → Ow} {C : RC} {pl : Addr} {m n : Int} {xs : List Int} {bs : Bits} {hf : Held} (h : RoomC A H r w C pl m n xs bs hf) : Ok m n xs bs := ⟨h.wf, h.pb.2.2.1, fun s hs => okSizes_mem h.pb.2.2.2.2 s hs⟩
theorem filt_head {α : Type} (P : α → Bool) (l : List α) {g : α} (h : l.find? P = some g) : (l.filter P)[0]? = some g := by
  rw [← List.head?_eq_getElem?, List.head?_filter]
  exact h
theorem drop_cons {α : Type} {l : List α} {i : Nat} {x : α} (h : l[i]? = some x) : l.drop i = x :: l.drop (i + 1) := by
  obtain ⟨h1, h2⟩ := List.getElem?_eq_some_iff.mp h
  rw [List.drop_eq_getElem_cons h1, h2]
/-- pairs that are told stay -/
theorem Pairs.stp {A : Ad} {w w' : Addr → Ow} {H H' : Hp} {ys : List V} {ts : List (Int × Int)} (h : Pairs w H ys ts) (s : Stp A w H w' H') : Pairs w' H' ys ts := ⟨h.1, fun i y t h1 h2 => by
  obtain ⟨a, e1, e2, e3⟩ := h.2 i y t h1 h2
  obtain ⟨e4, e5⟩ := s.at e2 e3 (.inr ⟨_, rfl⟩)
  exact ⟨a, e1, e4, by rw [e5]; exact e3⟩⟩
theorem Pairs.upd {w : Addr → Ow} {H : Hp} {ys : List V} {ts : List (Int × Int)} (h : Pairs w H ys ts) {l : Addr} {o xs : List V} (hl : H l = some (.lst o)) : Pairs w (upd H l (.lst xs)) ys ts := ⟨h.1, fun i y t h1 h2 => by
  obtain ⟨a, e1, e2, e3⟩ := h.2 i y t h1 h2
  exact ⟨a, e1, (upd_ne (ne_of e2 hl (by intro z; cases z))).trans e2, e3⟩⟩
theorem Pairs.snoc {w : Addr → Ow} {H : Hp} {ys : List V} {ts : List (Int × Int)} (h : Pairs w H ys ts) {a : Addr} {x y : Int} (ha : H a = some (.tup [.int x, .int y])) (hw : own (w a) = false) : Pairs w H (ys ++ [.ref a]) (ts ++ [(x, y)]) := ⟨by rw [List.length_append, List.length_append, h.1]; rfl, fun i v t h1 h2 => by
  have hl := h.1
  by_cases hi : i < ys.length
  · rw [List.getElem?_append_left hi] at h1
    rw [List.getElem?_append_left (by omega)] at h2
    exact h.2 i v t h1 h2
  · rw [List.getElem?_append_right (by omega)] at h1
    rw [List.getElem?_append_right (by omega)] at h2
    have e : i - ys.length = 0 := by
      have := (List.getElem?_eq_some_iff.mp h1).1
      simpa using this
    rw [e] at h1
    rw [← hl, e] at h2
    cases h1
    cases h2
    exact ⟨a, rfl, ha, hw⟩⟩

/-! ### lists of tuples as data -/
def pd2 (t : Int × Int) : PyData := .tuple [.int t.1, .int t.2]
def pd3 (t : Int × Int × Int) : PyData := .tuple [.int t.1, .int t.2.1, .int t.2.2]
theorem eqv2 (a b : Int × Int) : (pd2 a).eqv (pd2 b) = decide (a = b) := by
  obtain ⟨x, y⟩ := a
  obtain ⟨z, t⟩ := b
  unfold pd2
  simp only [PyData.eqv, PyData.eqvAll, Bool.and_true]
  by_cases h1 : x = z <;> by_cases h2 : y = t <;> simp [h1, h2]
theorem eqv3 (a b : Int × Int × Int) : (pd3 a).eqv (pd3 b) = decide (a = b) := by
  obtain ⟨x, y, u⟩ := a
  obtain ⟨z, t, v⟩ := b
  unfold pd3
  simp only [PyData.eqv, PyData.eqvAll, Bool.and_true]
  by_cases h1 : x = z <;> by_cases h2 : y = t <;> by_cases h3 : u = v <;> simp [h1, h2, h3]
theorem lay_all {α : Type} {f : α → PyData} (hf : ∀ a, (f a).canLay0 = true) : ∀ ts : List α, PyData.canLayAll0 (ts.map f) = true
  | [] => rfl
  | t :: ts => by
    rw [List.map_cons]
    simp only [PyData.canLayAll0, hf t, lay_all hf ts, Bool.and_true]
theorem depth_all {α : Type} {f : α → PyData} {k : Nat} (hf : ∀ a, (f a).depth ≤ k) : ∀ ts : List α, PyData.depthAll (ts.map f) ≤ k
  | [] => by simp only [List.map_nil, PyData.depthAll]; omega
  | t :: ts => by
    rw [List.map_cons]
    have h1 := hf t
    have h2 := depth_all hf ts
    simp only [PyData.depthAll]
    omega
theorem lay2 (t : Int × Int) : (pd2 t).canLay0 = true := by unfold pd2; simp only [PyData.canLay0, PyData.canLayAll0, Bool.and_true]
theorem lay3 (t : Int × Int × Int) : (pd3 t).canLay0 = true := by unfold pd3; simp only [PyData.canLay0, PyData.canLayAll0, Bool.and_true]
theorem depth2 (t : Int × Int) : (pd2 t).depth ≤ 4 := by unfold pd2; simp only [PyData.depth, PyData.depthAll]; omega
theorem depth3 (t : Int × Int × Int) : (pd3 t).depth ≤ 4 := by unfold pd3; simp only [PyData.depth, PyData.depthAll]; omega
theorem shaped2 (t : Int × Int) : SeqAt.shaped (pd2 t) = true := by
  have := depth2 t
  unfold SeqAt.shaped
  rw [lay2, decide_eq_true (by omega)]; rfl
theorem shaped3 (t : Int × Int × Int) : SeqAt.shaped (pd3 t) = true := by
  have := depth3 t
  unfold SeqAt.shaped
  rw [lay3, decide_eq_true (by omega)]; rfl
theorem shapedL {α : Type} {f : α → PyData} (h1 : ∀ a, (f a).canLay0 = true) (h2 : ∀ a, (f a).depth ≤ 4) (ts : List α) : SeqAt.shaped (.list (ts.map f)) = true := by
  have := depth_all h2 ts
  unfold SeqAt.shaped
  simp only [PyData.canLay0, PyData.depth, lay_all h1 ts, Bool.true_and]
  exact decide_eq_true (by omega)
theorem eqvL {α : Type} [DecidableEq α] {f : α → PyData} (hf : ∀ a b, (f a).eqv (f b) = decide (a = b)) : ∀ ts us : List α, PyData.eqvAll (ts.map f) (us.map f) = decide (ts = us)
  | [], [] => by simp only [List.map_nil, PyData.eqvAll]; rfl
  | [], u :: us => by simp only [List.map_nil, List.map_cons, PyData.eqvAll]; simp
  | t :: ts, [] => by simp only [List.map_nil, List.map_cons, PyData.eqvAll]; simp
  | t :: ts, u :: us => by
    simp only [List.map_cons, PyData.eqvAll, hf, eqvL hf ts us]
    by_cases h1 : t = u <;> by_cases h2 : ts = us <;> simp [h1, h2]
theorem anyL {α : Type} [DecidableEq α] {f : α → PyData} (hf : ∀ a b, (f a).eqv (f b) = decide (a = b)) (t : α) : ∀ ts : List α, ((ts.map f).any fun z => z.eqv (f t)) = decide (t ∈ ts)
  | [] => rfl
  | u :: us => by
    rw [List.map_cons, List.any_cons, anyL hf t us, hf]
    by_cases h1 : u = t
    · subst h1; simp
    · have : t ≠ u := fun e => h1 e.symm
      simp [h1, this]
theorem any2 (t : Int × Int) (ts : List (Int × Int)) : ((ts.map pd2).any fun z => z.eqv (pd2 t)) = decide (t ∈ ts) := by
  rw [anyL eqv2]
  congr
section
variable {K : PySem.W.Frag} {w : Addr → Ow} {H : Hp} {Q : VK} {l m a : Addr} {ys zs : List V} {ts us : List (Int × Int)} {t : Int × Int}
theorem dpall_of {α : Type} {f : α → PyData} : ∀ {ys : List V} {ts : List α}, ys.length = ts.length → (∀ (i : Nat) y t, ys[i]? = some y → ts[i]? = some t → Dp K H y (f t)) → DpAll K H ys (ts.map f)
  | [], [], _, _ => .nil
  | [], _ :: _, h, _ => nomatch h
  | _ :: _, [], h, _ => nomatch h
  | y :: ys, t :: ts, h, hd => .cons (hd 0 y t rfl rfl) (dpall_of (by simpa using h) fun i y t h1 h2 => hd (i + 1) y t h1 h2)
theorem dp_pair (h : H a = some (.tup [.int t.1, .int t.2])) : Dp K H (.ref a) (pd2 t) := .tup (toT h) (.cons (.int _) (.cons (.int _) .nil))
theorem dp_pairs (hl : H l = some (.lst ys)) (h : Pairs w H ys ts) : Dp K H (.ref l) (.list (ts.map pd2)) := .lst (toL hl) (dpall_of h.1 fun i y t h1 h2 => by
  obtain ⟨a, rfl, e, _⟩ := h.2 i y t h1 h2
  exact dp_pair e)
theorem dp_trips {ts : List (Int × Int × Int)} (hl : H l = some (.lst ys)) (h : Trip w H ys ts) : Dp K H (.ref l) (.list (ts.map pd3)) := .lst (toL hl) (dpall_of h.1 fun i y t h1 h2 => by
  obtain ⟨a, rfl, e, _⟩ := h.2 i y t h1 h2
  exact .tup (toT e) (.cons (.int _) (.cons (.int _) (.cons (.int _) .nil))))
theorem r_ninPr (hl : H l = some (.lst ys)) (h : Pairs w H ys ts) (ha : H a = some (.tup [.int t.1, .int t.2])) (q : Q (.bl (!decide (t ∈ ts))) H) : rInN K (.ref a) (.ref l) H Q := .inr ⟨pd2 t, ts.map pd2, dp_pair ha, dp_pairs hl h, shaped2 t, shapedL lay2 depth2 ts, by rw [any2]; exact q⟩
theorem r_inPr (hl : H l = some (.lst ys)) (h : Pairs w H ys ts) (ha : H a = some (.tup [.int t.1, .int t.2])) (q : Q (.bl (decide (t ∈ ts))) H) : rInP K (.ref a) (.ref l) H Q := .inr ⟨pd2 t, ts.map pd2, dp_pair ha, dp_pairs hl h, shaped2 t, shapedL lay2 depth2 ts, by rw [any2]; exact q⟩
theorem r_indexPr (hl : H l = some (.lst ys)) (h : Pairs w H ys ts) (ha : H a = some (.tup [.int t.1, .int t.2])) (hm : t ∈ ts) (q : Q (.int ((ts.idxOf t : Nat) : Int)) H) : rIndexA K (.ref l) [.ref a] H Q := by
  have hlt := List.idxOf_lt_length_of_mem hm
  have he : ts[ts.idxOf t]? = some t := by rw [List.getElem?_eq_getElem hlt, List.getElem_idxOf hlt]
  refine .inr ⟨l, .ref a, pd2 t, ts.map pd2, ts.idxOf t, pd2 t, rfl, rfl, dp_pairs hl h, dp_pair ha, shapedL lay2 depth2 ts, shaped2 t, by rw [List.getElem?_map, he]; rfl, by rw [eqv2]; exact decide_eq_true rfl, fun k z hk hz => ?_, q⟩
  rw [List.getElem?_map] at hz
  cases e : ts[k]? with
  | none => rw [e] at hz; cases hz
  | some u =>
    rw [e] at hz
    cases hz
    rw [eqv2]
    refine decide_eq_false fun z => ?_
    subst z
    have h2 := List.not_of_lt_findIdx (p := (· == u)) (xs := ts) (i := k) (by show k < List.idxOf u ts; exact hk)
    obtain ⟨h3, h4⟩ := List.getElem?_eq_some_iff.mp e
    rw [h4] at h2
    simp at h2
theorem eqv_pairs (ts us : List (Int × Int)) : PyData.eqv (.list (ts.map pd2)) (.list (us.map pd2)) = decide (ts = us) := by simp only [PyData.eqv, eqvL eqv2]
theorem eqv_trips (ts us : List (Int × Int × Int)) : PyData.eqv (.list (ts.map pd3)) (.list (us.map pd3)) = decide (ts = us) := by simp only [PyData.eqv, eqvL eqv3]
theorem r_eqPr (hl : H l = some (.lst ys)) (h : Pairs w H ys ts) (hm : H m = some (.lst zs)) (g : Pairs w H zs us) (q : Q (.bl (decide (ts = us))) H) : rEqA K (.ref l) (.ref m) H Q := .inr ⟨_, _, dp_pairs hl h, dp_pairs hm g, shapedL lay2 depth2 ts, shapedL lay2 depth2 us, by rw [eqv_pairs]; exact q⟩
theorem r_nePr (hl : H l = some (.lst ys)) (h : Pairs w H ys ts) (hm : H m = some (.lst zs)) (g : Pairs w H zs us) (q : Q (.bl (!decide (ts = us))) H) : rNeA K (.ref l) (.ref m) H Q := .inr ⟨_, _, dp_pairs hl h, dp_pairs hm g, shapedL lay2 depth2 ts, shapedL lay2 depth2 us, by rw [eqv_pairs]; exact q⟩
end
theorem Pairs.nil {w : Addr → Ow} {H : Hp} : Pairs w H [] [] := ⟨rfl, fun i y t h => by simp at h⟩
theorem Pairs.at {w : Addr → Ow} {H : Hp} {ys : List V} {ts : List (Int × Int)} (h : Pairs w H ys ts) {i : Nat} {t : Int × Int} (e : ts[i]? = some t) : ∃ a, ys[i]? = some (.ref a) ∧ H a = some (.tup [.int t.1, .int t.2]) ∧ own (w a) = false := by
  have hi : i < ys.length := by rw [h.1]; exact (List.getElem?_eq_some_iff.mp e).1
  obtain ⟨a, e1, e2, e3⟩ := h.2 i _ t (List.getElem?_eq_getElem hi) e
  exact ⟨a, by rw [List.getElem?_eq_getElem hi, e1], e2, e3⟩
theorem Pairs.set {w : Addr → Ow} {H : Hp} {ys : List V} {ts : List (Int × Int)} (h : Pairs w H ys ts) {k : Nat} {a : Addr} {t : Int × Int} (ha : H a = some (.tup [.int t.1, .int t.2])) (hw : own (w a) = false) : Pairs w H (ys.set k (.ref a)) (ts.set k t) := ⟨by rw [List.length_set, List.length_set]; exact h.1, fun i y u h1 h2 => by
  by_cases e : k = i
  · subst e
    have hk : k < ys.length := by have := (List.getElem?_eq_some_iff.mp h1).1; rwa [List.length_set] at this
    rw [List.getElem?_set_self hk] at h1
    rw [List.getElem?_set_self (by rw [← h.1]; exact hk)] at h2
    cases h1
    cases h2
    exact ⟨a, rfl, ha, hw⟩
  · rw [List.getElem?_set_ne e] at h1 h2
    exact h.2 i y u h1 h2⟩
theorem Pairs.erase {w : Addr → Ow} {H : Hp} {ys : List V} {ts : List (Int × Int)} (h : Pairs w H ys ts) (k : Nat) : Pairs w H (ys.eraseIdx k) (ts.eraseIdx k) := by
  refine ⟨by rw [List.length_eraseIdx, List.length_eraseIdx, h.1], fun i y u h1 h2 => ?_⟩
  rw [List.getElem?_eraseIdx] at h1 h2
  by_cases e : i < k
  · rw [if_pos e] at h1 h2
    exact h.2 i y u h1 h2
  · rw [if_neg e] at h1 h2
    exact h.2 (i + 1) y u h1 h2

/-! ### what the law keeps: the things that are out -/
def cellAt (ns : List Int) (k : Int) : Int := if k < (ns.length : Int) then ns.getD k.toNat 0 else 0
/-- the law's own list of what is out -/
def OutOk (hf : Held) (out : List (Int × Int)) : Prop := (out.map (·.1)).Nodup ∧ ∀ x s, (x, s) ∈ out ↔ ∃ c, hf x = some c ∧ (c.length : Int) = s
theorem out_none : OutOk (fun _ => none) [] := ⟨List.Pairwise.nil, fun x s => ⟨fun h => (by cases h), fun ⟨c, h, _⟩ => (by cases h)⟩⟩
theorem OutOk.fst {hf : Held} {out : List (Int × Int)} (h : OutOk hf out) {x : Int} (hx : x ∈ out.map (·.1)) : ∃ c, hf x = some c := by
  obtain ⟨⟨y, s⟩, h1, rfl⟩ := List.mem_map.mp hx
  obtain ⟨c, h2, _⟩ := (h.2 y s).mp h1
  exact ⟨c, h2⟩
theorem out_wish {hf : Held} {out : List (Int × Int)} {y s : Int} {c : List V} (h : OutOk hf out) (hy : hf y = none) (hc : (c.length : Int) = s) : OutOk (fun z => if z = y then some c else hf z) (out ++ [(y, s)]) := by
  have hno : y ∉ out.map (·.1) := fun z => by
    obtain ⟨d, e⟩ := h.fst z
    rw [hy] at e; cases e
  refine ⟨?_, fun x t => ?_⟩
  · rw [List.map_append, List.nodup_append]
    exact ⟨h.1, List.pairwise_singleton _ _, fun a ha b hb z => hno (by have e : b = y := List.mem_singleton.mp hb; rw [← e, ← z]; exact ha)⟩
  · rw [List.mem_append, List.mem_singleton, h.2 x t]
    show _ ↔ ∃ d, (if x = y then some c else hf x) = some d ∧ _
    by_cases e : x = y
    · rw [if_pos e]
      constructor
      · rintro (⟨d, h1, _⟩ | h1)
        · rw [e, hy] at h1; cases h1
        · cases h1; exact ⟨c, rfl, hc⟩
      · rintro ⟨d, h1, h2⟩
        cases h1
        exact .inr (by rw [e, ← h2, hc])
    · rw [if_neg e]
      exact ⟨fun h1 => h1.resolve_right fun z => e (Prod.mk.inj z).1, fun h1 => .inl h1⟩
theorem out_give {hf : Held} {out : List (Int × Int)} {k : Nat} {x s : Int} (h : OutOk hf out) (hk : out[k]? = some (x, s)) : OutOk (fun z => if z = x then none else hf z) (out.eraseIdx k) := by
  have hkl := (List.getElem?_eq_some_iff.mp hk).1
  have hnd : out.Nodup := List.Pairwise.imp (fun {a b} q (e : a = b) => q (by rw [e])) (List.pairwise_map.mp h.1)
  refine ⟨?_, fun y t => ?_⟩
  · exact h.1.sublist ((List.eraseIdx_sublist out k).map _)
  · show _ ↔ ∃ d, (if y = x then none else hf y) = some d ∧ _
    have hm : (y, t) ∈ out.eraseIdx k ↔ (y, t) ∈ out ∧ y ≠ x := by
      rw [List.mem_eraseIdx_iff_getElem?]
      constructor
      · rintro ⟨i, hi, e⟩
        refine ⟨List.mem_of_getElem? e, fun z => ?_⟩
        have h1 : (out.map (·.1))[i]? = some x := by rw [List.getElem?_map, e, z]; rfl
        have h2 : (out.map (·.1))[k]? = some x := by rw [List.getElem?_map, hk]; rfl
        obtain ⟨a1, a2⟩ := List.getElem?_eq_some_iff.mp h1
        obtain ⟨b1, b2⟩ := List.getElem?_eq_some_iff.mp h2
        exact hi ((List.getElem_inj h.1).mp (a2.trans b2.symm))
      · rintro ⟨h1, h2⟩
        obtain ⟨i, e⟩ := List.mem_iff_getElem?.mp h1
        refine ⟨i, fun z => ?_, e⟩
        rw [z, hk] at e
        cases e
        exact h2 rfl
    rw [hm, h.2 y t]
    by_cases e : y = x
    · rw [if_pos e]
      exact ⟨fun z => absurd e z.2, fun ⟨d, z, _⟩ => nomatch z⟩
    · rw [if_neg e]
      exact ⟨fun z => z.1, fun z => ⟨z, e⟩⟩
theorem out_move {hf : Held} {out : List (Int × Int)} {a b s : Int} (h : OutOk hf out) (ha : (a, s) ∈ out) (hb : hf b = none) : OutOk (mvH hf a b) (out.set (out.idxOf (a, s)) (b, s)) := by
  have hlt := List.idxOf_lt_length_of_mem ha
  have hk : out[out.idxOf (a, s)]? = some (a, s) := by rw [List.getElem?_eq_getElem hlt, List.getElem_idxOf hlt]
  generalize out.idxOf (a, s) = k at hk hlt
  have hnb : b ∉ out.map (·.1) := fun z => by
    obtain ⟨d, e⟩ := h.fst z
    rw [hb] at e; cases e
  have hab : a ≠ b := fun z => hnb (by rw [← z]; exact List.mem_map.mpr ⟨_, ha, rfl⟩)
  have huniq : ∀ i t, out[i]? = some (a, t) → i = k := fun i t e => by
    have h1 : (out.map (·.1))[i]? = some a := by rw [List.getElem?_map, e]; rfl
    have h2 : (out.map (·.1))[k]? = some a := by rw [List.getElem?_map, hk]; rfl
    obtain ⟨a1, a2⟩ := List.getElem?_eq_some_iff.mp h1
    obtain ⟨b1, b2⟩ := List.getElem?_eq_some_iff.mp h2
    exact (List.getElem_inj h.1).mp (a2.trans b2.symm)
  refine ⟨?_, fun y t => ?_⟩
  · rw [List.map_set]
    refine (List.pairwise_iff_getElem (R := (· ≠ ·))).mpr fun i j hi hj hij e => ?_
    rw [List.length_set, List.length_map] at hi hj
    rw [List.getElem_set, List.getElem_set] at e
    by_cases e1 : k = i
    · rw [if_pos e1, if_neg (by omega)] at e
      exact hnb (List.mem_of_getElem e.symm)
    · rw [if_neg e1] at e
      by_cases e2 : k = j
      · rw [if_pos e2] at e
        exact hnb (List.mem_of_getElem e)
      · rw [if_neg e2] at e
        have := (List.getElem_inj h.1).mp e
        omega
  · show _ ↔ ∃ d, (if y = b then hf a else if y = a then none else hf y) = some d ∧ _
    have hm : (y, t) ∈ out.set k (b, s) ↔ (y = b ∧ t = s) ∨ ((y, t) ∈ out ∧ y ≠ a) := by
      rw [List.mem_iff_getElem?]
      constructor
      · rintro ⟨i, e⟩
        by_cases e1 : k = i
        · subst e1
          rw [List.getElem?_set_self hlt] at e
          cases e
          exact .inl ⟨rfl, rfl⟩
        · rw [List.getElem?_set_ne e1] at e
          exact .inr ⟨List.mem_of_getElem? e, fun z => e1 (huniq i t (by rw [← z]; exact e)).symm⟩
      · rintro (⟨h1, h2⟩ | ⟨h1, h2⟩)
        · exact ⟨k, by rw [List.getElem?_set_self hlt, h1, h2]⟩
        · obtain ⟨i, e⟩ := List.mem_iff_getElem?.mp h1
          refine ⟨i, ?_⟩
          rw [List.getElem?_set_ne (fun z => h2 (by rw [← z, hk] at e; cases e; rfl))]
          exact e
    rw [hm, h.2 y t]
    obtain ⟨c, hc1, hc2⟩ := (h.2 a s).mp ha
    by_cases e : y = b
    · rw [if_pos e]
      constructor
      · rintro (⟨_, h2⟩ | ⟨⟨d, h1, _⟩, _⟩)
        · exact ⟨c, hc1, by rw [h2]; exact hc2⟩
        · rw [e, hb] at h1; cases h1
      · rintro ⟨d, h1, h2⟩
        rw [hc1] at h1
        cases h1
        exact .inl ⟨e, by omega⟩
    · rw [if_neg e]
      by_cases e2 : y = a
      · rw [if_pos e2]
        constructor
        · rintro (h1 | h1)
          · exact absurd h1.1 e
          · exact absurd e2 h1.2
        · rintro ⟨d, h1, _⟩; cases h1
      · rw [if_neg e2]
        exact ⟨fun h1 => (h1.resolve_left fun z => e z.1).1, fun h1 => .inr ⟨h1, e2⟩⟩
/-! of each size at most one shelf with nothing out -/
def Uq (bs : Bits) : Prop := ∀ p q, p ∈ unused bs → q ∈ unused bs → szAt bs p = szAt bs q → p = q
theorem out_zero {bs : Bits} {p : Nat} : outAt bs p = 0 ↔ ∀ k : Nat, (rowAt bs p)[k]? ≠ some true := by
  unfold outAt
  rw [List.count_eq_zero]
  exact ⟨fun h k e => h (List.mem_of_getElem? e), fun h hm => by obtain ⟨k, e⟩ := List.mem_iff_getElem?.mp hm; exact h k e⟩
theorem uq_sub {bs bs' : Bits} (h : Uq bs) (hs : ∀ q ∈ unused bs', q ∈ unused bs ∧ szAt bs' q = szAt bs q) : Uq bs' := fun p q hp hq e => by
  obtain ⟨a1, a2⟩ := hs p hp
  obtain ⟨b1, b2⟩ := hs q hq
  exact h p q a1 b1 (by rw [← a2, ← b2]; exact e)
theorem uq_drop {bs : Bits} {ps : List Nat} (h : Uq bs) : Uq (dropPages bs ps) := uq_sub h fun q hq => by
  obtain ⟨h1, h2⟩ := mem_unused.mp hq
  obtain ⟨h3, h4⟩ := drops_sh.mp h1
  obtain ⟨h5, h6⟩ := drops_at (bs := bs) h3
  unfold outAt at h2
  rw [h6] at h2
  exact ⟨mem_unused.mpr ⟨h4, h2⟩, h5⟩
theorem uq_take {n : Int} {bs bs' : Bits} {s : Int} {p : Nat} (h : Uq bs) (hp : false ∈ rowAt bs' p) (f : ForSize n bs s p bs') : Uq (takeAt bs' p) := by
  have hsp := sh_row hp
  have hi := idx_false hp
  have key : ∀ q ∈ unused (takeAt bs' p), q ≠ p ∧ q ∈ unused bs' ∧ szAt (takeAt bs' p) q = szAt bs' q := fun q hq => by
    obtain ⟨h1, h2⟩ := mem_unused.mp hq
    rw [isSh_take hsp] at h1
    rw [out_zero] at h2
    have hqp : q ≠ p := fun z => by
      subst z
      have := h2 ((rowAt bs' q).idxOf false)
      rw [rowAt_take hsp, if_pos rfl] at this
      exact this ((set_true hi).mpr (.inl rfl))
    refine ⟨hqp, mem_unused.mpr ⟨h1, out_zero.mpr fun k => ?_⟩, szAt_take hsp⟩
    have := h2 k
    rw [rowAt_take hsp, if_neg hqp] at this
    exact this
  rcases f with ⟨_, rfl⟩ | ⟨_, f2, rfl⟩
  · exact uq_sub h fun q hq => (key q hq).2
  · have hlt := (pageFor_at f2).1
    refine uq_sub h fun q hq => ?_
    obtain ⟨h1, h2, h3⟩ := key q hq
    obtain ⟨h4, h5⟩ := mem_unused.mp h2
    unfold newShelf at h4 h5 h3
    rw [isSh_set hlt, if_neg h1] at h4
    unfold outAt at h5
    rw [rowAt_set hlt, if_neg h1] at h5
    rw [szAt_set hlt, if_neg h1] at h3
    exact ⟨mem_unused.mpr ⟨h4, h5⟩, h3⟩
theorem uq_give {bs : Bits} {p k : Nat} (h : Uq bs) (hk : (rowAt bs p)[k]? = some true) : Uq (giveSt bs p k) := by
  have hsp := sh_at hk
  have hlt := sh_lt hsp
  have key : ∀ q ∈ unused (giveAt bs p k), q ≠ p → q ∈ unused bs ∧ szAt (giveAt bs p k) q = szAt bs q := fun q hq hqp => by
    obtain ⟨h1, h2⟩ := mem_unused.mp hq
    unfold giveAt at h1 h2 ⊢
    unfold outAt at h2
    rw [isSh_set hlt, if_neg hqp] at h1
    rw [rowAt_set hlt, if_neg hqp] at h2
    rw [szAt_set hlt, if_neg hqp]
    exact ⟨mem_unused.mpr ⟨h1, h2⟩, rfl⟩
  unfold giveSt
  by_cases hc : outAt (giveAt bs p k) p = 0 ∧ 1 < ((unused (giveAt bs p k)).filter fun q => decide (szAt (giveAt bs p k) q = szAt (giveAt bs p k) p)).length
  · rw [if_pos hc]
    refine uq_sub h fun q hq => ?_
    obtain ⟨h1, h2⟩ := mem_unused.mp hq
    obtain ⟨h3, h4⟩ := isSh_drop.mp h1
    unfold outAt at h2
    rw [rowAt_drop h3] at h2
    rw [szAt_drop h3]
    exact key q (mem_unused.mpr ⟨h4, h2⟩) h3
  · rw [if_neg hc]
    by_cases h0 : outAt (giveAt bs p k) p = 0
    · have hsg : isSh (giveAt bs p k) p = true := by unfold giveAt; rw [isSh_set hlt, if_pos rfl]; rfl
      have hpu : p ∈ unused (giveAt bs p k) := mem_unused.mpr ⟨hsg, h0⟩
      have alone : ∀ q ∈ unused (giveAt bs p k), szAt (giveAt bs p k) q = szAt (giveAt bs p k) p → q = p := fun q hq e => Classical.byContradiction fun hqp => hc ⟨h0, by
        have hnd : ((unused (giveAt bs p k)).filter fun q => decide (szAt (giveAt bs p k) q = szAt (giveAt bs p k) p)).Nodup := ((pages_nd _).filter _).filter _
        have hsub : ∀ z ∈ [q, p], z ∈ (unused (giveAt bs p k)).filter fun q => decide (szAt (giveAt bs p k) q = szAt (giveAt bs p k) p) := fun z hz => by
          rcases List.mem_cons.mp hz with z1 | z1
          · rw [z1]; exact List.mem_filter.mpr ⟨hq, decide_eq_true e⟩
          · rw [List.mem_singleton.mp z1]; exact List.mem_filter.mpr ⟨hpu, decide_eq_true rfl⟩
        have := (show [q, p].Nodup from List.nodup_cons.mpr ⟨fun z => hqp (List.mem_singleton.mp z), List.pairwise_singleton _ _⟩).length_le_of_subset hsub
        have h2 : [q, p].length = 2 := rfl
        omega⟩
      intro a b ha hb e
      by_cases e1 : a = p
      · rw [e1] at e ⊢
        exact (alone b hb e.symm).symm
      · by_cases e2 : b = p
        · rw [e2] at e ⊢
          exact alone a ha e
        · obtain ⟨a1, a2⟩ := key a ha e1
          obtain ⟨b1, b2⟩ := key b hb e2
          exact h a b a1 b1 (by rw [← a2, ← b2]; exact e)
    · exact uq_sub h fun q hq => key q hq fun z => h0 (by have := (mem_unused.mp hq).2; rw [z] at this; exact this)
theorem uq_gath {m n s : Int} {zs : List Int} {bs : Bits} {hf : Held} {rk : List Nat} (h : Uq bs) (F : GathF m n zs bs hf s rk) : Uq (gath n bs hf s rk).1 := by
  refine uq_drop (uq_sub h fun q hq => ?_)
  obtain ⟨h1, h2⟩ := mem_unused.mp hq
  obtain ⟨e1, e2, _⟩ := F.fr.sh q
  rw [e1] at h1
  exact ⟨mem_unused.mpr ⟨h1, out_zero.mpr fun k hk => out_zero.mp h2 k (F.fr.mono q k hk)⟩, e2⟩
theorem ranked {bs : Bits} {s : Int} : ∃ rk, IsRank bs s rk := by
  let le : Nat → Nat → Bool := fun p q => decide (outAt bs q < outAt bs p ∨ (outAt bs p = outAt bs q ∧ p ≤ q))
  have hs : ((ofSize bs s).mergeSort le).Pairwise (fun a b => le a b = true) := List.pairwise_mergeSort (fun a b c h1 h2 => by
      have h1 := of_decide_eq_true h1
      have h2 := of_decide_eq_true h2
      exact decide_eq_true (by omega)) (fun a b => by
      by_cases h : outAt bs b < outAt bs a ∨ (outAt bs a = outAt bs b ∧ a ≤ b)
      · show (decide _ || decide _) = true
        rw [decide_eq_true h]; rfl
      · show (decide _ || decide _) = true
        rw [decide_eq_true (show outAt bs a < outAt bs b ∨ (outAt bs b = outAt bs a ∧ b ≤ a) by omega), Bool.or_true]) _
  have hp := List.mergeSort_perm (ofSize bs s) le
  refine ⟨_, hp, ?_⟩
  have hn : ((ofSize bs s).mergeSort le).Nodup := hp.nodup_iff.mpr ((pages_nd bs).filter _)
  refine (hs.and hn).imp fun {a b} ⟨h1, h2⟩ => ?_
  have h1 := of_decide_eq_true h1
  have h2 : a ≠ b := h2
  omega
/-! ### the law's world -/
structure W0 (A : Ad) (H : Hp) (r : Addr) (w : Addr → Ow) (pl : Addr) (m n : Int) (xs : List Int) (bs : Bits) (hf : Held) (lo : Addr) (out : List (Int × Int)) : Prop where
  rm : Rm A H r w pl m n xs bs hf
  tab : LamX.TabS H A.lamP A.lamQ
  lst : ∃ ys, H lo = some (.lst ys) ∧ Pairs w H ys out
  lw : w lo = .no
structure WS (A : Ad) (H : Hp) (r : Addr) (w : Addr → Ow) (pl : Addr) (m n : Int) (xs : List Int) (bs : Bits) (hf : Held) (lo : Addr) (out : List (Int × Int)) : Prop where
  w0 : W0 A H r w pl m n xs bs hf lo out
  ok : OutOk hf out
  uq : Uq bs
/-- what a deed leaves: all but the law's list and what the room owns -/
def LStp (lo : Addr) (w : Addr → Ow) (H : Hp) (w' : Addr → Ow) (H' : Hp) : Prop := ∀ b o, H b = some o → b ≠ lo → own (w b) = false → (∀ ps, o ≠ .tbl ps) → H' b = some o ∧ w' b = w b
theorem LStp.trans {lo : Addr} {w w' w2 : Addr → Ow} {H H' H2 : Hp} (a : LStp lo w H w' H') (b : LStp lo w' H' w2 H2) : LStp lo w H w2 H2 := fun c o h hn hw ht => by
  obtain ⟨e1, e2⟩ := a c o h hn hw ht
  obtain ⟨e3, e4⟩ := b c o e1 hn (by rw [e2]; exact hw) ht
  exact ⟨e3, e4.trans e2⟩
theorem LStp.refl {lo : Addr} {w : Addr → Ow} {H : Hp} : LStp lo w H w H := fun _ _ h _ _ _ => ⟨h, rfl⟩
theorem Stp.l {A : Ad} {lo : Addr} {w w' : Addr → Ow} {H H' : Hp} (s : Stp A w H w' H') : LStp lo w H w' H' := fun b o h _ hw ht => s.fr b o h hw ht
theorem LStp.upd {lo : Addr} {w : Addr → Ow} {H : Hp} {o : HO} : LStp lo w H w (upd H lo o) := fun b _ h hn _ _ => ⟨(upd_ne hn).trans h, rfl⟩
theorem LStp.same {lo : Addr} {w : Addr → Ow} {H H' : Hp} (s : Same H H') : LStp lo w H w H' := fun b o h _ _ _ => ⟨s b o h, rfl⟩
theorem tabs_upd {H : Hp} {P : Addr} {q : Str} (h : LamX.TabS H P q) {l : Addr} {ys : List V} {o : HO} (hl : H l = some (.lst ys)) : LamX.TabS (upd H l o) P q := by
  obtain ⟨ps, t1, t2, t3⟩ := h
  refine ⟨ps, (upd_ne (ne_of t1 hl nofun)).trans t1, t2, fun pos cv hcv => ?_⟩
  obtain ⟨c2, u1, u2⟩ := t3 pos cv hcv
  exact ⟨c2, u1, (upd_ne (ne_of u2 hl nofun)).trans u2⟩
theorem Rm.sm {A : Ad} {H H' : Hp} {r : Addr} {w : Addr → Ow} {pl : Addr} {m n : Int} {xs : List Int} {bs : Bits} {hf : Held} (h : Rm A H r w pl m n xs bs hf) (s : Same H H') : Rm A H' r w pl m n xs bs hf := by
  obtain ⟨C, R, c⟩ := h
  exact ⟨C, R.sm s, c⟩
theorem Rm.chg {A : Ad} {H : Hp} {r : Addr} {w : Addr → Ow} {pl : Addr} {m n : Int} {xs : List Int} {bs : Bits} {hf : Held} (h : Rm A H r w pl m n xs bs hf) {l : Addr} {o : HO} (hl : w l = .no) : Rm A (upd H l o) r w pl m n xs bs hf := by
  obtain ⟨C, R, c⟩ := h
  exact ⟨C, R.chg hl, c⟩
theorem Rm.free {A : Ad} {H : Hp} {r : Addr} {w : Addr → Ow} {pl : Addr} {m n : Int} {xs : List Int} {bs : Bits} {hf : Held} (h : Rm A H r w pl m n xs bs hf) {b : Addr} (e : H b = none) : w b = .no := by
  obtain ⟨C, R, c⟩ := h
  exact R.free e
theorem Rm.ok {A : Ad} {H : Hp} {r : Addr} {w : Addr → Ow} {pl : Addr} {m n : Int} {xs : List Int} {bs : Bits} {hf : Held} (h : Rm A H r w pl m n xs bs hf) : Ok m n xs bs ∧ Con n bs hf := by
  obtain ⟨C, R, c⟩ := h
  exact ⟨R.okk, c⟩
theorem Rm.ob {A : Ad} {H : Hp} {r : Addr} {w : Addr → Ow} {pl : Addr} {m n : Int} {xs : List Int} {bs : Bits} {hf : Held} (h : Rm A H r w pl m n xs bs hf) : ∃ dx ds dh, H r = some (.ins A.c_Room dx (roomF pl ds dh)) := by
  obtain ⟨C, R, c⟩ := h
  obtain ⟨dx, e, _⟩ := R.ob
  exact ⟨dx, _, _, e⟩
theorem Rm.pb {A : Ad} {H : Hp} {r : Addr} {w : Addr → Ow} {pl : Addr} {m n : Int} {xs : List Int} {bs : Bits} {hf : Held} (h : Rm A H r w pl m n xs bs hf) : 1 ≤ m ∧ m ≤ 40 ∧ 1 ≤ n ∧ n ≤ 60 ∧ okSizes (xs.map V.int) n = true := by
  obtain ⟨C, R, c⟩ := h
  exact R.pb
section
variable {A : Ad} {H H' : Hp} {r : Addr} {w w' : Addr → Ow} {pl : Addr} {m n : Int} {xs : List Int} {bs bs' : Bits} {hf hf' : Held} {lo : Addr} {out out' : List (Int × Int)}
theorem W0.sm (h : W0 A H r w pl m n xs bs hf lo out) (s : Same H H') : W0 A H' r w pl m n xs bs hf lo out := by
  obtain ⟨a, b, ⟨ys, c1, c2⟩, d⟩ := h
  exact ⟨a.sm s, b.ext s, ⟨ys, s _ _ c1, c2.stp (Stp.same (A := A) s)⟩, d⟩
theorem WS.sm (h : WS A H r w pl m n xs bs hf lo out) (s : Same H H') : WS A H' r w pl m n xs bs hf lo out := ⟨h.w0.sm s, h.ok, h.uq⟩
theorem W0.stp (h : W0 A H r w pl m n xs bs hf lo out) (s : Stp A w H w' H') (R : Rm A H' r w' pl m n xs bs' hf') : W0 A H' r w' pl m n xs bs' hf' lo out := by
  obtain ⟨a, b, ⟨ys, c1, c2⟩, d⟩ := h
  obtain ⟨e1, e2⟩ := s.at c1 (by rw [d]; rfl) (.inl rfl)
  exact ⟨R, s.tb b, ⟨ys, e1, c2.stp s⟩, e2.trans d⟩
theorem W0.put (h : W0 A H r w pl m n xs bs hf lo out) {ys' : List V} (hp : Pairs w H ys' out') : W0 A (upd H lo (.lst ys')) r w pl m n xs bs hf lo out' := by
  obtain ⟨a, b, ⟨ys, c1, c2⟩, d⟩ := h
  exact ⟨a.chg d, tabs_upd b c1, ⟨ys', upd_same, hp.upd c1⟩, d⟩
theorem out_len (R : Rm A H r w pl m n xs bs hf) (h : OutOk hf out) : out.length ≤ 2400 := by
  obtain ⟨C, R, _⟩ := R
  have hsub : ∀ x ∈ out.map (·.1), x ∈ (List.range 2400).map fun q : Nat => (q : Int) := fun x hx => by
    obtain ⟨c, e⟩ := h.fst hx
    have := R.hb x (by rw [e]; exact nofun)
    exact List.mem_map.mpr ⟨x.toNat, List.mem_range.mpr (by omega), by omega⟩
  have := h.1.length_le_of_subset hsub
  rw [List.length_map, List.length_map, List.length_range] at this
  exact this
end
/-! ### the promises of what the laws share -/
def sp_l_cell_at (A : Ad) : Sp := fun vs H Q _ => ∃ (a : Addr) (k : Int) (ns : List Int), vs = [.ref a, .int k] ∧ SqL A.K H a (ns.map V.int) ∧ 0 ≤ k ∧ Q (.int (cellAt ns k)) H
def sp_l_whole (A : Ad) : Sp := spPlain1
def sbStep (n span : Int) (s : List Int × Int × Int) : List Int × Int × Int :=
  let b := s.2.1 + 1 + s.2.2 % span
  (if b ≤ n then s.1 ++ [b] else s.1, b, s.2.2 / span)
def sbRun (n span r0 : Int) : Nat → List Int × Int × Int
  | 0 => ([], 0, r0)
  | k + 1 => sbStep n span (sbRun n span r0 k)
def sizesBy (c n m : Int) : List Int :=
  let r := (sbRun n (if c % 3 = 0 then n else 4) (c / 3) m.toNat).1
  if r = [] then [n] else r
def sp_l_sizes_by (A : Ad) : Sp := fun vs H Q _ => ∃ (c n m : Int), vs = [.int c, .int n, .int m] ∧ 1 ≤ n ∧ n ≤ 60 ∧ 0 ≤ m ∧ m ≤ 8 ∧
  ∀ p H', H p = none → Same H H' → H' p = some (.lst ((sizesBy c n m).map V.int)) → Q (.ref p) H'
def sp_l_plan_by (A : Ad) : Sp := fun vs H Q _ => ∃ (a : Addr) (ns : List Int), vs = [.ref a] ∧ SqL A.K H a (ns.map V.int) ∧
  ∀ (m n : Int) (xs : List Int), 1 ≤ m → m ≤ 40 → 1 ≤ n → n ≤ 60 → okSizes (xs.map V.int) n = true → ∀ H' t l, Same H H' → H t = none → H l = none → H' t = some (.tup [.int m, .int n, .ref l]) → H' l = some (.lst (xs.map V.int)) → Q (.ref t) H'
def sizeBy (xs : List Int) (i : Int) : Int := (xs.find? fun s => decide (i ≤ s)).getD 0
def sp_l_size_by (A : Ad) : Sp := fun vs H Q _ => ∃ (a : Addr) (xs : List Int) (i : Int), vs = [.ref a, .int i] ∧ SqL A.K H a (xs.map V.int) ∧ Q (.int (sizeBy xs i)) H
def sp_l_pairs (A : Ad) : Sp := fun vs H Q _ => ∃ (l : Addr) (w : Addr → Ow) (ys : List V) (ts : List (Int × Int)), vs = [.ref l] ∧ H l = some (.lst ys) ∧ Pairs w H ys ts ∧ Q (.bl true) H
def sp_l_gathered (A : Ad) : Sp := fun vs H Q _ => ∃ r lo w pl m n xs bs hf out s, vs = [.ref r, .int s, .ref lo] ∧ WS A H r w pl m n xs bs hf lo out ∧ s ∈ xs ∧
  ∀ H' w' bs' hf' out', LStp lo w H w' H' → WS A H' r w' pl m n xs bs' hf' lo out' → Q (.bl true) H'
theorem len_l_cell_at (A : Ad) {vs : List V} {H : Hp} {Q : VK} {E : XK} (h : sp_l_cell_at A vs H Q E) : vs.length = 2 := by
  obtain ⟨_, _, _, rfl, _⟩ := h; rfl
theorem len_l_whole (A : Ad) {vs : List V} {H : Hp} {Q : VK} {E : XK} (h : sp_l_whole A vs H Q E) : vs.length = 1 := by
  obtain ⟨_, rfl, _⟩ := h; rfl
theorem len_l_sizes_by (A : Ad) {vs : List V} {H : Hp} {Q : VK} {E : XK} (h : sp_l_sizes_by A vs H Q E) : vs.length = 3 := by
  obtain ⟨_, _, _, rfl, _⟩ := h; rfl
theorem len_l_plan_by (A : Ad) {vs : List V} {H : Hp} {Q : VK} {E : XK} (h : sp_l_plan_by A vs H Q E) : vs.length = 1 := by
  obtain ⟨_, _, rfl, _⟩ := h; rfl
theorem len_l_size_by (A : Ad) {vs : List V} {H : Hp} {Q : VK} {E : XK} (h : sp_l_size_by A vs H Q E) : vs.length = 2 := by
  obtain ⟨_, _, _, rfl, _⟩ := h; rfl
theorem len_l_pairs (A : Ad) {vs : List V} {H : Hp} {Q : VK} {E : XK} (h : sp_l_pairs A vs H Q E) : vs.length = 1 := by
  obtain ⟨_, _, _, _, rfl, _⟩ := h; rfl
theorem len_l_gathered (A : Ad) {vs : List V} {H : Hp} {Q : VK} {E : XK} (h : sp_l_gathered A vs H Q E) : vs.length = 3 := by
  obtain ⟨_, _, _, _, _, _, _, _, _, _, _, rfl, _⟩ := h; rfl

/-! ### the things of a page -/
theorem page_all {m n : Int} {xs : List Int} {bs : Bits} {hf : Held} {out : List (Int × Int)} (o : Ok m n xs bs) (c : Con n bs hf) (h : OutOk hf out) {p : Nat} {t : Int × Int} (ht : t ∈ out) (hp : t.1 / n = (p : Int)) : isSh bs p = true ∧ t.2 = szAt bs p ∧ ∃ k : Nat, (rowAt bs p)[k]? = some true ∧ t.1 = (p : Int) * n + (k : Int) * szAt bs p := by
  obtain ⟨q, k, h1, h2, h3⟩ := mem_things.mp ((c t.1 t.2).mp ((h.2 t.1 t.2).mp ht))
  have := (o.page (sh_at h1) (row_lt h1)).1
  rw [← h2, hp] at this
  have e : q = p := by omega
  subst e
  exact ⟨sh_at h1, h3, k, h1, h2⟩
theorem page_len {m n : Int} {xs : List Int} {bs : Bits} {hf : Held} {out : List (Int × Int)} (o : Ok m n xs bs) (c : Con n bs hf) (h : OutOk hf out) (p : Nat) : (out.filter fun t => decide (t.1 / n = (p : Int))).length = outAt bs p := by
  have hnd : out.Nodup := List.Pairwise.imp (fun {a b} q (e : a = b) => q (by rw [e])) (List.pairwise_map.mp h.1)
  by_cases hs : isSh bs p = true
  · have hp : (out.filter fun t => decide (t.1 / n = (p : Int))).Perm ((placesAt n bs p).map fun x => (x, szAt bs p)) := by
      refine (List.perm_ext_iff_of_nodup (hnd.filter _) ?_).mpr fun t => ?_
      · rw [List.Nodup, List.pairwise_map]
        exact (nodup_of_lt (places_up o hs)).imp fun q e => q (Prod.mk.inj e).1
      · rw [List.mem_filter, decide_eq_true_eq, List.mem_map]
        constructor
        · rintro ⟨h1, h2⟩
          obtain ⟨_, h3, k, h4, h5⟩ := page_all o c h h1 h2
          exact ⟨t.1, mem_placesAt.mpr ⟨k, h4, h5⟩, by rw [← h3]⟩
        · rintro ⟨x, hx, rfl⟩
          obtain ⟨k, h4, h5⟩ := mem_placesAt.mp hx
          refine ⟨(h.2 _ _).mpr ((c _ _).mpr (mem_things.mpr ⟨p, k, h4, h5, rfl⟩)), ?_⟩
          show x / n = _
          rw [h5]
          exact (o.page hs (row_lt h4)).1
    rw [hp.length_eq, List.length_map, placesAt_len]
  · have e : out.filter (fun t => decide (t.1 / n = (p : Int))) = [] := by
      rw [List.filter_eq_nil_iff]
      intro t ht hd
      exact hs (page_all o c h ht (of_decide_eq_true hd)).1
    rw [e]
    unfold outAt
    rw [row_none (sh_false hs)]
    rfl
theorem page_sizes {m n : Int} {xs : List Int} {bs : Bits} {hf : Held} {out : List (Int × Int)} (o : Ok m n xs bs) (c : Con n bs hf) (h : OutOk hf out) (p : Nat) : (out.filter fun t => decide (t.1 / n = (p : Int))).map (·.2) = List.replicate (outAt bs p) (szAt bs p) := by
  rw [List.eq_replicate_iff, List.length_map, page_len o c h p]
  refine ⟨rfl, fun b hb => ?_⟩
  obtain ⟨t, ht, rfl⟩ := List.mem_map.mp hb
  obtain ⟨h1, h2⟩ := List.mem_filter.mp ht
  exact (page_all o c h h1 (of_decide_eq_true h2)).2.1
theorem fm_sizes (n : Int) (p : Int) : ∀ out : List (Int × Int), out.filterMap (fun t => if t.1 / n = p then some (V.int t.2) else none) = ((out.filter fun t => decide (t.1 / n = p)).map (·.2)).map V.int
  | [] => rfl
  | t :: out => by
    rw [List.filterMap_cons, List.filter_cons]
    by_cases e : t.1 / n = p
    · rw [if_pos e, if_pos (decide_eq_true e), List.map_cons, List.map_cons, fm_sizes n p out]
    · rw [if_neg e, if_neg (by rw [decide_eq_false e]; exact Bool.false_ne_true), fm_sizes n p out]
theorem shelvesOf_at {bs : Bits} {i : Nat} {t : Int × Int × Int} (h : (shelvesOf bs)[i]? = some t) : ∃ p : Nat, (pagesOf bs)[i]? = some p ∧ t = ((p : Int), szAt bs p, ((outAt bs p : Nat) : Int)) := by
  unfold shelvesOf at h
  rw [List.getElem?_map] at h
  cases e : (pagesOf bs)[i]? with
  | none => rw [e] at h; cases h
  | some p => rw [e] at h; exact ⟨p, rfl, (Option.some.inj h).symm⟩
theorem pages_perm (bs : Bits) : (pagesOf bs ++ pileOf bs).Perm (List.range bs.length) := List.filter_append_perm _ _

/-! ### how many wishes would be met: a sum over the pages -/
def capAt (n : Int) (bs : Bits) (s : Int) (p : Nat) : Nat := if isSh bs p = true then (if szAt bs p = s then (rowAt bs p).count false else if outAt bs p = 0 then (n / s).toNat else 0) else (n / s).toNat
def capSum (n : Int) (bs : Bits) (s : Int) : Nat := ((List.range bs.length).map (capAt n bs s)).sum
theorem cap_list {n : Int} {bs : Bits} {s : Int} (h : 0 ≤ n / s) : ∀ l : List Nat, ((((l.filter fun p => isSh bs p).filter fun p => decide (szAt bs p = s)).map fun p => (((rowAt bs p).count false : Nat) : Int)).sum + (((l.filter fun p => !isSh bs p).length : Int) + ((((l.filter fun p => isSh bs p).filter fun p => decide (outAt bs p = 0)).filter fun p => decide (szAt bs p ≠ s)).length : Int)) * (n / s)) = (((l.map (capAt n bs s)).sum : Nat) : Int)
  | [] => by simp
  | p :: l => by
    have ih := cap_list (bs := bs) (s := s) h l
    rw [List.map_cons, List.sum_cons, Int.natCast_add, ← ih]
    have hk : ((n / s).toNat : Int) = n / s := Int.toNat_of_nonneg h
    unfold capAt
    generalize (n / s).toNat = kt at hk ⊢
    generalize n / s = k at hk ⊢
    subst hk
    clear ih
    by_cases h1 : isSh bs p = true
    · by_cases h2 : szAt bs p = s
      · by_cases h3 : outAt bs p = 0
        · simp [h1, h2, h3]; omega
        · simp [h1, h2, h3]; omega
      · by_cases h3 : outAt bs p = 0
        · simp [h1, h2, h3, Int.add_mul]; omega
        · simp [h1, h2, h3]
    · simp [h1, Int.add_mul]; omega
theorem roomFor_cap {n : Int} {bs : Bits} {s : Int} (h : 0 ≤ n / s) : roomFor n bs s = ((capSum n bs s : Nat) : Int) := cap_list h _
theorem sum_one {f g : Nat → Nat} {p : Nat} (hq : ∀ q, q ≠ p → f q = g q) (hp : f p + 1 = g p) : ∀ {l : List Nat}, l.Nodup → p ∈ l → (l.map f).sum + 1 = (l.map g).sum
  | [], _, h => nomatch h
  | q :: l, hn, h => by
    obtain ⟨h1, h2⟩ := List.nodup_cons.mp hn
    rw [List.map_cons, List.map_cons, List.sum_cons, List.sum_cons]
    by_cases e : q = p
    · have : l.map f = l.map g := List.map_congr_left fun x hx => hq x fun z => h1 (by rw [e, ← z]; exact hx)
      rw [this, e]
      omega
    · have ih := sum_one hq hp h2 ((List.mem_cons.mp h).resolve_left fun z => e z.symm)
      rw [hq q e]
      omega
theorem count_all (k : Nat) : (List.replicate k false).count false = k := by rw [List.count_replicate_self]
theorem cap_zero {n : Int} {bs : Bits} {s : Int} {p : Nat} (h : capSum n bs s = 0) (hp : p < bs.length) : capAt n bs s p = 0 := by
  unfold capSum at h
  have hm : capAt n bs s p ∈ (List.range bs.length).map (capAt n bs s) := List.mem_map_of_mem (List.mem_range.mpr hp)
  have := List.sum_eq_zero_iff_forall_eq_nat.mp h
  exact this _ hm
theorem cap_none {m n s : Int} {xs : List Int} {bs : Bits} (o : Ok m n xs bs) (hs : s ∈ xs) (h : capSum n bs s = 0) : cands bs s = [] ∧ pageFor bs = none := by
  obtain ⟨h1, h2⟩ := o.sz s hs
  have hper := slots_pos h1 h2
  refine ⟨List.eq_nil_iff_forall_not_mem.mpr fun p hp => ?_, ?_⟩
  · obtain ⟨a, b, c⟩ := mem_cands.mp hp
    have := cap_zero h (sh_lt a)
    unfold capAt at this
    rw [if_pos a, if_pos b] at this
    exact List.count_eq_zero.mp this c
  · cases e : pageFor bs with
    | none => rfl
    | some p =>
      exfalso
      obtain ⟨a, b⟩ := pageFor_at e
      have := cap_zero h a
      unfold capAt at this
      by_cases c : isSh bs p = true
      · rw [if_pos c, if_pos b] at this
        by_cases d : szAt bs p = s
        · rw [if_pos d] at this
          have h3 := two_counts (rowAt bs p)
          have h4 := (o.wf.ok p c).2
          rw [d] at h4
          unfold outAt at b
          omega
        · rw [if_neg d] at this
          omega
      · rw [if_neg c] at this
        omega
theorem cap_some {m n s : Int} {xs : List Int} {bs : Bits} (o : Ok m n xs bs) (h1 : cands bs s = []) (h2 : pageFor bs = none) : capSum n bs s = 0 := by
  unfold capSum
  rw [List.sum_eq_zero_iff_forall_eq_nat]
  intro x hx
  obtain ⟨p, hp, rfl⟩ := List.mem_map.mp hx
  have hlt := List.mem_range.mp hp
  unfold pageFor at h2
  have e1 : pileOf bs = [] := by
    cases e : pileOf bs with
    | nil => rfl
    | cons a b => rw [e] at h2; cases h2
  rw [e1] at h2
  have e2 : unused bs = [] := by
    cases e : unused bs with
    | nil => rfl
    | cons a b => rw [e] at h2; cases h2
  have hsp : isSh bs p = true := by
    cases e : isSh bs p with
    | true => rfl
    | false =>
      have := mem_pile.mpr ⟨hlt, e⟩
      rw [e1] at this
      cases this
  have hout : outAt bs p ≠ 0 := fun e => by
    have := mem_unused.mpr ⟨hsp, e⟩
    rw [e2] at this
    cases this
  unfold capAt
  rw [if_pos hsp]
  by_cases d : szAt bs p = s
  · rw [if_pos d]
    refine List.count_eq_zero.mpr fun hm => ?_
    have := mem_cands.mpr ⟨hsp, d, hm⟩
    rw [h1] at this
    cases this
  · rw [if_neg d, if_neg hout]
/-- a wish takes one -/
theorem cap_take {m n s : Int} {xs : List Int} {bs bs' : Bits} {p : Nat} (o : Ok m n xs bs) (hs : s ∈ xs) (f : ForSize n bs s p bs') : capSum n (takeAt bs' p) s + 1 = capSum n bs s := by
  obtain ⟨h1, h2⟩ := o.sz s hs
  obtain ⟨o2, hf, hz⟩ := f.room o hs
  have hsp := sh_row hf
  have hlt := sh_lt hsp
  have hcf := count_false_set (idx_false hf)
  have hlen : bs'.length = bs.length := by
    rcases f with ⟨_, rfl⟩ | ⟨_, _, rfl⟩
    · rfl
    · unfold newShelf; rw [List.length_set]
  have hl2 : (takeAt bs' p).length = bs.length := by unfold takeAt; rw [List.length_set]; exact hlen
  unfold capSum
  rw [hl2]
  refine sum_one (p := p) (fun q hq => ?_) ?_ List.nodup_range (List.mem_range.mpr (by rw [← hlen]; exact hlt))
  · have e1 : capAt n (takeAt bs' p) s q = capAt n bs' s q := by
      unfold capAt outAt
      rw [isSh_take hsp, szAt_take hsp, rowAt_take hsp, if_neg hq]
    rw [e1]
    rcases f with ⟨_, rfl⟩ | ⟨_, f2, rfl⟩
    · rfl
    · have hp := (pageFor_at f2).1
      unfold capAt outAt newShelf
      rw [isSh_set hp, szAt_set hp, rowAt_set hp, if_neg hq, if_neg hq, if_neg hq]
  · have e1 : capAt n (takeAt bs' p) s p = ((rowAt bs' p).set ((rowAt bs' p).idxOf false) true).count false := by
      unfold capAt
      rw [isSh_take hsp, szAt_take hsp, rowAt_take hsp, if_pos hsp, if_pos hz, if_pos rfl]
    rw [e1, hcf]
    rcases f with ⟨_, rfl⟩ | ⟨f1, f2, rfl⟩
    · unfold capAt
      rw [if_pos hsp, if_pos hz]
    · obtain ⟨hp, h0⟩ := pageFor_at f2
      have e2 : (rowAt (newShelf n bs p s) p).count false = (n / s).toNat := by
        unfold newShelf
        rw [rowAt_set hp, if_pos rfl, count_all]
      rw [e2]
      unfold capAt
      by_cases c : isSh bs p = true
      · rw [if_pos c]
        by_cases d : szAt bs p = s
        · exfalso
          have hper := slots_pos h1 h2
          have h3 := two_counts (rowAt bs p)
          have h4 := (o.wf.ok p c).2
          rw [d] at h4
          unfold outAt at h0
          have : false ∈ rowAt bs p := List.count_pos_iff.mp (by omega)
          have := mem_cands.mpr ⟨c, d, this⟩
          rw [f1] at this
          cases this
        · rw [if_neg d, if_pos h0]
      · rw [if_neg c]
/-- what is given back where no room was is room for one -/
theorem cap_give {m n s : Int} {xs : List Int} {bs : Bits} {p k : Nat} (o : Ok m n xs bs) (hk : (rowAt bs p)[k]? = some true) (hz : szAt bs p = s) (h0 : capSum n bs s = 0) : capSum n (giveSt bs p k) s = 1 := by
  have hsp := sh_at hk
  have hlt := sh_lt hsp
  have hs : s ∈ xs := by rw [← hz]; exact (o.wf.ok p hsp).1
  obtain ⟨h1, h2⟩ := o.sz s hs
  have hper := slots_pos h1 h2
  have hl2 : (giveAt bs p k).length = bs.length := by unfold giveAt; rw [List.length_set]
  have hsame : ∀ q, q ≠ p → isSh (giveAt bs p k) q = isSh bs q ∧ szAt (giveAt bs p k) q = szAt bs q ∧ rowAt (giveAt bs p k) q = rowAt bs q := fun q hq => by
    unfold giveAt
    rw [isSh_set hlt, szAt_set hlt, rowAt_set hlt, if_neg hq, if_neg hq, if_neg hq]
    exact ⟨rfl, rfl, rfl⟩
  have hsz : szAt (giveAt bs p k) p = s := by unfold giveAt; rw [szAt_set hlt, if_pos rfl, hz]
  have hsum : capSum n bs s + 1 = capSum n (giveAt bs p k) s := by
    unfold capSum
    rw [hl2]
    refine sum_one (p := p) (fun q hq => ?_) ?_ List.nodup_range (List.mem_range.mpr hlt)
    · obtain ⟨a, b, c⟩ := hsame q hq
      unfold capAt outAt
      rw [a, b, c]
    · have e1 : capAt n (giveAt bs p k) s p = ((rowAt bs p).set k false).count false := by
        unfold capAt
        have e : isSh (giveAt bs p k) p = true := by unfold giveAt; rw [isSh_set hlt, if_pos rfl]; rfl
        have e2 : rowAt (giveAt bs p k) p = (rowAt bs p).set k false := by unfold giveAt; rw [rowAt_set hlt, if_pos rfl]
        rw [if_pos e, if_pos hsz, e2]
      have e3 := count_false_set (set_false hk)
      rw [set_back hk] at e3
      rw [e1, ← e3]
      unfold capAt
      rw [if_pos hsp, if_pos hz]
  have hno : ¬ (outAt (giveAt bs p k) p = 0 ∧ 1 < ((unused (giveAt bs p k)).filter fun q => decide (szAt (giveAt bs p k) q = szAt (giveAt bs p k) p)).length) := fun ⟨_, hc⟩ => by
    have hnd : ((unused (giveAt bs p k)).filter fun q => decide (szAt (giveAt bs p k) q = szAt (giveAt bs p k) p)).Nodup := ((pages_nd _).filter _).filter _
    have : ∃ q, q ∈ ((unused (giveAt bs p k)).filter fun q => decide (szAt (giveAt bs p k) q = szAt (giveAt bs p k) p)) ∧ q ≠ p := Classical.byContradiction fun hn => by
      have hsub : ∀ q ∈ ((unused (giveAt bs p k)).filter fun q => decide (szAt (giveAt bs p k) q = szAt (giveAt bs p k) p)), q ∈ [p] := fun q hq => List.mem_singleton.mpr (Classical.byContradiction fun hqp => hn ⟨q, hq, hqp⟩)
      have := hnd.length_le_of_subset hsub
      rw [List.length_singleton] at this
      omega
    obtain ⟨q, hq, hqp⟩ := this
    obtain ⟨hq1, hq2⟩ := List.mem_filter.mp hq
    obtain ⟨a, b, c⟩ := hsame q hqp
    obtain ⟨d, e⟩ := mem_unused.mp hq1
    have hq2 := of_decide_eq_true hq2
    rw [hsz, b] at hq2
    rw [a] at d
    unfold outAt at e
    rw [c] at e
    have h3 := two_counts (rowAt bs q)
    have h4 := (o.wf.ok q d).2
    rw [hq2] at h4
    have h5 := cap_zero h0 (sh_lt d)
    unfold capAt at h5
    rw [if_pos d, if_pos hq2] at h5
    omega
  unfold giveSt
  rw [if_neg hno, ← hsum, h0]

/-! ### what a gathering does -/
theorem least_free {bs : Bits} {ri : List Nat} {g g' k : Nat} (hu : ri.Pairwise (· < ·)) (hf : ri.find? (fun p => decide (false ∈ rowAt bs p)) = some g) (hg : g' ∈ ri) (hk : (rowAt bs g')[k]? = some false) : g < g' ∨ (g = g' ∧ (rowAt bs g').idxOf false ≤ k) := by
  obtain ⟨h1, as, cs, e, h2⟩ := List.find?_eq_some_iff_append.mp hf
  rw [e] at hg hu
  rcases List.mem_append.mp hg with z | z
  · have := h2 g' z
    rw [decide_eq_true (List.mem_of_getElem? hk)] at this
    cases this
  · rcases List.mem_cons.mp z with z | z
    · right
      refine ⟨z.symm, ?_⟩
      refine Classical.byContradiction fun hlt => ?_
      rcases idx_first (c := false) (row := rowAt bs g') (m := k) (by omega) with q | q
      · rw [hk] at q; cases q
      · rw [hk] at q; cases q
    · left
      exact (List.pairwise_cons.mp (List.pairwise_append.mp hu).2.1).1 g' z
theorem fill_cons {n : Int} {ri : List Nat} {bs : Bits} {g : Nat} (e : ri.find? (fun p => decide (false ∈ rowAt bs p)) = some g) (x : Int) (xs : List Int) (hf : Held) : fill n ri (x :: xs) bs hf = ((fill n ri xs (takeAt bs g) (mvH hf x ((g : Int) * n + (((rowAt bs g).idxOf false : Nat) : Int) * szAt bs g))).1, (fill n ri xs (takeAt bs g) (mvH hf x ((g : Int) * n + (((rowAt bs g).idxOf false : Nat) : Int) * szAt bs g))).2.1, (x, (g : Int) * n + (((rowAt bs g).idxOf false : Nat) : Int) * szAt bs g) :: (fill n ri xs (takeAt bs g) (mvH hf x ((g : Int) * n + (((rowAt bs g).idxOf false : Nat) : Int) * szAt bs g))).2.2) := by
  show (match ri.find? (fun p => decide (false ∈ rowAt bs p)) with | none => _ | some g => _) = _
  rw [e]
theorem fill_stuck {n : Int} {ri : List Nat} {bs : Bits} (e : ri.find? (fun p => decide (false ∈ rowAt bs p)) = none) (x : Int) (xs : List Int) (hf : Held) : fill n ri (x :: xs) bs hf = (bs, hf, []) := by
  show (match ri.find? (fun p => decide (false ∈ rowAt bs p)) with | none => _ | some g => _) = _
  rw [e]
/-- each move goes to a slot that was free -/
theorem fill_goal {n : Int} {ri : List Nat} : ∀ (xs : List Int) (bs : Bits) (hf : Held), ∀ t ∈ (fill n ri xs bs hf).2.2, ∃ g ∈ ri, ∃ k : Nat, (rowAt bs g)[k]? = some false ∧ t.2 = (g : Int) * n + (k : Int) * szAt bs g
  | [], _, _, t, h => nomatch h
  | x :: xs, bs, hf, t, h => by
    cases e : ri.find? (fun p => decide (false ∈ rowAt bs p)) with
    | none => rw [fill_stuck e] at h; cases h
    | some g =>
      have hfg : false ∈ rowAt bs g := of_decide_eq_true (p := false ∈ rowAt bs g) (List.find?_some (p := fun p => decide (false ∈ rowAt bs p)) e)
      rw [fill_cons e] at h
      rcases List.mem_cons.mp h with z | z
      · exact ⟨g, List.mem_of_find?_eq_some e, _, idx_false hfg, by rw [z]⟩
      · obtain ⟨g', h1, k, h2, h3⟩ := fill_goal xs _ _ t z
        refine ⟨g', h1, k, ?_, by rw [h3, szAt_take (sh_row hfg)]⟩
        rw [rowAt_take (sh_row hfg)] at h2
        by_cases e2 : g' = g
        · rw [if_pos e2] at h2
          by_cases e3 : (rowAt bs g).idxOf false = k
          · rw [← e3, List.getElem?_set_self (row_lt (idx_false hfg))] at h2
            cases h2
          · rw [List.getElem?_set_ne e3] at h2
            rw [e2]; exact h2
        · rw [if_neg e2] at h2
          exact h2
/-- the moves go to rising places -/
theorem fill_up {m n : Int} {zs : List Int} {ri : List Nat} (hu : ri.Pairwise (· < ·)) : ∀ (xs : List Int) (bs : Bits) (hf : Held), Ok m n zs bs → (((fill n ri xs bs hf).2.2).map (·.2)).Pairwise (· < ·)
  | [], _, _, _ => List.Pairwise.nil
  | x :: xs, bs, hf, o => by
    cases e : ri.find? (fun p => decide (false ∈ rowAt bs p)) with
    | none => rw [fill_stuck e]; exact List.Pairwise.nil
    | some g =>
      have hfg : false ∈ rowAt bs g := of_decide_eq_true (p := false ∈ rowAt bs g) (List.find?_some (p := fun p => decide (false ∈ rowAt bs p)) e)
      have hsg := sh_row hfg
      have hi := idx_false hfg
      rw [fill_cons e, List.map_cons]
      refine List.Pairwise.cons (fun b hb => ?_) (fill_up hu xs _ _ (o.take hfg))
      obtain ⟨t, ht, rfl⟩ := List.mem_map.mp hb
      obtain ⟨g', h1, k, h2, h3⟩ := fill_goal xs _ _ t ht
      have hsg' : isSh bs g' = true := by rw [← isSh_take hsg]; exact sh_at h2
      show (g : Int) * n + (((rowAt bs g).idxOf false : Nat) : Int) * szAt bs g < t.2
      rw [h3, szAt_take hsg]
      rw [rowAt_take hsg] at h2
      by_cases e2 : g' = g
      · subst e2
        rw [if_pos rfl] at h2
        have hne : (rowAt bs g').idxOf false ≠ k := fun z => by
          rw [← z, List.getElem?_set_self (row_lt hi)] at h2
          cases h2
        rw [List.getElem?_set_ne hne] at h2
        rcases least_free hu e h1 h2 with z | ⟨_, z⟩
        · omega
        · have : (((rowAt bs g').idxOf false : Nat) : Int) < (k : Int) := by omega
          have := Int.mul_lt_mul_of_pos_right this (by have := o.size hsg; omega : 0 < szAt bs g')
          omega
      · rw [if_neg e2] at h2
        rcases least_free hu e h1 h2 with z | ⟨z, _⟩
        · obtain ⟨a1, a2⟩ := o.slot hsg (row_lt hi)
          obtain ⟨c1, c2⟩ := o.slot hsg' (row_lt h2)
          have := (o.size hsg).1
          have h5 : ((g : Int) + 1) * n ≤ (g' : Int) * n := Int.mul_le_mul_of_nonneg_right (by omega) (by have := o.n1; omega)
          rw [Int.add_mul, Int.one_mul] at h5
          omega
        · exact absurd z.symm e2
/-- filling adds as many as there are -/
theorem outSum_take_not {bs : Bits} {g : Nat} (hg : isSh bs g = true) : ∀ {ps : List Nat}, g ∉ ps → outSum (takeAt bs g) ps = outSum bs ps
  | [], _ => rfl
  | p :: ps, h => by
    rw [List.mem_cons, not_or] at h
    have ih := outSum_take_not hg (ps := ps) h.2
    unfold outSum outAt at ih ⊢
    rw [List.map_cons, List.map_cons, List.sum_cons, List.sum_cons, ih, rowAt_take hg, if_neg (fun z => h.1 z.symm)]
theorem count_true_set {row : List Bool} {i : Nat} (h : row[i]? = some false) : (row.set i true).count true = row.count true + 1 := by
  have h1 := count_false_set h
  have h2 := two_counts row
  have h3 := two_counts (row.set i true)
  rw [List.length_set] at h3
  omega
theorem outSum_take {bs : Bits} {g : Nat} (hg : false ∈ rowAt bs g) : ∀ {ps : List Nat}, ps.Nodup → g ∈ ps → outSum (takeAt bs g) ps = outSum bs ps + 1
  | [], _, h => nomatch h
  | p :: ps, hn, h => by
    obtain ⟨h1, h2⟩ := List.nodup_cons.mp hn
    by_cases e : p = g
    · subst e
      have ih := outSum_take_not (sh_row hg) h1
      have c := count_true_set (idx_false hg)
      unfold outSum outAt at ih ⊢
      rw [List.map_cons, List.map_cons, List.sum_cons, List.sum_cons, ih, rowAt_take (sh_row hg), if_pos rfl]
      omega
    · have ih := outSum_take hg h2 ((List.mem_cons.mp h).resolve_left fun z => e z.symm)
      unfold outSum outAt at ih ⊢
      rw [List.map_cons, List.map_cons, List.sum_cons, List.sum_cons, rowAt_take (sh_row hg), if_neg e]
      omega
theorem fill_sum {n : Int} {ri : List Nat} (hn : ri.Nodup) : ∀ (xs : List Int) (bs : Bits) (hf : Held), xs.length ≤ freeSum bs ri → outSum (fill n ri xs bs hf).1 ri = outSum bs ri + xs.length
  | [], _, _, _ => rfl
  | x :: xs, bs, hf, h => by
    obtain ⟨g, e, hg, hfg⟩ := find_free (bs := bs) (ps := ri) (by rw [List.length_cons] at h; omega)
    have fs := freeSum_take hfg hn hg
    rw [List.length_cons] at h ⊢
    rw [fill_cons e]
    show outSum (fill n ri xs (takeAt bs g) _).1 ri = _
    rw [fill_sum hn xs _ _ (by omega), outSum_take hfg hn hg]
    omega
/-- where a place's thing lies behind the moves -/
def behind (mv : List (Int × Int)) (x : Int) : Int := match mv.find? (fun t => decide (t.1 = x)) with
  | some t => t.2
  | none => x
theorem behind_nil (x : Int) : behind [] x = x := rfl
theorem behind_pos {t : Int × Int} {mv : List (Int × Int)} : behind (t :: mv) t.1 = t.2 := by
  unfold behind
  rw [List.find?_cons, decide_eq_true rfl]
theorem behind_neg {t : Int × Int} {mv : List (Int × Int)} {x : Int} (h : t.1 ≠ x) : behind (t :: mv) x = behind mv x := by
  unfold behind
  rw [List.find?_cons, decide_eq_false h]
theorem behind_out {mv : List (Int × Int)} {x : Int} (h : x ∉ mv.map (·.1)) : behind mv x = x := by
  unfold behind
  have : mv.find? (fun t => decide (t.1 = x)) = none := List.find?_eq_none.mpr fun t ht e => h (List.mem_map.mpr ⟨t, ht, of_decide_eq_true e⟩)
  rw [this]
/-- what a thing holds goes with it -/
theorem moves_held {s : Int} : ∀ (mv : List (Int × Int)) (hf hf' : Held), MovesOk s hf mv hf' → (mv.map (·.1)).Nodup → (∀ t ∈ mv, t.2 ∉ mv.map (·.1)) → ∀ x c, hf x = some c → hf' (behind mv x) = some c
  | [], hf, hf', h, _, _, x, c, hx => by
    have e : hf' = hf := h
    rw [e]; exact hx
  | t :: mv, hf, hf', ⟨⟨d, h1, h2⟩, h3, h4⟩, hn, hd, x, c, hx => by
    obtain ⟨n1, n2⟩ := List.nodup_cons.mp hn
    have hd2 : ∀ u ∈ mv, u.2 ∉ mv.map (·.1) := fun u hu z => hd u (List.mem_cons_of_mem _ hu) (List.mem_cons_of_mem _ z)
    have ih := moves_held mv (mvH hf t.1 t.2) hf' h4 n2 hd2
    by_cases e : t.1 = x
    · subst e
      rw [behind_pos]
      have := ih t.2 c (by unfold mvH; rw [if_pos rfl]; exact hx)
      rw [behind_out (fun z => hd t List.mem_cons_self (List.mem_cons_of_mem _ z))] at this
      exact this
    · rw [behind_neg e]
      refine ih x c ?_
      unfold mvH
      rw [if_neg (fun z => by rw [z, h3] at hx; cases hx), if_neg (fun z => e z.symm)]
      exact hx

theorem desc_unique : ∀ {l m : List Int}, l.Pairwise (fun a b => b ≤ a) → m.Pairwise (fun a b => b ≤ a) → m.Perm l → m = l
  | [], m, _, _, p => List.Perm.eq_nil p
  | x :: l, [], _, _, p => absurd p.length_eq (by simp)
  | x :: l, y :: m, h1, h2, p => by
    obtain ⟨a1, a2⟩ := List.pairwise_cons.mp h1
    obtain ⟨b1, b2⟩ := List.pairwise_cons.mp h2
    have e : y = x := by
      have q1 : y ∈ x :: l := p.mem_iff.mp List.mem_cons_self
      have q2 : x ∈ y :: m := p.mem_iff.mpr List.mem_cons_self
      rcases List.mem_cons.mp q1 with e | q1
      · exact e
      · rcases List.mem_cons.mp q2 with e | q2
        · exact e.symm
        · have := a1 y q1
          have := b1 x q2
          omega
    subst e
    rw [desc_unique a2 b2 (List.Perm.cons_inv p)]
/-- how many things of the size a page has -/
def cntAt (bs : Bits) (s : Int) (p : Nat) : Int := if isSh bs p = true ∧ szAt bs p = s then ((outAt bs p : Nat) : Int) else 0
theorem cnt_perm {bs : Bits} {s : Int} {rk : List Nat} (hr : IsRank bs s rk) : ((List.range bs.length).map (cntAt bs s)).Perm ((rk.map fun p => ((outAt bs p : Nat) : Int)) ++ List.replicate (bs.length - rk.length) 0) := by
  let P : Nat → Bool := fun p => decide (isSh bs p = true ∧ szAt bs p = s)
  have h1 : ((List.range bs.length).filter P ++ (List.range bs.length).filter fun p => !P p).Perm (List.range bs.length) := List.filter_append_perm _ _
  have e1 : (List.range bs.length).filter P = ofSize bs s := by
    unfold ofSize pagesOf
    rw [List.filter_filter]
    refine List.filter_congr fun p _ => ?_
    show decide _ = (decide _ && _)
    by_cases a : isSh bs p = true <;> by_cases b : szAt bs p = s <;> simp [a, b]
  rw [e1] at h1
  have hl : (ofSize bs s).length + ((List.range bs.length).filter fun p => !P p).length = bs.length := by
    have := h1.length_eq
    rw [List.length_append, List.length_range] at this
    exact this
  have e2 : ((List.range bs.length).filter fun p => !P p).map (cntAt bs s) = List.replicate (bs.length - rk.length) 0 := by
    rw [List.eq_replicate_iff, List.length_map]
    refine ⟨by have := hr.1.length_eq; omega, fun b hb => ?_⟩
    obtain ⟨p, hp, rfl⟩ := List.mem_map.mp hb
    have h3 := (List.mem_filter.mp hp).2
    unfold cntAt
    rw [if_neg]
    intro z
    have : P p = true := decide_eq_true z
    rw [this] at h3
    cases h3
  refine ((h1.map (cntAt bs s)).symm).trans ?_
  rw [List.map_append, e2]
  refine List.Perm.append_right _ ?_
  have e3 : (ofSize bs s).map (cntAt bs s) = (ofSize bs s).map fun p => ((outAt bs p : Nat) : Int) := List.map_congr_left fun p hp => if_pos (mem_ofSize.mp hp)
  rw [e3]
  exact (hr.1.map _).symm
theorem rank_desc {bs : Bits} {s : Int} {rk : List Nat} (hr : IsRank bs s rk) (k : Nat) : ((rk.map fun p => ((outAt bs p : Nat) : Int)) ++ List.replicate k 0).Pairwise (fun a b => b ≤ a) := by
  rw [List.pairwise_append]
  refine ⟨?_, ?_, fun a ha b hb => ?_⟩
  · rw [List.pairwise_map]
    exact hr.2.imp fun h => by omega
  · rw [List.pairwise_replicate]
    right
    exact Int.le_refl _
  · obtain ⟨p, _, rfl⟩ := List.mem_map.mp ha
    rw [(List.mem_replicate.mp hb).2]
    omega
theorem isum_map (l : List Nat) (f : Nat → Nat) : (l.map fun p => ((f p : Nat) : Int)).sum = (((l.map f).sum : Nat) : Int) := by
  induction l with
  | nil => rfl
  | cons p l ih => rw [List.map_cons, List.sum_cons, List.map_cons, List.sum_cons, ih]; omega
theorem sum_zeros (k : Nat) : (List.replicate k (0 : Int)).sum = 0 := by
  induction k with
  | zero => rfl
  | succ k ih => rw [List.replicate_succ, List.sum_cons, ih]; rfl
/-- the counts' sum, and that of the greatest -/
theorem cnt_sum {bs : Bits} {s : Int} {rk : List Nat} (hr : IsRank bs s rk) : ((List.range bs.length).map (cntAt bs s)).sum = ((outSum bs rk : Nat) : Int) := by
  have h : ∀ {a b : List Int}, a.Perm b → a.sum = b.sum := fun p => by
    induction p with
    | nil => rfl
    | cons x _ ih => rw [List.sum_cons, List.sum_cons, ih]
    | swap x y l => rw [List.sum_cons, List.sum_cons, List.sum_cons, List.sum_cons]; omega
    | trans _ _ h1 h2 => rw [h1, h2]
  rw [h (cnt_perm hr), List.sum_append, sum_zeros, Int.add_zero, isum_map]
  rfl
theorem cnt_top {bs : Bits} {s : Int} {rk : List Nat} {ns : List Int} {k : Nat} (hr : IsRank bs s rk) (hk : k ≤ rk.length) (hp : ns.Perm ((List.range bs.length).map (cntAt bs s))) (hd : ns.Pairwise (fun a b => b ≤ a)) : (ns.take k).sum = ((outSum bs (rk.take k) : Nat) : Int) := by
  rw [desc_unique (rank_desc hr _) hd (hp.trans (cnt_perm hr)), List.take_append_of_le_length (by rw [List.length_map]; exact hk), ← List.map_take, isum_map]
  rfl
section
variable {m n s : Int} {zs : List Int} {bs : Bits} {hf : Held} {rk : List Nat}
/-- a page that things go to has some -/
theorem goal_some (hr : IsRank bs s rk) {k : Nat} {g : Nat} (hg : g ∈ rk.take k) (hne : placesOn n bs (rk.drop k) ≠ []) : outAt bs g ≠ 0 := by
  obtain ⟨x, hx⟩ := List.exists_mem_of_ne_nil _ hne
  unfold placesOn at hx
  obtain ⟨p, hp, hx⟩ := List.mem_flatMap.mp hx
  obtain ⟨j, h1, _⟩ := mem_placesAt.mp hx
  have h2 : outAt bs p ≠ 0 := fun e => no_true e j h1
  have h3 := (mem_rise.mp hp).2
  have h4 := hr.2
  rw [← List.take_append_drop k rk, List.pairwise_append] at h4
  have := h4.2.2 g hg p h3
  omega
theorem gath_size (o : Ok m n zs bs) (c : Con n bs hf) (hs : s ∈ zs) (hr : IsRank bs s rk) : (ofSize (gath n bs hf s rk).1 s).Perm (rk.take (needed n bs s)) := by
  have F := gath_facts o c hs hr
  have hsplit : rk.take (needed n bs s) ++ rk.drop (needed n bs s) = rk := List.take_append_drop _ _
  refine (List.perm_ext_iff_of_nodup ((pages_nd _).filter _) (F.nd.sublist (List.take_sublist _ _))).mpr fun p => ?_
  show p ∈ ofSize (dropPages (fill n _ _ bs hf).1 _) s ↔ _
  rw [mem_ofSize, drops_sh, (F.fr.sh p).1]
  have hdis : p ∈ rk.take (needed n bs s) → p ∉ rk.drop (needed n bs s) := fun h1 h2 => by
    have := F.nd
    rw [← hsplit, List.nodup_append] at this
    exact this.2.2 p h1 p h2 rfl
  constructor
  · rintro ⟨⟨h1, h2⟩, h3⟩
    rw [(drops_at h1).1, (F.fr.sh p).2.1] at h3
    have h4 : p ∈ rk := hr.1.mem_iff.mpr (mem_ofSize.mpr ⟨h2, h3⟩)
    rw [← hsplit, List.mem_append] at h4
    exact h4.resolve_right h1
  · intro h1
    have h2 := hdis h1
    obtain ⟨h3, h4⟩ := F.shs p (List.mem_of_mem_take h1)
    exact ⟨⟨h2, h3⟩, by rw [(drops_at h2).1, (F.fr.sh p).2.1]; exact h4⟩
theorem outSum_congr {a b : Bits} : ∀ {ps : List Nat}, (∀ p ∈ ps, rowAt a p = rowAt b p) → outSum a ps = outSum b ps := fun {ps} h => by
  unfold outSum outAt
  congr 1
  exact List.map_congr_left fun p hp => by rw [h p hp]
theorem gath_places (o : Ok m n zs bs) (c : Con n bs hf) (hs : s ∈ zs) (hr : IsRank bs s rk) : (placesOn n bs (rk.drop (needed n bs s))).length = outSum bs (rk.drop (needed n bs s)) := by
  have F := gath_facts o c hs hr
  unfold placesOn
  rw [flat_len, outSum_perm (rise_perm (F.nd.sublist (List.drop_sublist _ _)) fun p hp => (F.shs p (List.mem_of_mem_drop hp)).1)]
theorem gath_needed (o : Ok m n zs bs) (c : Con n bs hf) (hs : s ∈ zs) (hr : IsRank bs s rk) : needed n (gath n bs hf s rk).1 s = needed n bs s := by
  have F := gath_facts o c hs hr
  have hsplit : rk.take (needed n bs s) ++ rk.drop (needed n bs s) = rk := List.take_append_drop _ _
  have e1 := outSum_perm (bs := (gath n bs hf s rk).1) (gath_size o c hs hr)
  have hdis : ∀ p ∈ rk.take (needed n bs s), p ∉ rk.drop (needed n bs s) := fun p h1 h2 => by
    have := F.nd
    rw [← hsplit, List.nodup_append] at this
    exact this.2.2 p h1 p h2 rfl
  have e2 : outSum (gath n bs hf s rk).1 (rk.take (needed n bs s)) = outSum (fill n (rise bs (rk.take (needed n bs s))) (placesOn n bs (rk.drop (needed n bs s))) bs hf).1 (rk.take (needed n bs s)) := outSum_congr fun p hp => (drops_at (hdis p hp)).2
  have e3 := fill_sum (n := n) (nd_lt (rise_up bs (rk.take (needed n bs s)))) (placesOn n bs (rk.drop (needed n bs s))) bs hf F.pl
  rw [outSum_perm F.st, outSum_perm F.st, gath_places o c hs hr] at e3
  have e4 := outSum_append bs (rk.take (needed n bs s)) (rk.drop (needed n bs s))
  rw [hsplit, outSum_perm hr.1] at e4
  have e5 : outSum (gath n bs hf s rk).1 (ofSize (gath n bs hf s rk).1 s) = outSum bs (ofSize bs s) := by omega
  show ((((outSum (gath n bs hf s rk).1 (ofSize (gath n bs hf s rk).1 s) : Nat) : Int) + n / s - 1) / (n / s)).toNat = _
  rw [e5]
  rfl
/-- gathered once more, nothing moves -/
theorem gath_twice (o : Ok m n zs bs) (c : Con n bs hf) (hs : s ∈ zs) (hr : IsRank bs s rk) {rk2 : List Nat} (hr2 : IsRank (gath n bs hf s rk).1 s rk2) : gath n (gath n bs hf s rk).1 (gath n bs hf s rk).2.1 s rk2 = ((gath n bs hf s rk).1, (gath n bs hf s rk).2.1, []) := by
  have F := gath_facts o c hs hr
  have e1 := gath_needed o c hs hr
  have e2 : rk2.length = needed n bs s := by
    rw [hr2.1.length_eq, (gath_size o c hs hr).length_eq, List.length_take, Nat.min_eq_left F.k]
  generalize (gath n bs hf s rk).1 = b at e1 hr2 ⊢
  generalize (gath n bs hf s rk).2.1 = h
  have e3 : rk2.drop (needed n b s) = [] := by rw [e1, ← e2, List.drop_length]
  have e4 : placesOn n b (rk2.drop (needed n b s)) = [] := by
    rw [e3]
    unfold placesOn rise
    rw [List.filter_eq_nil_iff.mpr (fun p _ => by simp)]
    rfl
  show (dropPages (fill n _ (placesOn n b (rk2.drop (needed n b s))) b h).1 (rk2.drop (needed n b s)), (fill n _ (placesOn n b (rk2.drop (needed n b s))) b h).2.1, (fill n _ (placesOn n b (rk2.drop (needed n b s))) b h).2.2) = _
  rw [e4, e3]
  rfl
end

/-! ### a law's own keeping of pages -/
structure MD (H : Hp) (w : Addr → Ow) (ld : Addr) (ra ba : Nat → Addr) (bs : Bits) : Prop where
  dc : ∃ kv, H ld = some (.dK kv) ∧ (kv.map (·.1)).Nodup ∧ (∀ k ∈ kv.map (·.1), ∃ p : Nat, k = Sum.inl (p : Int) ∧ isSh bs p = true) ∧ ∀ p : Nat, isSh bs p = true → valV kv (.inl (p : Int)) = some (.ref (ra p))
  wd : w ld = .no
  rw : ∀ p, isSh bs p = true → H (ra p) = some (.lst [.int (szAt bs p), .ref (ba p)]) ∧ w (ra p) = .no ∧ H (ba p) = some (.lst ((rowAt bs p).map V.bl)) ∧ w (ba p) = .no
  inj : ∀ p q, isSh bs p = true → isSh bs q = true → ba p = ba q → p = q
def OnM (ld : Addr) (ra ba : Nat → Addr) (bs : Bits) (b : Addr) : Prop := b = ld ∨ ∃ p, isSh bs p = true ∧ (b = ra p ∨ b = ba p)
/-- what is not of the law's keeping stays -/
def MS (S : Addr → Prop) (H : Hp) (S' : Addr → Prop) (H' : Hp) : Prop := ∀ b o, H b = some o → ¬ S b → H' b = some o ∧ ¬ S' b
def SStp (S : Addr → Prop) (w : Addr → Ow) (H : Hp) (S' : Addr → Prop) (w' : Addr → Ow) (H' : Hp) : Prop := ∀ b o, H b = some o → own (w b) = false → ¬ S b → (∀ ps, o ≠ .tbl ps) → H' b = some o ∧ w' b = w b ∧ ¬ S' b
def w0 : Addr → Ow := fun _ => .no
structure MW (A : Ad) (H : Hp) (r : Addr) (w : Addr → Ow) (pl : Addr) (m n : Int) (xs : List Int) (bs : Bits) (hf : Held) (ld : Addr) (ra ba : Nat → Addr) : Prop where
  rm : Rm A H r w pl m n xs bs hf
  tab : LamX.TabS H A.lamP A.lamQ
  md : MD H w ld ra ba bs
def Free (S : Addr → Prop) (w : Addr → Ow) (b : Addr) : Prop := own (w b) = false ∧ ¬ S b
/-- a told list and what it is as data -/
def Told (H : Hp) (f : Addr) (d : List PyData) : Prop := (∃ ys ts, H f = some (.lst ys) ∧ Pairs w0 H ys ts ∧ d = ts.map pd2) ∨ (∃ ys ts, H f = some (.lst ys) ∧ Trip w0 H ys ts ∧ d = ts.map pd3) ∨ ∃ ns : List Int, H f = some (.lst (ns.map V.int)) ∧ d = ns.map PyData.int
/-- a pair of a told list and its copy -/
def Entry (Fr : Addr → Prop) (H : Hp) (v : V) : Prop := ∃ e f c d, v = .ref e ∧ H e = some (.tup [.ref f, .ref c]) ∧ Told H f d ∧ Told H c d ∧ Fr f ∧ Fr c
def OnS (lk ld : Addr) (ra ba : Nat → Addr) (bs : Bits) (b : Addr) : Prop := OnM ld ra ba bs b ∨ b = lk
/-- no thing of the others' -/
def NF (S : Addr → Prop) (w : Addr → Ow) (H : Hp) (f : Addr) : Prop := ∀ o, H f = some o → plainO o = true → own (w f) = false → ¬ S f → False
def sp_l_fullest (A : Ad) : Sp := fun vs H Q _ => ∃ ld w ra ba bs s, vs = [.ref ld, .int s] ∧ MD H w ld ra ba bs ∧ bs.length ≤ 40 ∧ (cands bs s = [] → ∀ H', Same H H' → Q (.int (-1)) H') ∧ ∀ p : Nat, IsBest bs s p → ∀ H', Same H H' → Q (.int (p : Int)) H'
def sp_l_fresh (A : Ad) : Sp := fun vs H Q _ => ∃ ld w ra ba bs m, vs = [.ref ld, .int m] ∧ MD H w ld ra ba bs ∧ bs.length = m.toNat ∧ 0 ≤ m ∧ m ≤ 40 ∧ (pageFor bs = none → ∀ H', Same H H' → Q (.int (-1)) H') ∧
  ∀ p : Nat, pageFor bs = some p → ∀ H', MS (OnM ld ra ba bs) H (OnM ld ra ba (bs.set p none)) H' → (∀ b, H' b = none → H b = none) → MD H' w ld ra ba (bs.set p none) → Q (.int (p : Int)) H'
def sp_l_wished (A : Ad) : Sp := fun vs H Q _ => ∃ ld t ls w ra ba bs m n xs x, vs = [.ref ld, .ref t, .int x] ∧ MD H w ld ra ba bs ∧ Ok m n xs bs ∧ 1 ≤ m ∧ m ≤ 40 ∧ n ≤ 60 ∧ (∀ b, H b = none → w b = .no) ∧ (H t = some (.tup [.int m, .int n, .ref ls]) ∧ ¬ OnM ld ra ba bs t) ∧ (H ls = some (.lst (xs.map V.int)) ∧ ¬ OnM ld ra ba bs ls) ∧
  (xs.find? (fun s => decide (x ≤ s)) = none → ∀ H', Same H H' → Q (.int (-2)) H') ∧ ∀ s, xs.find? (fun s => decide (x ≤ s)) = some s → (cands bs s = [] → pageFor bs = none → ∀ H', Same H H' → Q (.int (-1)) H') ∧
  ∀ p bs1, ForSize n bs s p bs1 → ∀ H' ra' ba', MS (OnM ld ra ba bs) H (OnM ld ra' ba' (takeAt bs1 p)) H' → MD H' w ld ra' ba' (takeAt bs1 p) → Q (.int ((p : Int) * n + (((rowAt bs1 p).idxOf false : Nat) : Int) * s)) H'
def sp_l_places (A : Ad) : Sp := fun vs H Q _ => ∃ ld w ra ba bs m n xs, vs = [.ref ld, .int n] ∧ MD H w ld ra ba bs ∧ Ok m n xs bs ∧ m ≤ 40 ∧ n ≤ 60 ∧ ∀ H' D ys, Same H H' → H D = none → H' D = some (.lst ys) → Pairs w0 H' ys (thingsOf n bs) → Q (.ref D) H'
def sp_l_given (A : Ad) : Sp := fun vs H Q _ => ∃ ld w ra ba bs m n xs, ∃ p k : Nat, vs = [.ref ld, .int n, .int ((p : Int) * n + (k : Int) * szAt bs p)] ∧ MD H w ld ra ba bs ∧ Ok m n xs bs ∧ m ≤ 40 ∧ n ≤ 60 ∧ (rowAt bs p)[k]? = some true ∧
  ∀ H', MS (OnM ld ra ba bs) H (OnM ld ra ba (giveSt bs p k)) H' → MD H' w ld ra ba (giveSt bs p k) → Q .non H'
def sp_l_gathered_by (A : Ad) : Sp := fun vs H Q _ => ∃ ld w ra ba bs m n xs hf s rk, vs = [.ref ld, .int n, .int s] ∧ MD H w ld ra ba bs ∧ Ok m n xs bs ∧ Con n bs hf ∧ m ≤ 40 ∧ n ≤ 60 ∧ s ∈ xs ∧ IsRank bs s rk ∧
  ∀ H' D ys, MS (OnM ld ra ba bs) H (OnM ld ra ba (gath n bs hf s rk).1) H' → H' D = some (.lst ys) → Pairs w0 H' ys (gath n bs hf s rk).2.2 → MD H' w ld ra ba (gath n bs hf s rk).1 → Q (.ref D) H'
def sp_l_left (A : Ad) : Sp := fun vs H Q _ => ∃ ld t ls w ra ba bs m n xs s, vs = [.ref ld, .ref t, .int s] ∧ MD H w ld ra ba bs ∧ Ok m n xs bs ∧ 0 ≤ m ∧ m ≤ 40 ∧ n ≤ 60 ∧ s ∈ xs ∧ H t = some (.tup [.int m, .int n, .ref ls]) ∧ Q (.int ((capSum n bs s : Nat) : Int)) H
def sp_l_told (A : Ad) : Sp := fun vs H Q _ => ∃ r ld t ls w w2 C ra ba pl m n xs bs hf x, vs = [.ref r, .ref ld, .ref t, .int x] ∧ RoomC A H r w C pl m n xs bs hf ∧ MD H w2 ld ra ba bs ∧ H t = some (.tup [.int m, .int n, .ref ls]) ∧ H ls = some (.lst (xs.map V.int)) ∧ 1 ≤ x ∧ ∀ H', Same H H' → Q (.bl true) H'
def sp_l_got (A : Ad) : Sp := fun vs H Q _ => ∃ r w pl m n xs bs hf x, vs = [.ref r, .int x] ∧ Rm A H r w pl m n xs bs hf ∧ 1 ≤ x ∧ (xs.find? (fun s => decide (x ≤ s)) = none → ∀ H', Same H H' → Q (.int (-2)) H') ∧
  ∀ s, xs.find? (fun s => decide (x ≤ s)) = some s → (cands bs s = [] → pageFor bs = none → ∀ H', Same H H' → Q (.int (-1)) H') ∧
  ∀ p bs' H' w', ForSize n bs s p bs' → Stp A w H w' H' →
    Rm A H' r w' pl m n xs (takeAt bs' p) (fun y => if y = (p : Int) * n + (((rowAt bs' p).idxOf false : Nat) : Int) * s then some (List.replicate s.toNat (.int 0)) else hf y) → Q (.int ((p : Int) * n + (((rowAt bs' p).idxOf false : Nat) : Int) * s)) H'
/-- how a deed ends -/
def After (A : Ad) (S : Addr → Prop) (w : Addr → Ow) (H : Hp) (r pl : Addr) (m n : Int) (xs : List Int) (ld lk : Addr) (ks : List V) (Q : VK) : Prop := ∀ H' w' bs' hf' ra' ba' ks', SStp S w H (OnS lk ld ra' ba' bs') w' H' → MW A H' r w' pl m n xs bs' hf' ld ra' ba' → H' lk = some (.lst ks') → w' lk = .no → ¬ OnM ld ra' ba' bs' lk →
  (ks' = ks ∨ ∃ v, ks' = ks ++ [v] ∧ Entry (fun f => NF S w H f ∧ Free (OnS lk ld ra' ba' bs') w' f) H' v) → Q (.bl true) H'
def sp_l_deed (A : Ad) : Sp := fun vs H Q _ => ∃ r ld t ls lk w pl m n xs bs hf ra ba ks c, vs = [.ref r, .ref ld, .ref t, .ref lk, .int c] ∧ MW A H r w pl m n xs bs hf ld ra ba ∧ H lk = some (.lst ks) ∧ w lk = .no ∧ ¬ OnM ld ra ba bs lk ∧ ks.length ≤ 1000 ∧ (H t = some (.tup [.int m, .int n, .ref ls]) ∧ Free (OnS lk ld ra ba bs) w t) ∧ (H ls = some (.lst (xs.map V.int)) ∧ Free (OnS lk ld ra ba bs) w ls) ∧ After A (OnS lk ld ra ba bs) w H r pl m n xs ld lk ks Q
def sp_l_stands (A : Ad) : Sp := fun vs H Q _ => ∃ r ld t ls lk w pl m n xs bs hf ra ba ks, vs = [.ref r, .ref ld, .ref t, .ref lk] ∧ MW A H r w pl m n xs bs hf ld ra ba ∧ H lk = some (.lst ks) ∧ w lk = .no ∧ ¬ OnM ld ra ba bs lk ∧ ks.length ≤ 1000 ∧ H t = some (.tup [.int m, .int n, .ref ls]) ∧ (∀ v ∈ ks, Entry (fun _ => True) H v) ∧
  ∀ H' ks', SStp (OnS lk ld ra ba bs) w H (OnS lk ld ra ba bs) w H' → MW A H' r w pl m n xs bs hf ld ra ba → H' lk = some (.lst ks') → ks'.length ≤ 3 → (∀ v ∈ ks', Entry (fun f => H f = none) H' v) → Q (.bl true) H'
def sp_law (A : Ad) : Sp := fun vs H Q _ => ∃ (a : Addr) (ns : List Int), vs = [.ref a] ∧ SqL A.K H a (ns.map V.int) ∧ ns.length ≤ 63 ∧ (∀ z ∈ ns, Builtin.Int.intBits z ≤ 1048576) ∧ H A.lamP = some (.tbl #[]) ∧ ∀ H', Q (.bl true) H'
theorem len_l_fullest (A : Ad) {vs : List V} {H : Hp} {Q : VK} {E : XK} (h : sp_l_fullest A vs H Q E) : vs.length = 2 := by
  obtain ⟨_, _, _, _, _, _, rfl, _⟩ := h; rfl
theorem len_l_fresh (A : Ad) {vs : List V} {H : Hp} {Q : VK} {E : XK} (h : sp_l_fresh A vs H Q E) : vs.length = 2 := by
  obtain ⟨_, _, _, _, _, _, rfl, _⟩ := h; rfl
theorem len_l_wished (A : Ad) {vs : List V} {H : Hp} {Q : VK} {E : XK} (h : sp_l_wished A vs H Q E) : vs.length = 3 := by
  obtain ⟨_, _, _, _, _, _, _, _, _, _, _, rfl, _⟩ := h; rfl
theorem len_l_places (A : Ad) {vs : List V} {H : Hp} {Q : VK} {E : XK} (h : sp_l_places A vs H Q E) : vs.length = 2 := by
  obtain ⟨_, _, _, _, _, _, _, _, rfl, _⟩ := h; rfl
theorem len_l_given (A : Ad) {vs : List V} {H : Hp} {Q : VK} {E : XK} (h : sp_l_given A vs H Q E) : vs.length = 3 := by
  obtain ⟨_, _, _, _, _, _, _, _, _, _, rfl, _⟩ := h; rfl
theorem len_l_gathered_by (A : Ad) {vs : List V} {H : Hp} {Q : VK} {E : XK} (h : sp_l_gathered_by A vs H Q E) : vs.length = 3 := by
  obtain ⟨_, _, _, _, _, _, _, _, _, _, _, rfl, _⟩ := h; rfl
theorem len_l_left (A : Ad) {vs : List V} {H : Hp} {Q : VK} {E : XK} (h : sp_l_left A vs H Q E) : vs.length = 3 := by
  obtain ⟨_, _, _, _, _, _, _, _, _, _, _, rfl, _⟩ := h; rfl
theorem len_l_told (A : Ad) {vs : List V} {H : Hp} {Q : VK} {E : XK} (h : sp_l_told A vs H Q E) : vs.length = 4 := by
  obtain ⟨_, _, _, _, _, _, _, _, _, _, _, _, _, _, _, _, rfl, _⟩ := h; rfl
theorem len_l_got (A : Ad) {vs : List V} {H : Hp} {Q : VK} {E : XK} (h : sp_l_got A vs H Q E) : vs.length = 2 := by
  obtain ⟨_, _, _, _, _, _, _, _, _, rfl, _⟩ := h; rfl
theorem len_l_deed (A : Ad) {vs : List V} {H : Hp} {Q : VK} {E : XK} (h : sp_l_deed A vs H Q E) : vs.length = 5 := by
  obtain ⟨_, _, _, _, _, _, _, _, _, _, _, _, _, _, _, _, rfl, _⟩ := h; rfl
theorem len_l_stands (A : Ad) {vs : List V} {H : Hp} {Q : VK} {E : XK} (h : sp_l_stands A vs H Q E) : vs.length = 4 := by
  obtain ⟨_, _, _, _, _, _, _, _, _, _, _, _, _, _, _, rfl, _⟩ := h; rfl
theorem len_law (A : Ad) {vs : List V} {H : Hp} {Q : VK} {E : XK} (h : sp_law A vs H Q E) : vs.length = 1 := by
  obtain ⟨_, _, rfl, _⟩ := h; rfl

structure NA (A : Ad) : Prop where
  cl_Shelf : Cls A.K A.c_Shelf
  na_Shelf_page : NoAttr A.K A.c_Shelf "page"
  na_Shelf_size : NoAttr A.K A.c_Shelf "size"
  na_Shelf__free : NoAttr A.K A.c_Shelf "_free"
  na_Shelf__taken : NoAttr A.K A.c_Shelf "_taken"
  cl_Room : Cls A.K A.c_Room
  na_Room__plan : NoAttr A.K A.c_Room "_plan"
  na_Room__shelves : NoAttr A.K A.c_Room "_shelves"
  na_Room__held : NoAttr A.K A.c_Room "_held"
  cl_Plan : Cls A.K A.c_Plan
  na_Plan_pages : NoAttr A.K A.c_Plan "pages"
  na_Plan_length : NoAttr A.K A.c_Plan "length"
  na_Plan_sizes : NoAttr A.K A.c_Plan "sizes"
  ex_BadPlan_NoRoom : PySem.W.exmOne A.K (.ref A.c_BadPlan) (.ref A.c_NoRoom) = some false
  ex_BadPlan_TooLarge : PySem.W.exmOne A.K (.ref A.c_BadPlan) (.ref A.c_TooLarge) = some false
  ex_BadWish_NoRoom : PySem.W.exmOne A.K (.ref A.c_BadWish) (.ref A.c_NoRoom) = some false
  ex_BadWish_TooLarge : PySem.W.exmOne A.K (.ref A.c_BadWish) (.ref A.c_TooLarge) = some false
  ex_NoRoom_NoRoom : PySem.W.exmOne A.K (.ref A.c_NoRoom) (.ref A.c_NoRoom) = some true
  ex_NoRoom_TooLarge : PySem.W.exmOne A.K (.ref A.c_NoRoom) (.ref A.c_TooLarge) = some false
  ex_NoSize_NoRoom : PySem.W.exmOne A.K (.ref A.c_NoSize) (.ref A.c_NoRoom) = some false
  ex_NoSize_TooLarge : PySem.W.exmOne A.K (.ref A.c_NoSize) (.ref A.c_TooLarge) = some false
  ex_NotOut_NoRoom : PySem.W.exmOne A.K (.ref A.c_NotOut) (.ref A.c_NoRoom) = some false
  ex_NotOut_TooLarge : PySem.W.exmOne A.K (.ref A.c_NotOut) (.ref A.c_TooLarge) = some false
  ex_OutOfThing_NoRoom : PySem.W.exmOne A.K (.ref A.c_OutOfThing) (.ref A.c_NoRoom) = some false
  ex_OutOfThing_TooLarge : PySem.W.exmOne A.K (.ref A.c_OutOfThing) (.ref A.c_TooLarge) = some false
  ex_TooLarge_NoRoom : PySem.W.exmOne A.K (.ref A.c_TooLarge) (.ref A.c_NoRoom) = some false
  ex_TooLarge_TooLarge : PySem.W.exmOne A.K (.ref A.c_TooLarge) (.ref A.c_TooLarge) = some true

/-- Shelf.__init__ ['self', 'page', 'size', 'slots'] -/
def t_Shelf_init (A : Ad) (E : XK) : TS :=
  (tSeq (sFld A.K (tVar 0) (tVar 1) "page")
  (tSeq (sFld A.K (tVar 0) (tVar 2) "size")
  (tSeq (sFld A.K (tVar 0) (tLstRg (tRg1 (tVar 3))) "_free")
  (sFld A.K (tVar 0) tDNewK "_taken"))))
/-- Shelf.out ['self'] -/
def t_Shelf_out (A : Ad) (E : XK) : TS :=
  (tRet (tCB rLenD (tCons (tFld A.K (tVar 0) "_taken") tNil)))
/-- Shelf.free ['self'] -/
def t_Shelf_free (A : Ad) (E : XK) : TS :=
  (tRet (tCB (rSortedA A.K) (tCons (tFld A.K (tVar 0) "_free") tNil)))
/-- Shelf.take ['self', 'slot'] -/
def t_Shelf_take (A : Ad) (E : XK) : TS :=
  (tSeq (tIfS (tNot (tTru A.K (tFld A.K (tVar 0) "_free")))
    (fun _ σ H => E (.ref A.c_NoRoom) none H)
    tNext)
  (tSeq (tAsg (tCB rHpop (tCons (tFld A.K (tVar 0) "_free") tNil)) (gName 1))
  (tSeq (sDPut (tFld A.K (tVar 0) "_taken") (tVar 1) (tC (.bl true)))
  (tRet (tVar 1)))))
/-- Shelf.give ['self', 'slot'] -/
def t_Shelf_give (A : Ad) (E : XK) : TS :=
  (tSeq (tIfS (tB (tDNotIn (tVar 1) (tFld A.K (tVar 0) "_taken")))
    (fun _ σ H => E (.ref A.c_NotOut) none H)
    tNext)
  (tSeq (sDDel (tFld A.K (tVar 0) "_taken") (tVar 1))
  (tDrop (tCB rHpush (tCons (tFld A.K (tVar 0) "_free") (tCons (tVar 1) tNil))))))
/-- fullest_first ['shelf'] -/
def t_fullest_first (A : Ad) (E : XK) : TS :=
  (tRet (tTup (tCons (tUn (rU fun i => .int (-i)) (tMeth A.c_Shelf "out" (sp_Shelf_out A) [] E0 (tVar 0) tNil)) (tCons (tFld A.K (tVar 0) "page") tNil))))
/-- Room.__init__ ['self', 'plan'] -/
def t_Room_init (A : Ad) (E : XK) : TS :=
  (tSeq (sFld A.K (tVar 0) (tVar 1) "_plan")
  (tSeq (sFld A.K (tVar 0) tDNewK "_shelves")
  (sFld A.K (tVar 0) tDNewK "_held")))
/-- Room.wish ['self', 'places', 'size', 'place'] -/
def t_Room_wish (A : Ad) (E : XK) : TS :=
  (tSeq (tAsg (tMeth A.c_Plan "size_for" (sp_Plan_size_for A) [] E (tFld A.K (tVar 0) "_plan") (tCons (tVar 1) tNil)) (gName 2))
  (tSeq (tAsg (tMeth A.c_Room "_take_place" (sp_Room__take_place A) [] E (tVar 0) (tCons (tMeth A.c_Room "_shelf_for" (sp_Room__shelf_for A) [] E (tVar 0) (tCons (tVar 2) tNil)) tNil)) (gName 3))
  (tSeq (sDPut (tFld A.K (tVar 0) "_held") (tVar 3) (tOp rMulA (tLst (tCons (tC (.int 0)) tNil)) (tVar 2)))
  (tRet (tVar 3)))))
/-- Room.give_back ['self', 'place', 'shelf', 'begin', 'unused', 'other'] -/
def t_Room_give_back (A : Ad) (E : XK) : TS :=
  (tSeq (tDrop (tMeth A.c_Room "_check_out" (sp_Room__check_out A) [] E (tVar 0) (tCons (tVar 1) tNil)))
  (tSeq (tAsg (tDGet (tFld A.K (tVar 0) "_shelves") (tMeth A.c_Room "_page_of" (sp_Room__page_of A) [] E0 (tVar 0) (tCons (tVar 1) tNil))) (gName 2))
  (tSeq (tAsg (tOp rMulA (tFld A.K (tVar 2) "page") (tFld A.K (tFld A.K (tVar 0) "_plan") "length")) (gName 3))
  (tSeq (tDrop (tMeth A.c_Shelf "give" (sp_Shelf_give A) [] E (tVar 2) (tCons (tOp rDivI (tOp rSubI (tVar 1) (tVar 3)) (tFld A.K (tVar 2) "size")) tNil)))
  (tSeq (sDDel (tFld A.K (tVar 0) "_held") (tVar 1))
  (tSeq (tAsg (tLc (iList A.K (tMeth A.c_Room "_unused" (sp_Room__unused A) [] E0 (tVar 0) tNil)) (gName 5) (tTest (tOp (rEqA A.K) (tFld A.K (tVar 5) "size") (tFld A.K (tVar 2) "size"))) (tVar 5) [5]) (gName 4))
  (tIfS (tAnd (tTest (tOp (rEqA A.K) (tMeth A.c_Shelf "out" (sp_Shelf_out A) [] E0 (tVar 2) tNil) (tC (.int 0)))) (tTest (tOp rGtI (tCB (rLenA A.K) (tCons (tVar 4) tNil)) (tC (.int 1)))))
    (tDrop (tMeth A.c_Room "_give_back_shelves" (sp_Room__give_back_shelves A) [] E0 (tVar 0) (tCons (tLst (tCons (tVar 2) tNil)) tNil)))
    tNext)))))))
/-- Room.trim ['self', 'unused'] -/
def t_Room_trim (A : Ad) (E : XK) : TS :=
  (tSeq (tAsg (tMeth A.c_Room "_unused" (sp_Room__unused A) [] E0 (tVar 0) tNil) (gName 1))
  (tSeq (tDrop (tMeth A.c_Room "_give_back_shelves" (sp_Room__give_back_shelves A) [] E0 (tVar 0) (tCons (tVar 1) tNil)))
  (tRet (tCB (rLenA A.K) (tCons (tVar 1) tNil)))))
/-- Room.room_for ['self', 'places', 'size', 'slots', 'others', 'pages', 'shelf'] -/
def t_Room_room_for (A : Ad) (E : XK) : TS :=
  (tSeq (tAsg (tMeth A.c_Plan "size_for" (sp_Plan_size_for A) [] E (tFld A.K (tVar 0) "_plan") (tCons (tVar 1) tNil)) (gName 2))
  (tSeq (tAsg (tCB (rSum A.K) (tCons (tLc (iList A.K (tMeth A.c_Room "_of_size" (sp_Room__of_size A) [] E0 (tVar 0) (tCons (tVar 2) tNil))) (gName 6) tYes (tCB (rLenA A.K) (tCons (tMeth A.c_Shelf "free" (sp_Shelf_free A) [] E0 (tVar 6) tNil) tNil)) [6]) tNil)) (gName 3))
  (tSeq (tAsg (tLc (iList A.K (tMeth A.c_Room "_unused" (sp_Room__unused A) [] E0 (tVar 0) tNil)) (gName 6) (tTest (tOp (rNeA A.K) (tFld A.K (tVar 6) "size") (tVar 2))) (tVar 6) [6]) (gName 4))
  (tSeq (tAsg (tOp rAddA (tCB (rLenA A.K) (tCons (tMeth A.c_Room "pile" (sp_Room_pile A) [] E0 (tVar 0) tNil) tNil)) (tCB (rLenA A.K) (tCons (tVar 4) tNil))) (gName 5))
  (tRet (tOp rAddA (tVar 3) (tOp rMulA (tVar 5) (tMeth A.c_Plan "per" (sp_Plan_per A) [] E (tFld A.K (tVar 0) "_plan") (tCons (tVar 2) tNil)))))))))
/-- Room.read ['self', 'place', 'step'] -/
def t_Room_read (A : Ad) (E : XK) : TS :=
  (tSeq (tDrop (tMeth A.c_Room "_check_step" (sp_Room__check_step A) [] E (tVar 0) (tCons (tVar 1) (tCons (tVar 2) tNil))))
  (tRet (tOp (rIxA A.K) (tDGet (tFld A.K (tVar 0) "_held") (tVar 1)) (tVar 2))))
/-- Room.write ['self', 'place', 'step', 'number'] -/
def t_Room_write (A : Ad) (E : XK) : TS :=
  (tSeq (tDrop (tMeth A.c_Room "_check_step" (sp_Room__check_step A) [] E (tVar 0) (tCons (tVar 1) (tCons (tVar 2) tNil))))
  (tAsg (tVar 3) (gSub (tDGet (tFld A.K (tVar 0) "_held") (tVar 1)) (tVar 2) rSetL)))
/-- Room.gather ['self', 'size', 'per', 'shelves', 'things', 'needed', 'staying', 'leaving', 'moves', 'shelf'] -/
def t_Room_gather (A : Ad) (E : XK) : TS :=
  (tSeq (tAsg (tMeth A.c_Plan "per" (sp_Plan_per A) [] E (tFld A.K (tVar 0) "_plan") (tCons (tVar 1) tNil)) (gName 2))
  (tSeq (tAsg (tCKw (rSortKey A.K true (spAt A.v_fullest_first (sp_fullest_first A))) (tCons (tMeth A.c_Room "_of_size" (sp_Room__of_size A) [] E0 (tVar 0) (tCons (tVar 1) tNil)) tNil) (tCons (tC (.ref A.v_fullest_first)) tNil)) (gName 3))
  (tSeq (tAsg (tCB (rSum A.K) (tCons (tLc (iList A.K (tVar 3)) (gName 9) tYes (tMeth A.c_Shelf "out" (sp_Shelf_out A) [] E0 (tVar 9) tNil) [9]) tNil)) (gName 4))
  (tSeq (tAsg (tOp rDivI (tOp rSubI (tOp rAddA (tVar 4) (tVar 2)) (tC (.int 1))) (tVar 2)) (gName 5))
  (tSeq (tAsg (tSl (rSlL A.K) (tVar 3) tNoPart (tPart (tVar 5))) (gName 6))
  (tSeq (tAsg (tSl (rSlL A.K) (tVar 3) (tPart (tVar 5)) tNoPart) (gName 7))
  (tSeq (tAsg (tMeth A.c_Room "_move_things" (sp_Room__move_things A) [] E (tVar 0) (tCons (tVar 7) (tCons (tVar 6) tNil))) (gName 8))
  (tSeq (tDrop (tMeth A.c_Room "_give_back_shelves" (sp_Room__give_back_shelves A) [] E0 (tVar 0) (tCons (tVar 7) tNil)))
  (tRet (tVar 8))))))))))
/-- Room.things ['self', 'place'] -/
def t_Room_things (A : Ad) (E : XK) : TS :=
  (tRet (tCB (rSortedA A.K) (tCons (tLockE (tLc (iKeys (tFld A.K (tVar 0) "_held")) (gName 1) tYes (tTup (tCons (tVar 1) (tCons (tCB (rLenA A.K) (tCons (tDGet (tFld A.K (tVar 0) "_held") (tVar 1)) tNil)) tNil))) [1])) tNil)))
/-- Room.shelves ['self', 'shelf'] -/
def t_Room_shelves (A : Ad) (E : XK) : TS :=
  (tRet (tLc (iList A.K (tMeth A.c_Room "_all" (sp_Room__all A) [] E0 (tVar 0) tNil)) (gName 1) tYes (tTup (tCons (tFld A.K (tVar 1) "page") (tCons (tFld A.K (tVar 1) "size") (tCons (tMeth A.c_Shelf "out" (sp_Shelf_out A) [] E0 (tVar 1) tNil) tNil)))) [1]))
/-- Room.pile ['self', 'page'] -/
def t_Room_pile (A : Ad) (E : XK) : TS :=
  (tRet (tLc (iRng1 (tCons (tFld A.K (tFld A.K (tVar 0) "_plan") "pages") tNil)) (gName 1) (tB (tDNotIn (tVar 1) (tFld A.K (tVar 0) "_shelves"))) (tVar 1) [1]))
/-- Room._all ['self', 'page'] -/
def t_Room__all (A : Ad) (E : XK) : TS :=
  (tRet (tLc (iList A.K (tCB (rSortedA A.K) (tCons (tFld A.K (tVar 0) "_shelves") tNil))) (gName 1) tYes (tDGet (tFld A.K (tVar 0) "_shelves") (tVar 1)) [1]))
/-- Room._of_size ['self', 'size', 'shelf'] -/
def t_Room__of_size (A : Ad) (E : XK) : TS :=
  (tRet (tLc (iList A.K (tMeth A.c_Room "_all" (sp_Room__all A) [] E0 (tVar 0) tNil)) (gName 2) (tTest (tOp (rEqA A.K) (tFld A.K (tVar 2) "size") (tVar 1))) (tVar 2) [2]))
/-- Room._unused ['self', 'shelf'] -/
def t_Room__unused (A : Ad) (E : XK) : TS :=
  (tRet (tLc (iList A.K (tMeth A.c_Room "_all" (sp_Room__all A) [] E0 (tVar 0) tNil)) (gName 1) (tTest (tOp (rEqA A.K) (tMeth A.c_Shelf "out" (sp_Shelf_out A) [] E0 (tVar 1) tNil) (tC (.int 0)))) (tVar 1) [1]))
/-- Room._page_of ['self', 'place'] -/
def t_Room__page_of (A : Ad) (E : XK) : TS :=
  (tRet (tOp rDivI (tVar 1) (tFld A.K (tFld A.K (tVar 0) "_plan") "length")))
/-- Room._check_out ['self', 'place'] -/
def t_Room__check_out (A : Ad) (E : XK) : TS :=
  (tIfS (tB (tDNotIn (tVar 1) (tFld A.K (tVar 0) "_held")))
    (fun _ σ H => E (.ref A.c_NotOut) none H)
    tNext)
/-- Room._check_step ['self', 'place', 'step'] -/
def t_Room__check_step (A : Ad) (E : XK) : TS :=
  (tSeq (tDrop (tMeth A.c_Room "_check_out" (sp_Room__check_out A) [] E (tVar 0) (tCons (tVar 1) tNil)))
  (tIfS (tOr (tTest (tOp rLtI (tVar 2) (tC (.int 0)))) (tTest (tOp rGeI (tVar 2) (tCB (rLenA A.K) (tCons (tDGet (tFld A.K (tVar 0) "_held") (tVar 1)) tNil)))))
    (fun _ σ H => E (.ref A.c_OutOfThing) none H)
    tNext))
/-- Room._shelf_for ['self', 'size', 'shelves', 'page', 'shelf'] -/
def t_Room__shelf_for (A : Ad) (E : XK) : TS :=
  (tSeq (tAsg (tLc (iList A.K (tMeth A.c_Room "_of_size" (sp_Room__of_size A) [] E0 (tVar 0) (tCons (tVar 1) tNil))) (gName 4) (tTru A.K (tMeth A.c_Shelf "free" (sp_Shelf_free A) [] E0 (tVar 4) tNil)) (tVar 4) [4]) (gName 2))
  (tSeq (tIfS (tTru A.K (tVar 2))
    (tRet (tCKw (rMinKey A.K true (spAt A.v_fullest_first (sp_fullest_first A))) (tCons (tVar 2) tNil) (tCons (tC (.ref A.v_fullest_first)) tNil)))
    tNext)
  (tSeq (tAsg (tMeth A.c_Room "_page_for_shelf" (sp_Room__page_for_shelf A) [] E (tVar 0) tNil) (gName 3))
  (tSeq (sDPut (tFld A.K (tVar 0) "_shelves") (tVar 3) (tMake A.c_Shelf (sp_Shelf_init A) [] E0 (tCons (tVar 3) (tCons (tVar 1) (tCons (tMeth A.c_Plan "per" (sp_Plan_per A) [] E (tFld A.K (tVar 0) "_plan") (tCons (tVar 1) tNil)) tNil)))))
  (tRet (tDGet (tFld A.K (tVar 0) "_shelves") (tVar 3)))))))
/-- Room._page_for_shelf ['self', 'pages', 'shelf'] -/
def t_Room__page_for_shelf (A : Ad) (E : XK) : TS :=
  (tSeq (tAsg (tMeth A.c_Room "pile" (sp_Room_pile A) [] E0 (tVar 0) tNil) (gName 1))
  (tSeq (tIfS (tNot (tTru A.K (tVar 1)))
    (tAsg (tLc (iList A.K (tMeth A.c_Room "_unused" (sp_Room__unused A) [] E0 (tVar 0) tNil)) (gName 2) tYes (tFld A.K (tVar 2) "page") [2]) (gName 1))
    tNext)
  (tSeq (tIfS (tNot (tTru A.K (tVar 1)))
    (fun _ σ H => E (.ref A.c_NoRoom) none H)
    tNext)
  (tRet (tOp (rIxA A.K) (tVar 1) (tC (.int 0)))))))
/-- Room._take_place ['self', 'shelf'] -/
def t_Room__take_place (A : Ad) (E : XK) : TS :=
  (tRet (tOp rAddA (tOp rMulA (tFld A.K (tVar 1) "page") (tFld A.K (tFld A.K (tVar 0) "_plan") "length")) (tOp rMulA (tMeth A.c_Shelf "take" (sp_Shelf_take A) [] E (tVar 1) tNil) (tFld A.K (tVar 1) "size"))))
/-- Room._give_back_shelves ['self', 'shelves', 'shelf'] -/
def t_Room__give_back_shelves (A : Ad) (E : XK) : TS :=
  (tFor (iList A.K (tVar 1)) (gName 2)
    (sDDel (tFld A.K (tVar 0) "_shelves") (tFld A.K (tVar 2) "page")))
/-- Room._move_things ['self', 'leaving', 'staying', 'pages', 'place', 'places', 'rising', 'moves', 'with_room', 'new', 'shelf'] -/
def t_Room__move_things (A : Ad) (E : XK) : TS :=
  (tSeq (tAsg (tLc (iList A.K (tVar 1)) (gName 10) tYes (tFld A.K (tVar 10) "page") [10]) (gName 3))
  (tSeq (tAsg (tLc (iList A.K (tCB (rSortedA A.K) (tCons (tFld A.K (tVar 0) "_held") tNil))) (gName 4) (tTest (tOp (rInP A.K) (tMeth A.c_Room "_page_of" (sp_Room__page_of A) [] E0 (tVar 0) (tCons (tVar 4) tNil)) (tVar 3))) (tVar 4) [4]) (gName 5))
  (tSeq (tAsg (tCKw (rSortKey A.K false (spLam3 A.lamO A.lamQ ["shelf"] ["shelf"] (tFld A.K (tVar 0) "page"))) (tCons (tVar 2) tNil) (tCons (tLam3 A.lamP A.lamQ A.lamO) tNil)) (gName 6))
  (tSeq (tAsg (tLst tNil) (gName 7))
  (tSeq (tFor (iList A.K (tVar 5)) (gName 4)
    (tSeq (tAsg (tLc (iList A.K (tVar 6)) (gName 10) (tTru A.K (tMeth A.c_Shelf "free" (sp_Shelf_free A) [] E0 (tVar 10) tNil)) (tVar 10) [10]) (gName 8))
    (tSeq (tAsg (tMeth A.c_Room "_take_place" (sp_Room__take_place A) [] E (tVar 0) (tCons (tOp (rIxA A.K) (tVar 8) (tC (.int 0))) tNil)) (gName 9))
    (tSeq (sDPut (tFld A.K (tVar 0) "_held") (tVar 9) (tDPop1 (tFld A.K (tVar 0) "_held") (tVar 4)))
    (tDrop (tBM A.K "list" rAppend (tVar 7) (tCons (tTup (tCons (tVar 4) (tCons (tVar 9) tNil))) tNil)))))))
  (tRet (tVar 7)))))))
/-- is_whole ['number'] -/
def t_is_whole (A : Ad) (E : XK) : TS :=
  (tRet (tAndV (tCB (rIsi A.K) (tCons (tVar 0) (tCons (tC (.ty "int")) tNil))) (tNotV (tCB (rIsi A.K) (tCons (tVar 0) (tCons (tC (.ty "bool")) tNil))))))
/-- is_within ['number', 'least', 'most'] -/
def t_is_within (A : Ad) (E : XK) : TS :=
  (tRet (tAndV (tCall (sp_is_whole A) [] E0 (tCons (tVar 0) tNil)) (tChain rLeI rLeI (tVar 1) (tVar 0) (tVar 2))))
/-- check_sizes ['sizes', 'length', 'ahead', 'size'] -/
def t_check_sizes (A : Ad) (E : XK) : TS :=
  (tSeq (tIfS (tNot (tB (tCB (rIsi A.K) (tCons (tVar 0) (tCons (tC (.ty "list")) tNil)))))
    (fun _ σ H => E (.ref A.c_BadPlan) none H)
    tNext)
  (tSeq (tIfS (tNot (tB (tCall (sp_is_within A) [] E0 (tCons (tCB (rLenA A.K) (tCons (tVar 0) tNil)) (tCons (tC (.int 1)) (tCons (tC (.int 8)) tNil))))))
    (fun _ σ H => (tJoin [(tC (.str (PySem.Str.ofString "a plan has 1 to "))), (tFmt (tC (.int 8))), (tC (.str (PySem.Str.ofString " sizes")))]) σ H fun _ H1 => E (.ref A.c_BadPlan) none H1)
    tNext)
  (tSeq (tAsg (tC (.int 0)) (gName 2))
  (tFor (iList A.K (tVar 0)) (gName 3)
    (tSeq (tIfS (tNot (tB (tCall (sp_is_within A) [] E0 (tCons (tVar 3) (tCons (tOp rAddA (tVar 2) (tC (.int 1))) (tCons (tVar 1) tNil))))))
      (fun _ σ H => E (.ref A.c_BadPlan) none H)
      tNext)
    (tAsg (tVar 3) (gName 2)))))))
/-- Plan.__init__ ['self', 'pages', 'length', 'sizes'] -/
def t_Plan_init (A : Ad) (E : XK) : TS :=
  (tSeq (tIfS (tNot (tB (tCall (sp_is_within A) [] E0 (tCons (tVar 1) (tCons (tC (.int 1)) (tCons (tC (.int 40)) tNil))))))
    (fun _ σ H => (tJoin [(tC (.str (PySem.Str.ofString "a plan has 1 to "))), (tFmt (tC (.int 40))), (tC (.str (PySem.Str.ofString " pages")))]) σ H fun _ H1 => E (.ref A.c_BadPlan) none H1)
    tNext)
  (tSeq (tIfS (tNot (tB (tCall (sp_is_within A) [] E0 (tCons (tVar 2) (tCons (tC (.int 1)) (tCons (tC (.int 60)) tNil))))))
    (fun _ σ H => (tJoin [(tC (.str (PySem.Str.ofString "a plan has a length of 1 to "))), (tFmt (tC (.int 60)))]) σ H fun _ H1 => E (.ref A.c_BadPlan) none H1)
    tNext)
  (tSeq (tDrop (tCall (sp_check_sizes A) [] E (tCons (tVar 3) (tCons (tVar 2) tNil))))
  (tSeq (sFld A.K (tVar 0) (tVar 1) "pages")
  (tSeq (sFld A.K (tVar 0) (tVar 2) "length")
  (sFld A.K (tVar 0) (tCB (rListA A.K) (tCons (tVar 3) tNil)) "sizes"))))))
/-- Plan.size_for ['self', 'wish', 'size'] -/
def t_Plan_size_for (A : Ad) (E : XK) : TS :=
  (tSeq (tIfS (tOr (tNot (tB (tCall (sp_is_whole A) [] E0 (tCons (tVar 1) tNil)))) (tTest (tOp rLtI (tVar 1) (tC (.int 1)))))
    (fun _ σ H => E (.ref A.c_BadWish) none H)
    tNext)
  (tSeq (tFor (iList A.K (tFld A.K (tVar 0) "sizes")) (gName 2)
    (tIfS (tTest (tOp rGeI (tVar 2) (tVar 1)))
      (tRet (tVar 2))
      tNext))
  (fun _ σ H => E (.ref A.c_TooLarge) none H)))
/-- Plan.per ['self', 'size'] -/
def t_Plan_per (A : Ad) (E : XK) : TS :=
  (tSeq (tIfS (tOr (tNot (tB (tCall (sp_is_whole A) [] E0 (tCons (tVar 1) tNil)))) (tTest (tOp (rInN A.K) (tVar 1) (tFld A.K (tVar 0) "sizes"))))
    (fun _ σ H => E (.ref A.c_NoSize) none H)
    tNext)
  (tRet (tOp rDivI (tFld A.K (tVar 0) "length") (tVar 1))))
/-- _law_cell_at ['_law_script', '_law_k'] -/
def t_l_cell_at (A : Ad) (E : XK) : TS :=
  (tSeq (tIfS (tTest (tOp rLtI (tVar 1) (tCB (rLenA A.K) (tCons (tVar 0) tNil))))
    (tRet (tOp (rIxA A.K) (tVar 0) (tVar 1)))
    tNext)
  (tRet (tC (.int 0))))
/-- _law_whole ['_law_found'] -/
def t_l_whole (A : Ad) (E : XK) : TS :=
  (tRet (tAndV (tCB (rIsi A.K) (tCons (tVar 0) (tCons (tC (.ty "int")) tNil))) (tNotV (tCB (rIsi A.K) (tCons (tVar 0) (tCons (tC (.ty "bool")) tNil))))))
/-- _law_sizes_by ['_law_cell', '_law_length', '_law_many', '_law_found', '_law_before', '_law_rest', '_law_span', '_law_turn'] -/
def t_l_sizes_by (A : Ad) (E : XK) : TS :=
  (tSeq (tAsg (tLst tNil) (gName 3))
  (tSeq (tAsg (tC (.int 0)) (gName 4))
  (tSeq (tAsg (tOp rDivI (tVar 0) (tC (.int 3))) (gName 5))
  (tSeq (tAsg (tC (.int 4)) (gName 6))
  (tSeq (tIfS (tTest (tOp (rEqA A.K) (tOp rModI (tVar 0) (tC (.int 3))) (tC (.int 0))))
    (tAsg (tVar 1) (gName 6))
    tNext)
  (tSeq (tFor (iRng1 (tCons (tVar 2) tNil)) (gName 7)
    (tSeq (tAsg (tOp rAddA (tOp rAddA (tVar 4) (tC (.int 1))) (tOp rModI (tVar 5) (tVar 6))) (gName 4))
    (tSeq (tAsg (tOp rDivI (tVar 5) (tVar 6)) (gName 5))
    (tIfS (tTest (tOp rLeI (tVar 4) (tVar 1)))
      (tDrop (tBM A.K "list" rAppend (tVar 3) (tCons (tVar 4) tNil)))
      tNext))))
  (tSeq (tIfS (tTest (tOp (rEqA A.K) (tVar 3) (tLst tNil)))
    (tDrop (tBM A.K "list" rAppend (tVar 3) (tCons (tVar 1) tNil)))
    tNext)
  (tRet (tVar 3)))))))))
/-- _law_plan_by ['_law_script', '_law_first', '_law_second', '_law_pages', '_law_length'] -/
def t_l_plan_by (A : Ad) (E : XK) : TS :=
  (tSeq (tAsg (tCall (sp_l_cell_at A) [] E0 (tCons (tVar 0) (tCons (tC (.int 0)) tNil))) (gName 1))
  (tSeq (tAsg (tCall (sp_l_cell_at A) [] E0 (tCons (tVar 0) (tCons (tC (.int 1)) tNil))) (gName 2))
  (tSeq (tAsg (tOp rAddA (tC (.int 1)) (tOp rModI (tVar 1) (tC (.int 6)))) (gName 3))
  (tSeq (tAsg (tOp rAddA (tC (.int 1)) (tOp rModI (tVar 2) (tC (.int 12)))) (gName 4))
  (tSeq (tIfS (tTest (tOp (rEqA A.K) (tOp rModI (tOp rDivI (tVar 1) (tC (.int 6))) (tC (.int 8))) (tC (.int 1))))
    (tSeq (tAsg (tOp rAddA (tC (.int 1)) (tOp rModI (tOp rDivI (tVar 1) (tC (.int 48))) (tC (.int 40)))) (gName 3))
    (tAsg (tOp rAddA (tC (.int 1)) (tOp rModI (tVar 2) (tC (.int 4)))) (gName 4)))
    tNext)
  (tSeq (tIfS (tTest (tOp (rEqA A.K) (tOp rModI (tOp rDivI (tVar 1) (tC (.int 6))) (tC (.int 8))) (tC (.int 2))))
    (tSeq (tAsg (tOp rAddA (tC (.int 1)) (tOp rModI (tOp rDivI (tVar 1) (tC (.int 48))) (tC (.int 2)))) (gName 3))
    (tAsg (tOp rAddA (tC (.int 1)) (tOp rModI (tVar 2) (tC (.int 60)))) (gName 4)))
    tNext)
  (tSeq (tIfS (tTest (tOp (rEqA A.K) (tOp rModI (tOp rDivI (tVar 1) (tC (.int 6))) (tC (.int 8))) (tC (.int 3))))
    (tSeq (tAsg (tOp rAddA (tC (.int 1)) (tOp rModI (tOp rDivI (tVar 1) (tC (.int 48))) (tC (.int 40)))) (gName 3))
    (tAsg (tOp rAddA (tC (.int 1)) (tOp rModI (tVar 2) (tC (.int 60)))) (gName 4)))
    tNext)
  (tRet (tTup (tCons (tVar 3) (tCons (tVar 4) (tCons (tCall (sp_l_sizes_by A) [] E0 (tCons (tCall (sp_l_cell_at A) [] E0 (tCons (tVar 0) (tCons (tC (.int 2)) tNil))) (tCons (tVar 4) (tCons (tOp rAddA (tC (.int 1)) (tOp rModI (tCall (sp_l_cell_at A) [] E0 (tCons (tVar 0) (tCons (tC (.int 3)) tNil))) (tC (.int 8)))) tNil)))) tNil))))))))))))
/-- _law_size_by ['_law_sizes', '_law_wish', '_law_size'] -/
def t_l_size_by (A : Ad) (E : XK) : TS :=
  (tSeq (tFor (iList A.K (tVar 0)) (gName 2)
    (tIfS (tTest (tOp rGeI (tVar 2) (tVar 1)))
      (tRet (tVar 2))
      tNext))
  (tRet (tC (.int 0))))
/-- _law_fullest ['_law_model', '_law_size', '_law_best', '_law_page', '_law_row'] -/
def t_l_fullest (A : Ad) (E : XK) : TS :=
  (tSeq (tAsg (tUn (rU fun i => .int (-i)) (tC (.int 1))) (gName 2))
  (tSeq (tFor (iList A.K (tCB (rSortedA A.K) (tCons (tVar 0) tNil))) (gName 3)
    (tSeq (tAsg (tDGet (tVar 0) (tVar 3)) (gName 4))
    (tIfS (tAnd (tTest (tOp (rEqA A.K) (tOp (rIxA A.K) (tVar 4) (tC (.int 0))) (tVar 1))) (tTest (tOp (rInP A.K) (tC (.bl false)) (tOp (rIxA A.K) (tVar 4) (tC (.int 1))))))
      (tIfS (tOr (tTest (tOp rLtI (tVar 2) (tC (.int 0)))) (tTest (tOp rGtI (tBM A.K "list" (rCntB A.K) (tOp (rIxA A.K) (tVar 4) (tC (.int 1))) (tCons (tC (.bl true)) tNil)) (tBM A.K "list" (rCntB A.K) (tOp (rIxA A.K) (tDGet (tVar 0) (tVar 2)) (tC (.int 1))) (tCons (tC (.bl true)) tNil)))))
        (tAsg (tVar 3) (gName 2))
        tNext)
      tNext)))
  (tRet (tVar 2))))
/-- _law_fresh ['_law_model', '_law_pages', '_law_bare', '_law_empty', '_law_page'] -/
def t_l_fresh (A : Ad) (E : XK) : TS :=
  (tSeq (tAsg (tLc (iRng1 (tCons (tVar 1) tNil)) (gName 4) (tB (tDNotIn (tVar 4) (tVar 0))) (tVar 4) [4]) (gName 2))
  (tSeq (tAsg (tLc (iList A.K (tCB (rSortedA A.K) (tCons (tVar 0) tNil))) (gName 4) (tTest (tOp (rInN A.K) (tC (.bl true)) (tOp (rIxA A.K) (tDGet (tVar 0) (tVar 4)) (tC (.int 1))))) (tVar 4) [4]) (gName 3))
  (tSeq (tIfS (tTest (tOp (rNeA A.K) (tVar 2) (tLst tNil)))
    (tRet (tOp (rIxA A.K) (tVar 2) (tC (.int 0))))
    tNext)
  (tSeq (tIfS (tTest (tOp (rNeA A.K) (tVar 3) (tLst tNil)))
    (tSeq (tDrop (tDPop1 (tVar 0) (tOp (rIxA A.K) (tVar 3) (tC (.int 0)))))
    (tRet (tOp (rIxA A.K) (tVar 3) (tC (.int 0)))))
    tNext)
  (tRet (tUn (rU fun i => .int (-i)) (tC (.int 1))))))))
/-- _law_wished ['_law_model', '_law_drawn', '_law_wish', '_law_size', '_law_page', '_law_slot'] -/
def t_l_wished (A : Ad) (E : XK) : TS :=
  (tSeq (tAsg (tCall (sp_l_size_by A) [] E0 (tCons (tOp (rIxA A.K) (tVar 1) (tC (.int 2))) (tCons (tVar 2) tNil))) (gName 3))
  (tSeq (tIfS (tTest (tOp (rEqA A.K) (tVar 3) (tC (.int 0))))
    (tRet (tUn (rU fun i => .int (-i)) (tC (.int 2))))
    tNext)
  (tSeq (tAsg (tCall (sp_l_fullest A) [] E0 (tCons (tVar 0) (tCons (tVar 3) tNil))) (gName 4))
  (tSeq (tIfS (tTest (tOp rLtI (tVar 4) (tC (.int 0))))
    (tSeq (tAsg (tCall (sp_l_fresh A) [] E0 (tCons (tVar 0) (tCons (tOp (rIxA A.K) (tVar 1) (tC (.int 0))) tNil))) (gName 4))
    (tSeq (tIfS (tTest (tOp rLtI (tVar 4) (tC (.int 0))))
      (tRet (tUn (rU fun i => .int (-i)) (tC (.int 1))))
      tNext)
    (sDPut (tVar 0) (tVar 4) (tLst (tCons (tVar 3) (tCons (tOp rMulA (tLst (tCons (tC (.bl false)) tNil)) (tOp rDivI (tOp (rIxA A.K) (tVar 1) (tC (.int 1))) (tVar 3))) tNil))))))
    tNext)
  (tSeq (tAsg (tBM A.K "list" (rIndexA A.K) (tOp (rIxA A.K) (tDGet (tVar 0) (tVar 4)) (tC (.int 1))) (tCons (tC (.bl false)) tNil)) (gName 5))
  (tSeq (tAsg (tC (.bl true)) (gSub (tOp (rIxA A.K) (tDGet (tVar 0) (tVar 4)) (tC (.int 1))) (tVar 5) rSetL))
  (tRet (tOp rAddA (tOp rMulA (tVar 4) (tOp (rIxA A.K) (tVar 1) (tC (.int 1)))) (tOp rMulA (tVar 5) (tVar 3))))))))))
/-- _law_places ['_law_model', '_law_length', '_law_found', '_law_page', '_law_row', '_law_slot'] -/
def t_l_places (A : Ad) (E : XK) : TS :=
  (tSeq (tAsg (tLst tNil) (gName 2))
  (tSeq (tFor (iList A.K (tCB (rSortedA A.K) (tCons (tVar 0) tNil))) (gName 3)
    (tSeq (tAsg (tDGet (tVar 0) (tVar 3)) (gName 4))
    (tFor (iRng1 (tCons (tCB (rLenA A.K) (tCons (tOp (rIxA A.K) (tVar 4) (tC (.int 1))) tNil)) tNil)) (gName 5)
      (tIfS (tB (tOp (rIxA A.K) (tOp (rIxA A.K) (tVar 4) (tC (.int 1))) (tVar 5)))
        (tDrop (tBM A.K "list" rAppend (tVar 2) (tCons (tTup (tCons (tOp rAddA (tOp rMulA (tVar 3) (tVar 1)) (tOp rMulA (tVar 5) (tOp (rIxA A.K) (tVar 4) (tC (.int 0))))) (tCons (tOp (rIxA A.K) (tVar 4) (tC (.int 0))) tNil))) tNil)))
        tNext))))
  (tRet (tVar 2))))
/-- _law_given ['_law_model', '_law_length', '_law_place', '_law_page', '_law_row', '_law_empty', '_law_one'] -/
def t_l_given (A : Ad) (E : XK) : TS :=
  (tSeq (tAsg (tOp rDivI (tVar 2) (tVar 1)) (gName 3))
  (tSeq (tAsg (tDGet (tVar 0) (tVar 3)) (gName 4))
  (tSeq (tAsg (tC (.bl false)) (gSub (tOp (rIxA A.K) (tVar 4) (tC (.int 1))) (tOp rDivI (tOp rModI (tVar 2) (tVar 1)) (tOp (rIxA A.K) (tVar 4) (tC (.int 0)))) rSetL))
  (tSeq (tLock (tAsg (tLc (iKeys (tVar 0)) (gName 6) (tAnd (tTest (tOp (rEqA A.K) (tOp (rIxA A.K) (tDGet (tVar 0) (tVar 6)) (tC (.int 0))) (tOp (rIxA A.K) (tVar 4) (tC (.int 0))))) (tTest (tOp (rInN A.K) (tC (.bl true)) (tOp (rIxA A.K) (tDGet (tVar 0) (tVar 6)) (tC (.int 1)))))) (tVar 6) [6]) (gName 5)))
  (tIfS (tAnd (tTest (tOp (rInN A.K) (tC (.bl true)) (tOp (rIxA A.K) (tVar 4) (tC (.int 1))))) (tTest (tOp rGtI (tCB (rLenA A.K) (tCons (tVar 5) tNil)) (tC (.int 1)))))
    (tDrop (tDPop1 (tVar 0) (tVar 3)))
    tNext)))))
/-- _law_gathered_by ['_law_model', '_law_length', '_law_size', '_law_page', '_law_pages', '_law_slots', '_law_needed', '_law_ranked', '_law_stay', '_law_moves', '_law_slot', '_law_goal', '_law_there', '_law_pair', '_law_one'] -/
def t_l_gathered_by (A : Ad) (E : XK) : TS :=
  (tSeq (tAsg (tLc (iList A.K (tCB (rSortedA A.K) (tCons (tVar 0) tNil))) (gName 3) (tTest (tOp (rEqA A.K) (tOp (rIxA A.K) (tDGet (tVar 0) (tVar 3)) (tC (.int 0))) (tVar 2))) (tVar 3) [3]) (gName 4))
  (tSeq (tAsg (tOp rDivI (tVar 1) (tVar 2)) (gName 5))
  (tSeq (tAsg (tOp rDivI (tOp rSubI (tOp rAddA (tCB (rSum A.K) (tCons (tLc (iList A.K (tVar 4)) (gName 3) tYes (tBM A.K "list" (rCntB A.K) (tOp (rIxA A.K) (tDGet (tVar 0) (tVar 3)) (tC (.int 1))) (tCons (tC (.bl true)) tNil)) [3]) tNil)) (tVar 5)) (tC (.int 1))) (tVar 5)) (gName 6))
  (tSeq (tAsg (tSl (rSlL A.K) (tCB (rSortedA A.K) (tCons (tLc (iList A.K (tVar 4)) (gName 3) tYes (tTup (tCons (tUn (rU fun i => .int (-i)) (tBM A.K "list" (rCntB A.K) (tOp (rIxA A.K) (tDGet (tVar 0) (tVar 3)) (tC (.int 1))) (tCons (tC (.bl true)) tNil))) (tCons (tVar 3) tNil))) [3]) tNil)) tNoPart (tPart (tVar 6))) (gName 7))
  (tSeq (tAsg (tCB (rSortedA A.K) (tCons (tLc (iList A.K (tVar 7)) (gName 13) tYes (tOp (rIxA A.K) (tVar 13) (tC (.int 1))) [13]) tNil)) (gName 8))
  (tSeq (tAsg (tLst tNil) (gName 9))
  (tSeq (tFor (iList A.K (tLc (iList A.K (tVar 4)) (gName 3) (tTest (tOp (rInN A.K) (tVar 3) (tVar 8))) (tVar 3) [3])) (gName 3)
    (tSeq (tFor (iRng1 (tCons (tVar 5) tNil)) (gName 10)
      (tIfS (tB (tOp (rIxA A.K) (tOp (rIxA A.K) (tDGet (tVar 0) (tVar 3)) (tC (.int 1))) (tVar 10)))
        (tSeq (tAsg (tOp (rIxA A.K) (tLc (iList A.K (tVar 8)) (gName 14) (tTest (tOp (rInP A.K) (tC (.bl false)) (tOp (rIxA A.K) (tDGet (tVar 0) (tVar 14)) (tC (.int 1))))) (tVar 14) [14]) (tC (.int 0))) (gName 11))
        (tSeq (tAsg (tBM A.K "list" (rIndexA A.K) (tOp (rIxA A.K) (tDGet (tVar 0) (tVar 11)) (tC (.int 1))) (tCons (tC (.bl false)) tNil)) (gName 12))
        (tSeq (tAsg (tC (.bl true)) (gSub (tOp (rIxA A.K) (tDGet (tVar 0) (tVar 11)) (tC (.int 1))) (tVar 12) rSetL))
        (tDrop (tBM A.K "list" rAppend (tVar 9) (tCons (tTup (tCons (tOp rAddA (tOp rMulA (tVar 3) (tVar 1)) (tOp rMulA (tVar 10) (tVar 2))) (tCons (tOp rAddA (tOp rMulA (tVar 11) (tVar 1)) (tOp rMulA (tVar 12) (tVar 2))) tNil))) tNil))))))
        tNext))
    (tDrop (tDPop1 (tVar 0) (tVar 3)))))
  (tRet (tVar 9)))))))))
/-- _law_left ['_law_model', '_law_drawn', '_law_size', '_law_left_here', '_law_page'] -/
def t_l_left (A : Ad) (E : XK) : TS :=
  (tSeq (tAsg (tC (.int 0)) (gName 3))
  (tSeq (tFor (iRng1 (tCons (tOp (rIxA A.K) (tVar 1) (tC (.int 0))) tNil)) (gName 4)
    (tIfS (tOr (tB (tDNotIn (tVar 4) (tVar 0))) (tTest (tOp (rInN A.K) (tC (.bl true)) (tOp (rIxA A.K) (tDGet (tVar 0) (tVar 4)) (tC (.int 1))))))
      (tAsg (tOp rAddA (tVar 3) (tOp rDivI (tOp (rIxA A.K) (tVar 1) (tC (.int 1))) (tVar 2))) (gName 3))
      (tIfS (tTest (tOp (rEqA A.K) (tOp (rIxA A.K) (tDGet (tVar 0) (tVar 4)) (tC (.int 0))) (tVar 2)))
        (tAsg (tOp rAddA (tVar 3) (tBM A.K "list" (rCntB A.K) (tOp (rIxA A.K) (tDGet (tVar 0) (tVar 4)) (tC (.int 1))) (tCons (tC (.bl false)) tNil))) (gName 3))
        tNext)))
  (tRet (tVar 3))))
/-- _law_told ['_law_room', '_law_model', '_law_drawn', '_law_wish', '_law_size', '_law_found'] -/
def t_l_told (A : Ad) (E : XK) : TS :=
  (tSeq (tAsg (tCall (sp_l_size_by A) [] E0 (tCons (tOp (rIxA A.K) (tVar 2) (tC (.int 2))) (tCons (tVar 3) tNil))) (gName 4))
  (tSeq (fun D σ H => (fun W0 => (tAsg (tMethS A.c_Room "room_for" (sp_Room_room_for A) (WE W0) (tVar 0) (tCons (tVar 3) tNil)) (gName 5))) (wOnly A.K (.ref A.c_TooLarge) (fun _ _ _ => (tRet (tOp (rEqA A.K) (tVar 4) (tC (.int 0))))) (fun _ _ _ _ => False) D) D σ H)
  (tRet (tAndV (tOp rGtI (tVar 4) (tC (.int 0))) (tAndV (tCall (sp_l_whole A) [] E0 (tCons (tVar 5) tNil)) (tOp (rEqA A.K) (tVar 5) (tCall (sp_l_left A) [] E0 (tCons (tVar 1) (tCons (tVar 2) (tCons (tVar 4) tNil))))))))))
/-- _law_got ['_law_room', '_law_wish'] -/
def t_l_got (A : Ad) (E : XK) : TS :=
  (fun D σ H => (fun W0 => (tRet (tMethS A.c_Room "wish" (sp_Room_wish A) (WE W0) (tVar 0) (tCons (tVar 1) tNil)))) (wMany A.K (fun _ _ _ _ => False) D [(Value.ref A.c_NoRoom, fun _ _ _ => (tRet (tUn (rU fun i => .int (-i)) (tC (.int 1))))), (Value.ref A.c_TooLarge, fun _ _ _ => (tRet (tUn (rU fun i => .int (-i)) (tC (.int 2)))))]) D σ H)
/-- _law_deed ['_law_room', '_law_model', '_law_drawn', '_law_kept', '_law_cell', '_law_more', '_law_many', '_law_turn', '_law_found', '_law_places_here', '_law_place', '_law_size', '_law_page', '_law_empty'] -/
def t_l_deed (A : Ad) (E : XK) : TS :=
  (tSeq (tAsg (tOp rDivI (tVar 4) (tC (.int 9))) (gName 5))
  (tSeq (tIfS (tTest (tOp rLtI (tOp rModI (tVar 4) (tC (.int 9))) (tC (.int 4))))
    (tSeq (tAsg (tC (.int 1)) (gName 6))
    (tSeq (tIfS (tTest (tOp (rEqA A.K) (tOp rModI (tVar 4) (tC (.int 9))) (tC (.int 3))))
      (tAsg (tOp rAddA (tC (.int 1)) (tOp rModI (tOp rDivI (tVar 5) (tC (.int 2))) (tC (.int 6)))) (gName 6))
      tNext)
    (tSeq (tFor (iRng1 (tCons (tVar 6) tNil)) (gName 7)
      (tSeq (tAsg (tCall (sp_l_got A) [] E0 (tCons (tVar 0) (tCons (tOp rAddA (tC (.int 1)) (tOp rModI (tVar 5) (tOp (rIxA A.K) (tVar 2) (tC (.int 1))))) tNil))) (gName 8))
      (tIfS (tOr (tNot (tB (tCall (sp_l_whole A) [] E0 (tCons (tVar 8) tNil)))) (tTest (tOp (rNeA A.K) (tVar 8) (tCall (sp_l_wished A) [] E0 (tCons (tVar 1) (tCons (tVar 2) (tCons (tOp rAddA (tC (.int 1)) (tOp rModI (tVar 5) (tOp (rIxA A.K) (tVar 2) (tC (.int 1))))) tNil)))))))
        (tRet (tC (.bl false)))
        tNext)))
    (tRet (tC (.bl true))))))
    tNext)
  (tSeq (tIfS (tTest (tOp (rEqA A.K) (tOp rModI (tVar 4) (tC (.int 9))) (tC (.int 6))))
    (tRet (tCall (sp_l_told A) [] E0 (tCons (tVar 0) (tCons (tVar 1) (tCons (tVar 2) (tCons (tOp rAddA (tC (.int 1)) (tOp rModI (tVar 5) (tOp (rIxA A.K) (tVar 2) (tC (.int 1))))) tNil))))))
    tNext)
  (tSeq (tIfS (tTest (tOp (rNeA A.K) (tOp rModI (tVar 4) (tC (.int 9))) (tC (.int 7))))
    (tSeq (tAsg (tCall (sp_l_places A) [] E0 (tCons (tVar 1) (tCons (tOp (rIxA A.K) (tVar 2) (tC (.int 1))) tNil))) (gName 9))
    (tSeq (tIfS (tTest (tOp (rEqA A.K) (tVar 9) (tLst tNil)))
      (tRet (tC (.bl true)))
      tNext)
    (tSeq (tAsg (tOp (rIxA A.K) (tVar 9) (tOp rModI (tVar 5) (tCB (rLenA A.K) (tCons (tVar 9) tNil)))) (gTup A.K 2 (gCons (gName 10) (gCons (gName 11) gNil))))
    (tSeq (tIfS (tTest (tOp (rEqA A.K) (tOp rModI (tVar 4) (tC (.int 9))) (tC (.int 8))))
      (tSeq (tDrop (tMeth A.c_Room "write" (sp_Room_write A) [] E0 (tVar 0) (tCons (tVar 10) (tCons (tOp rModI (tVar 5) (tVar 11)) (tCons (tVar 5) tNil)))))
      (tRet (tOp (rEqA A.K) (tMeth A.c_Room "read" (sp_Room_read A) [] E0 (tVar 0) (tCons (tVar 10) (tCons (tOp rModI (tVar 5) (tVar 11)) tNil))) (tVar 5))))
      tNext)
    (tSeq (tDrop (tCall (sp_l_given A) [] E0 (tCons (tVar 1) (tCons (tOp (rIxA A.K) (tVar 2) (tC (.int 1))) (tCons (tVar 10) tNil)))))
    (tRet (tOp rIsNon (tMeth A.c_Room "give_back" (sp_Room_give_back A) [] E0 (tVar 0) (tCons (tVar 10) tNil)) (tC .non))))))))
    tNext)
  (tSeq (tIfS (tTest (tOp rGtI (tOp rModI (tVar 5) (tC (.int 3))) (tC (.int 0))))
    (tSeq (tAsg (tOp (rIxA A.K) (tOp (rIxA A.K) (tVar 2) (tC (.int 2))) (tOp rModI (tOp rDivI (tVar 5) (tC (.int 3))) (tCB (rLenA A.K) (tCons (tOp (rIxA A.K) (tVar 2) (tC (.int 2))) tNil)))) (gName 11))
    (tSeq (tAsg (tMeth A.c_Room "gather" (sp_Room_gather A) [] E0 (tVar 0) (tCons (tVar 11) tNil)) (gName 8))
    (tSeq (tDrop (tBM A.K "list" rAppend (tVar 3) (tCons (tTup (tCons (tVar 8) (tCons (tCB (rListA A.K) (tCons (tVar 8) tNil)) tNil))) tNil)))
    (tRet (tOp (rEqA A.K) (tVar 8) (tCall (sp_l_gathered_by A) [] E0 (tCons (tVar 1) (tCons (tOp (rIxA A.K) (tVar 2) (tC (.int 1))) (tCons (tVar 11) tNil)))))))))
    tNext)
  (tSeq (tAsg (tLc (iList A.K (tCB (rSortedA A.K) (tCons (tVar 1) tNil))) (gName 12) (tTest (tOp (rInN A.K) (tC (.bl true)) (tOp (rIxA A.K) (tDGet (tVar 1) (tVar 12)) (tC (.int 1))))) (tVar 12) [12]) (gName 13))
  (tSeq (tFor (iList A.K (tVar 13)) (gName 12)
    (tDrop (tDPop1 (tVar 1) (tVar 12))))
  (tSeq (tAsg (tMeth A.c_Room "trim" (sp_Room_trim A) [] E0 (tVar 0) tNil) (gName 8))
  (tRet (tAndV (tCall (sp_l_whole A) [] E0 (tCons (tVar 8) tNil)) (tOp (rEqA A.K) (tVar 8) (tCB (rLenA A.K) (tCons (tVar 13) tNil)))))))))))))
/-- _law_stands ['_law_room', '_law_model', '_law_drawn', '_law_kept', '_law_one', '_law_copy', '_law_shelves', '_law_pile', '_law_found', '_law_page'] -/
def t_l_stands (A : Ad) (E : XK) : TS :=
  (tSeq (tFor (iList A.K (tVar 3)) (gTup A.K 2 (gCons (gName 4) (gCons (gName 5) gNil)))
    (tIfS (tTest (tOp (rNeA A.K) (tVar 4) (tVar 5)))
      (tRet (tC (.bl false)))
      tNext))
  (tSeq (tAsg (tLc (iList A.K (tCB (rSortedA A.K) (tCons (tVar 1) tNil))) (gName 9) tYes (tTup (tCons (tVar 9) (tCons (tOp (rIxA A.K) (tDGet (tVar 1) (tVar 9)) (tC (.int 0))) (tCons (tBM A.K "list" (rCntB A.K) (tOp (rIxA A.K) (tDGet (tVar 1) (tVar 9)) (tC (.int 1))) (tCons (tC (.bl true)) tNil)) tNil)))) [9]) (gName 6))
  (tSeq (tAsg (tLc (iRng1 (tCons (tOp (rIxA A.K) (tVar 2) (tC (.int 0))) tNil)) (gName 9) (tB (tDNotIn (tVar 9) (tVar 1))) (tVar 9) [9]) (gName 7))
  (tSeq (tAsg (tLst (tCons (tMeth A.c_Room "shelves" (sp_Room_shelves A) [] E0 (tVar 0) tNil) (tCons (tMeth A.c_Room "pile" (sp_Room_pile A) [] E0 (tVar 0) tNil) (tCons (tMeth A.c_Room "things" (sp_Room_things A) [] E0 (tVar 0) tNil) tNil)))) (gName 8))
  (tSeq (tDrop (tBM0 A.K "list" rClear (tVar 3)))
  (tSeq (tFor (iList A.K (tVar 8)) (gName 4)
    (tDrop (tBM A.K "list" rAppend (tVar 3) (tCons (tTup (tCons (tVar 4) (tCons (tCB (rListA A.K) (tCons (tVar 4) tNil)) tNil))) tNil))))
  (tRet (tOp (rEqA A.K) (tVar 8) (tLst (tCons (tVar 6) (tCons (tVar 7) (tCons (tCall (sp_l_places A) [] E0 (tCons (tVar 1) (tCons (tOp (rIxA A.K) (tVar 2) (tC (.int 1))) tNil))) tNil))))))))))))
/-- law ['_law_script', '_law_drawn', '_law_plan', '_law_rooms', '_law_models', '_law_kept', '_law_k', '_law_cell', '_law_which', '_law_room', '_law_model'] -/
def t_law (A : Ad) (E : XK) : TS :=
  (tSeq (tAsg (tCall (sp_l_plan_by A) [] E0 (tCons (tVar 0) tNil)) (gName 1))
  (tSeq (tAsg (tMake A.c_Plan (sp_Plan_init A) [] E0 (tCons (tOp (rIxA A.K) (tVar 1) (tC (.int 0))) (tCons (tOp (rIxA A.K) (tVar 1) (tC (.int 1))) (tCons (tCB (rListA A.K) (tCons (tOp (rIxA A.K) (tVar 1) (tC (.int 2))) tNil)) tNil)))) (gName 2))
  (tSeq (tAsg (tLst (tCons (tMake A.c_Room (sp_Room_init A) [] E0 (tCons (tVar 2) tNil)) (tCons (tMake A.c_Room (sp_Room_init A) [] E0 (tCons (tVar 2) tNil)) tNil))) (gName 3))
  (tSeq (tAsg (tLst (tCons tDNewK (tCons tDNewK tNil))) (gName 4))
  (tSeq (tAsg (tLst (tCons (tLst tNil) (tCons (tLst tNil) tNil))) (gName 5))
  (tSeq (tFor (iEnum A.K (tCons (tSl (rSlL A.K) (tVar 0) (tPart (tC (.int 4))) tNoPart) tNil)) (gTup A.K 2 (gCons (gName 6) (gCons (gName 7) gNil)))
    (tSeq (tAsg (tCB rInt1 (tCons (tOp (rEqA A.K) (tOp rModI (tVar 6) (tC (.int 3))) (tC (.int 2))) tNil)) (gName 8))
    (tSeq (tAsg (tOp (rIxA A.K) (tVar 3) (tVar 8)) (gName 9))
    (tSeq (tAsg (tOp (rIxA A.K) (tVar 4) (tVar 8)) (gName 10))
    (tSeq (tIfS (tNot (tB (tCall (sp_l_deed A) [] E0 (tCons (tVar 9) (tCons (tVar 10) (tCons (tVar 1) (tCons (tOp (rIxA A.K) (tVar 5) (tVar 8)) (tCons (tVar 7) tNil))))))))
      (tRet (tC (.bl false)))
      tNext)
    (tIfS (tAnd (tTest (tOp (rEqA A.K) (tOp rModI (tVar 6) (tC (.int 5))) (tC (.int 4)))) (tNot (tB (tCall (sp_l_stands A) [] E0 (tCons (tVar 9) (tCons (tVar 10) (tCons (tVar 1) (tCons (tOp (rIxA A.K) (tVar 5) (tVar 8)) tNil))))))))
      (tRet (tC (.bl false)))
      tNext))))))
  (tSeq (tIfS (tOr (tTest (tOp (rNeA A.K) (tTup (tCons (tFld A.K (tVar 2) "pages") (tCons (tFld A.K (tVar 2) "length") tNil))) (tTup (tCons (tOp (rIxA A.K) (tVar 1) (tC (.int 0))) (tCons (tOp (rIxA A.K) (tVar 1) (tC (.int 1))) tNil))))) (tTest (tOp (rNeA A.K) (tFld A.K (tVar 2) "sizes") (tOp (rIxA A.K) (tVar 1) (tC (.int 2))))))
    (tRet (tC (.bl false)))
    tNext)
  (tSeq (tIfS (tNot (tB (tCall (sp_l_stands A) [] E0 (tCons (tOp (rIxA A.K) (tVar 3) (tC (.int 0))) (tCons (tOp (rIxA A.K) (tVar 4) (tC (.int 0))) (tCons (tVar 1) (tCons (tOp (rIxA A.K) (tVar 5) (tC (.int 0))) tNil)))))))
    (tRet (tC (.bl false)))
    tNext)
  (tRet (tCall (sp_l_stands A) [] E0 (tCons (tOp (rIxA A.K) (tVar 3) (tC (.int 1))) (tCons (tOp (rIxA A.K) (tVar 4) (tC (.int 1))) (tCons (tVar 1) (tCons (tOp (rIxA A.K) (tVar 5) (tC (.int 1))) tNil))))))))))))))

/-! ### the defs of shelves keep their promises -/
theorem keys_len {kvs : List (Key × V)} {row : List Bool} (p : (kvs.map (·.1)).Perm ((takenFrom 0 row).map Sum.inl)) : kvs.length = row.count true := by
  have := p.length_eq
  rw [List.length_map, List.length_map, len_taken] at this
  exact this
theorem key_taken {kvs : List (Key × V)} {row : List Bool} (p : (kvs.map (·.1)).Perm ((takenFrom 0 row).map Sum.inl)) (s : Int) : (valV kvs (.inl s)).isSome = true ↔ ∃ i : Nat, s = i ∧ row[i]? = some true := by
  rw [nd_keys, p.mem_iff, List.mem_map]
  constructor
  · rintro ⟨x, hx, e⟩
    cases e
    obtain ⟨i, h1, h2⟩ := (mem_taken _ _ _).mp hx
    exact ⟨i, by omega, h2⟩
  · rintro ⟨i, h1, h2⟩
    exact ⟨s, (mem_taken _ _ _).mpr ⟨i, by omega, h2⟩, rfl⟩
section
variable (A : Ad) (na : NA A)
include na
theorem pure_Shelf_init (vs : List V) (H : Hp) (Q : VK) (E : XK) (h : sp_Shelf_init A vs H Q E) : t_Shelf_init A E { nx := fun _ H' => Q .non H', rt := Q } (start ["self", "page", "size", "slots"] vs) H := by
  obtain ⟨p, dx, pg, sz, n, rfl, hp, n2, q⟩ := h
  unfold t_Shelf_init
  have l1 : (putF "page" (V.int pg) []).length = 1 := rfl
  have l2 := length_putF "size" (V.int sz) (putF "page" (.int pg) [])
  walk_at "rd"
  refine r_sfldR hp na.cl_Shelf na.na_Shelf_page (by show 0 < 1000; decide) trivial fun _ => ?_
  walk_at "rd"
  refine r_sfldR upd_same na.cl_Shelf na.na_Shelf_size (by omega) trivial fun _ => ?_
  rw [upd_upd]
  walk_at "rd"
  refine ⟨⟨by omega, by omega, by omega, by omega, by omega⟩, fun fl hfl => ?_⟩
  have npf : p ≠ fl := ne_of_none upd_same hfl
  have hfl0 : H fl = none := by rw [upd_ne (Ne.symm npf)] at hfl; exact hfl
  have l3 := length_putF "_free" (V.ref fl) (putF "size" (.int sz) (putF "page" (.int pg) []))
  walk_at "rd"
  refine r_sfldR ((upd_ne npf).trans upd_same) na.cl_Shelf na.na_Shelf__free (by omega) trivial fun _ => ?_
  walk_at "rd"
  intro td htd
  have ntd : p ≠ td := ne_of_none upd_same htd
  have htd1 := htd
  rw [upd_ne (Ne.symm ntd)] at htd1
  have nfd : fl ≠ td := ne_of_none upd_same htd1
  rw [upd_ne (Ne.symm nfd), upd_ne (Ne.symm ntd)] at htd1
  walk_at "rd"
  refine r_sfldR ((upd_ne ntd).trans upd_same) na.cl_Shelf na.na_Shelf__taken (by omega) trivial fun _ => ?_
  walk_at "rd"
  refine q _ fl td (fun b o e nb => ?_) hfl0 htd1 (Ne.symm npf) (Ne.symm ntd) nfd ⟨⟨dx, upd_same⟩, ⟨(List.range n).map fun i => ((0 + i : Nat) : Int), ?_, ?_, ?_⟩, ⟨[], ?_, ?_⟩, by rw [List.length_replicate]; exact n2⟩
  · rw [upd_ne nb, upd_ne (ne_of_none e htd1), upd_ne nb, upd_ne (ne_of_none e hfl0), upd_ne nb]
    exact e
  · rw [upd_ne (Ne.symm npf), upd_ne nfd, upd_ne (Ne.symm npf), upd_same]
    unfold rgV
    rw [List.map_map]
    have : ((n : Int) - 0).toNat = n := by omega
    rw [this]
    congr 2
  · rw [← free_all]
    exact ord_of_up (free_up _ _)
  · rw [← free_all]
  · rw [upd_ne (Ne.symm ntd), upd_same]
  · rw [taken_none]
    exact List.Perm.refl _
theorem pure_Shelf_out (vs : List V) (H : Hp) (Q : VK) (E : XK) (h : sp_Shelf_out A vs H Q E) : t_Shelf_out A E { nx := fun _ H' => Q .non H', rt := Q } (start ["self"] vs) H := by
  obtain ⟨a, fl, td, pg, sz, row, rfl, hS, q⟩ := h
  obtain ⟨dx, h1⟩ := hS.ob
  obtain ⟨kvs, h4, h5⟩ := hS.tk
  unfold t_Shelf_out
  walk_at "rd"
  refine r_fldR h1 na.cl_Shelf na.na_Shelf__taken (sf_taken _ _ _ _) ?_
  walk_at "rd"
  refine r_lenD h4 ?_
  rw [keys_len h5]
  exact q
theorem pure_Shelf_free (vs : List V) (H : Hp) (Q : VK) (E : XK) (h : sp_Shelf_free A vs H Q E) : t_Shelf_free A E { nx := fun _ H' => Q .non H', rt := Q } (start ["self"] vs) H := by
  obtain ⟨a, fl, td, pg, sz, row, rfl, hS, q⟩ := h
  obtain ⟨dx, h1⟩ := hS.ob
  obtain ⟨ns, h2, h3, hp⟩ := hS.fr
  unfold t_Shelf_free
  walk_at "rd"
  refine r_fldR h1 na.cl_Shelf na.na_Shelf__free (sf_free _ _ _ _) ?_
  walk_at "rd"
  refine r_sortI (toL h2) fun ns' p p1 p2 hp' => ?_
  rw [up_unique (free_up row 0) p2 (p1.trans hp)]
  exact q p hp'
theorem pure_Shelf_take (vs : List V) (H : Hp) (Q : VK) (E : XK) (h : sp_Shelf_take A vs H Q E) : t_Shelf_take A E { nx := fun _ H' => Q .non H', rt := Q } (start ["self", "slot"] vs) H := by
  obtain ⟨a, fl, td, pg, sz, row, rfl, hS, q0, q⟩ := h
  obtain ⟨dx, h1⟩ := hS.ob
  obtain ⟨ns, h2, h3, hp⟩ := hS.fr
  obtain ⟨kvs, h4, h5⟩ := hS.tk
  have hz := hS.z
  unfold t_Shelf_take
  walk_at "rd"
  refine r_fldR h1 na.cl_Shelf na.na_Shelf__free (sf_free _ _ _ _) ?_
  refine r_truL (toL h2) ?_
  have hl : ns.length = row.count false := by rw [hp.length_eq, len_free]
  by_cases hf : false ∈ row
  · have h0 : 0 < ns.length := by rw [hl]; exact List.count_pos_iff.mpr hf
    have e : (ns.map V.int).isEmpty = false := by
      cases ns with
      | nil => exact absurd h0 (by decide)
      | cons _ _ => rfl
    rw [e]
    refine r_ifF ?_
    walk_at "rd"
    refine r_fldR h1 na.cl_Shelf na.na_Shelf__free (sf_free _ _ _ _) ?_
    walk_at "rd"
    refine r_hpop h2 h3 h0 fun ns' p1 p2 => ?_
    rw [heap_first h3 hp hf] at p1 ⊢
    have nfa : a ≠ fl := ne_of h1 h2 (by intro z; cases z)
    have nft : td ≠ fl := ne_of h4 h2 (by intro z; cases z)
    have nta : a ≠ td := ne_of h1 h4 (by intro z; cases z)
    walk_at "rd"
    refine r_fldR ((upd_ne nfa).trans h1) na.cl_Shelf na.na_Shelf__taken (sf_taken _ _ _ _) ?_
    walk_at "rd"
    have hi := idx_false hf
    have hnew : valV kvs (.inl ((row.idxOf false : Nat) : Int)) = none := by
      cases e2 : valV kvs (.inl ((row.idxOf false : Nat) : Int)) with
      | none => rfl
      | some v =>
        obtain ⟨i, e3, e4⟩ := (key_taken h5 ((row.idxOf false : Nat) : Int)).mp (by rw [e2]; rfl)
        have : row.idxOf false = i := by omega
        rw [← this, hi] at e4
        cases e4
    have hkl : kvs.length ≤ 60 := by rw [keys_len h5]; exact Nat.le_trans List.count_le_length hz
    refine r_dputI ((upd_ne nft).trans h4) (Nat.lt_of_le_of_lt hkl (by decide)) ?_
    walk_at "rd"
    refine q hf _ (fun b o e n1 n2 => by rw [upd_ne n2, upd_ne n1]; exact e) ⟨⟨dx, by rw [upd_ne nta, upd_ne nfa]; exact h1⟩, ⟨ns', by rw [upd_ne (Ne.symm nft), upd_same], p2, ?_⟩, ⟨putK kvs (.inl ((row.idxOf false : Nat) : Int)) (.bl true), upd_same, ?_⟩, by rw [List.length_set]; exact hz⟩
    · exact List.Perm.cons_inv ((p1.trans hp).trans (free_set hi))
    · rw [putK_new _ hnew, List.map_append]
      refine List.Perm.trans ?_ ((taken_set hi).map Sum.inl).symm
      refine List.Perm.trans (List.perm_append_comm) ?_
      exact List.Perm.cons _ h5
  · have h0 : ns = [] := List.eq_nil_of_length_eq_zero (by rw [hl]; exact List.count_eq_zero.mpr hf)
    rw [h0]
    refine r_ifT ?_
    exact q0 hf
theorem pure_Shelf_give (vs : List V) (H : Hp) (Q : VK) (E : XK) (h : sp_Shelf_give A vs H Q E) : t_Shelf_give A E { nx := fun _ H' => Q .non H', rt := Q } (start ["self", "slot"] vs) H := by
  obtain ⟨a, fl, td, pg, sz, row, s, rfl, hS, q0, q⟩ := h
  obtain ⟨dx, h1⟩ := hS.ob
  obtain ⟨ns, h2, h3, hp⟩ := hS.fr
  obtain ⟨kvs, h4, h5⟩ := hS.tk
  have hz := hS.z
  unfold t_Shelf_give
  walk_at "rd"
  refine r_fldR h1 na.cl_Shelf na.na_Shelf__taken (sf_taken _ _ _ _) ?_
  refine r_dinI h4 ?_
  cases hv : (valV kvs (.inl s)).isSome with
  | false =>
    refine ⟨_, rfl, r_ifT ?_⟩
    refine q0 fun i e1 e2 => ?_
    have := (key_taken h5 s).mpr ⟨i, e1, e2⟩
    rw [hv] at this
    cases this
  | true =>
    obtain ⟨i, rfl, hi⟩ := (key_taken h5 s).mp hv
    refine ⟨_, rfl, r_ifF ?_⟩
    walk_at "rd"
    refine r_fldR h1 na.cl_Shelf na.na_Shelf__taken (sf_taken _ _ _ _) ?_
    walk_at "rd"
    refine r_ddelI h4 hv ?_
    have nfa : a ≠ fl := ne_of h1 h2 (by intro z; cases z)
    have nft : td ≠ fl := ne_of h4 h2 (by intro z; cases z)
    have nta : a ≠ td := ne_of h1 h4 (by intro z; cases z)
    walk_at "rd"
    refine r_fldR ((upd_ne nta).trans h1) na.cl_Shelf na.na_Shelf__free (sf_free _ _ _ _) ?_
    walk_at "rd"
    have hl : ns.length = row.count false := by rw [hp.length_eq, len_free]
    refine r_hpush ((upd_ne (Ne.symm nft)).trans h2) h3 (Nat.lt_of_le_of_lt (m := 60) (by rw [hl]; exact Nat.le_trans List.count_le_length hz) (by decide)) fun ns' p1 p2 => ?_
    walk_at "rd"
    have sb := set_back hi
    have sf := set_false hi
    refine q i rfl hi _ (fun b o e n1 n2 => by rw [upd_ne n1, upd_ne n2]; exact e) ⟨⟨dx, by rw [upd_ne nfa, upd_ne nta]; exact h1⟩, ⟨ns', upd_same, p2, ?_⟩, ⟨dropK kvs (.inl (i : Int)), by rw [upd_ne nft, upd_same], ?_⟩, by rw [List.length_set]; exact hz⟩
    · refine p1.trans ?_
      have := free_set sf
      rw [sb] at this
      exact (List.Perm.cons _ hp).trans this.symm
    · have t := taken_set sf
      rw [sb] at t
      rw [keys_drop]
      have f := h5.filter fun j => decide (j ≠ Sum.inl (i : Int))
      refine f.trans ?_
      have g := (t.map (Sum.inl : Int → Key)).filter fun j => decide (j ≠ Sum.inl (i : Int))
      refine g.trans ?_
      rw [List.map_cons, List.filter_cons, if_neg (by simp)]
      refine List.Perm.of_eq (List.filter_eq_self.mpr fun j hj => ?_)
      obtain ⟨x, hx, rfl⟩ := List.mem_map.mp hj
      refine decide_eq_true fun z => ?_
      cases z
      obtain ⟨k, e1, e2⟩ := (mem_taken _ _ _).mp hx
      have : i = k := by omega
      subst this
      rw [sf] at e2
      cases e2
end

/-! ### comprehensions over told things -/
section
variable {K : PySem.W.Frag} {σ : L2.St}
theorem lc_pm {α : Type} {ps : List α} {h : α → V} {a : Addr} {g : TG} {tt : TT} {te : TE} {vs : List Nat} {H1 : Hp} {D : Addr} {Qd : Hp → Prop} (f : α → Option V) (hD : H1 D = none) (hs : SqL K H1 a (ps.map h)) (hz : ps.length ≤ sizeLine)
    (step : ∀ (i : Nat) p H (Ny : V → Hp → Prop) (Nn : Hp → Prop), ps[i]? = some p → Same H1 H → (∀ y H4, Same H H4 → f p = some y → Ny y H4) → (∀ H3, Same H H3 → f p = none → Nn H3) →
      g (h p) (wipe σ vs) H fun σ2 H2 => wipe σ2 vs = wipe σ vs ∧ tt σ2 H2 fun b H3 => if b = true then te σ2 H3 Ny else Nn H3)
    (hd : ∀ H', Same H1 H' → H' D = some (.lst (ps.filterMap f)) → Qd H') :
    ∃ W : Nat → Nat → Hp → Prop, (∃ m, W 0 m (upd H1 D (.lst []))) ∧ ∀ i m H, W i m H →
      ((Itl K a).stop i H ∧ Qd H) ∨ ((Itl K a).go i H ∧ ∃ Nx : Hp → Prop, (∀ H', Nx H' → ∃ m', m' < m ∧ W (i + 1) m' H') ∧ ∀ x H', (Itl K a).yld i H x H' → g x (wipe σ vs) H' fun σ2 H2 => wipe σ2 vs = wipe σ vs ∧ tt σ2 H2 fun b H3 =>
        if b = true then te σ2 H3 fun y H4 => ∃ acc, H4 D = some (.lst acc) ∧ acc.length < sizeLine ∧ Nx (upd H4 D (.lst (acc ++ [y]))) else Nx H3) := by
  refine lc_list (K := K) (xs := ps.map h) (fun i H => Same H1 H ∧ H D = some (.lst ((ps.take i).filterMap f))) ⟨same_new hD, by rw [upd_same]; rfl⟩ (fun i H _ p => p.1.seq hs) (fun i x H hx p => ?_) (fun H p => hd H p.1 (by rw [List.length_map, List.take_length] at p; exact p.2))
  obtain ⟨s, hl⟩ := p
  obtain ⟨p, hp, rfl⟩ : ∃ p, ps[i]? = some p ∧ x = h p := by
    rw [List.getElem?_map] at hx
    cases e : ps[i]? with
    | none => rw [e] at hx; cases hx
    | some p => rw [e] at hx; exact ⟨p, rfl, (Option.some.inj hx).symm⟩
  have hi : i < ps.length := (List.getElem?_eq_some_iff.mp hp).1
  have et : ps.take (i + 1) = ps.take i ++ [p] := by rw [List.take_add_one, hp]; rfl
  refine step i p H _ _ hp s (fun y H4 s4 hf => ⟨_, s4 _ _ hl, ?_, fun b o e => ?_, ?_⟩) (fun H3 s3 hf => ⟨s.trans s3, ?_⟩)
  · have := List.length_filterMap_le f (ps.take i)
    rw [List.length_take] at this
    omega
  · rw [upd_ne (ne_of_none e hD)]
    exact s4 _ _ (s _ _ e)
  · rw [upd_same, et, List.filterMap_append]
    simp [hf]
  · rw [s3 _ _ hl, et, List.filterMap_append]
    simp [hf]
/-- the same, new things with a relation -/
theorem lc_rm {α : Type} {ps : List α} {h : α → V} {a : Addr} {g : TG} {te : TE} {vs : List Nat} {H1 : Hp} {D : Addr} {Qd : Hp → Prop} (Rl : α → V → Hp → Prop) (hRs : ∀ x y H H', Rl x y H → Same H H' → Rl x y H') (hRu : ∀ x y H acc ys, Rl x y H → H D = some (.lst acc) → Rl x y (upd H D (.lst ys)))
    (hD : H1 D = none) (hs : SqL K H1 a (ps.map h)) (hz : ps.length ≤ sizeLine)
    (step : ∀ (i : Nat) p H (Ny : V → Hp → Prop), ps[i]? = some p → Same H1 H → (∀ y H4, Same H H4 → Rl p y H4 → Ny y H4) → g (h p) (wipe σ vs) H fun σ2 H2 => wipe σ2 vs = wipe σ vs ∧ te σ2 H2 Ny)
    (hd : ∀ H' ys, Same H1 H' → H' D = some (.lst ys) → ys.length = ps.length → (∀ (i : Nat) p y, ps[i]? = some p → ys[i]? = some y → Rl p y H') → Qd H') :
    ∃ W : Nat → Nat → Hp → Prop, (∃ m, W 0 m (upd H1 D (.lst []))) ∧ ∀ i m H, W i m H →
      ((Itl K a).stop i H ∧ Qd H) ∨ ((Itl K a).go i H ∧ ∃ Nx : Hp → Prop, (∀ H', Nx H' → ∃ m', m' < m ∧ W (i + 1) m' H') ∧ ∀ x H', (Itl K a).yld i H x H' → g x (wipe σ vs) H' fun σ2 H2 => wipe σ2 vs = wipe σ vs ∧ tYes σ2 H2 fun b H3 =>
        if b = true then te σ2 H3 fun y H4 => ∃ acc, H4 D = some (.lst acc) ∧ acc.length < sizeLine ∧ Nx (upd H4 D (.lst (acc ++ [y]))) else Nx H3) := by
  refine lc_list (K := K) (xs := ps.map h) (tt := tYes) (fun i H => Same H1 H ∧ ∃ ys, H D = some (.lst ys) ∧ ys.length = i ∧ ∀ (j : Nat) x y, ps[j]? = some x → ys[j]? = some y → Rl x y H) ⟨same_new hD, [], upd_same, rfl, fun j x y _ h => by simp at h⟩ (fun i H _ p => p.1.seq hs) (fun i x H hx p => ?_) (fun H p => ?_)
  · obtain ⟨s, ys, hl, hn, hr⟩ := p
    obtain ⟨p, hp, rfl⟩ : ∃ p, ps[i]? = some p ∧ x = h p := by
      rw [List.getElem?_map] at hx
      cases e : ps[i]? with
      | none => rw [e] at hx; cases hx
      | some p => rw [e] at hx; exact ⟨p, rfl, (Option.some.inj hx).symm⟩
    have hi : i < ps.length := (List.getElem?_eq_some_iff.mp hp).1
    refine step i p H (fun y H4 => ∃ acc, H4 D = some (.lst acc) ∧ acc.length < sizeLine ∧ (Same H1 (upd H4 D (.lst (acc ++ [y]))) ∧ ∃ ys, upd H4 D (.lst (acc ++ [y])) D = some (.lst ys) ∧ ys.length = i + 1 ∧ ∀ (j : Nat) x y', ps[j]? = some x → ys[j]? = some y' → Rl x y' (upd H4 D (.lst (acc ++ [y]))))) hp s (fun y H4 s4 hR => ⟨ys, s4 _ _ hl, by omega, fun b o e => ?_, ys ++ [y], upd_same, by simp [hn], fun j x' y' hx' hy' => hRu _ _ _ ys _ ?_ (s4 _ _ hl)⟩)
    · rw [upd_ne (ne_of_none e hD)]
      exact s4 _ _ (s _ _ e)
    · by_cases hj : j < ys.length
      · rw [List.getElem?_append_left hj] at hy'
        exact hRs _ _ _ _ (hr j x' y' hx' hy') s4
      · have hj2 : j < (ys ++ [y]).length := (List.getElem?_eq_some_iff.mp hy').1
        rw [List.length_append, List.length_singleton] at hj2
        have e : j = i := by omega
        subst e
        rw [List.getElem?_append_right (by omega), hn, Nat.sub_self] at hy'
        rw [hp] at hx'
        cases hx'
        cases hy'
        exact hR
  · obtain ⟨s, ys, hl, hn, hr⟩ := p
    exact hd H ys s hl (by rw [hn, List.length_map]) hr
end
theorem fm_if {α : Type} (P : α → Bool) (g : α → V) : ∀ ps : List α, ps.filterMap (fun p => if P p = true then some (g p) else none) = (ps.filter P).map g
  | [] => rfl
  | p :: ps => by
    rw [List.filterMap_cons, List.filter_cons]
    cases h : P p with
    | true => simp [fm_if P g ps]
    | false => simp [fm_if P g ps]
theorem fm_all {α : Type} (g : α → V) : ∀ ps : List α, ps.filterMap (fun p => some (g p)) = ps.map g
  | [] => rfl
  | p :: ps => by rw [List.filterMap_cons, List.map_cons, fm_all g ps]
theorem none_same {H H' : Hp} {D : Addr} (s : Same H H') (h : H' D = none) : H D = none := by
  cases e : H D with
  | none => rfl
  | some o => rw [s _ _ e] at h; cases h
def keyInts (kvs : List (Key × V)) : List Int := kvs.map fun kv => match kv.1 with
  | .inl i => i
  | _ => 0
theorem keyInts_eq {kvs : List (Key × V)} (h : ∀ k ∈ kvs.map (·.1), ∃ i, k = Sum.inl i) : kvs.map (·.1) = (keyInts kvs).map Sum.inl := by
  unfold keyInts
  rw [List.map_map]
  refine List.map_congr_left fun kv hk => ?_
  obtain ⟨i, hi⟩ := h kv.1 (List.mem_map_of_mem hk)
  show kv.1 = _
  rw [hi]
  show _ = Sum.inl (match kv.1 with | .inl i => i | _ => 0)
  rw [hi]
theorem mem_keyInts {kvs : List (Key × V)} (h : ∀ k ∈ kvs.map (·.1), ∃ i, k = Sum.inl i) {x : Int} : x ∈ keyInts kvs ↔ Sum.inl x ∈ kvs.map (·.1) := by
  rw [keyInts_eq h, List.mem_map]
  exact ⟨fun e => ⟨x, e, rfl⟩, fun ⟨y, e1, e2⟩ => by cases e2; exact e1⟩
theorem nd_keyInts {kvs : List (Key × V)} (h : ∀ k ∈ kvs.map (·.1), ∃ i, k = Sum.inl i) (hn : (kvs.map (·.1)).Nodup) : (keyInts kvs).Nodup := by
  rw [keyInts_eq h] at hn
  exact List.Pairwise.imp (fun q e => q (by rw [e])) (List.pairwise_map.mp hn)
theorem up_cast {l : List Nat} (h : l.Pairwise (· < ·)) : (l.map fun p : Nat => (p : Int)).Pairwise (· < ·) := List.pairwise_map.mpr (h.imp fun q => by omega)
theorem map_ints (l : List Nat) : (l.map fun p : Nat => (p : Int)).map V.int = l.map fun p : Nat => V.int (p : Int) := by rw [List.map_map]; rfl
/-! ### the defs of rooms keep their promises: what only reads -/
section
variable (A : Ad) (na : NA A)
include na
theorem pure_fullest_first (vs : List V) (H : Hp) (Q : VK) (E : XK) (h : sp_fullest_first A vs H Q E) : t_fullest_first A E { nx := fun _ H' => Q .non H', rt := Q } (start ["shelf"] vs) H := by
  obtain ⟨a, fl, td, pg, sz, row, rfl, hS, q⟩ := h
  obtain ⟨dx, h1⟩ := hS.ob
  unfold t_fullest_first
  walk_at "rd"
  refine r_recv h1 (sf_no _ _ _ _ (by decide +kernel) (by decide +kernel) (by decide +kernel) (by decide +kernel)) ?_
  walk_at "rd"
  refine ⟨a, fl, td, pg, sz, row, rfl, hS, ?_⟩
  walk_at "rd"
  refine r_fldR h1 na.cl_Shelf na.na_Shelf_page (sf_page _ _ _ _) ?_
  walk_at "rd"
  exact ⟨by show 2 ≤ sizeLine; decide, q⟩
theorem pure_Room__all (vs : List V) (H : Hp) (Q : VK) (E : XK) (h : sp_Room__all A vs H Q E) : t_Room__all A E { nx := fun _ H' => Q .non H', rt := Q } (start ["self", "page"] vs) H := by
  obtain ⟨r, w, C, pl, m, n, xs, bs, hf, rfl, R, q⟩ := h
  obtain ⟨dr, hr, _⟩ := R.ob
  obtain ⟨kS, hS, _, k1, k2, k3⟩ := R.sd
  have kI : ∀ k ∈ kS.map (·.1), ∃ i, k = Sum.inl i := fun k hk => by
    obtain ⟨p, e, _⟩ := k2 k hk
    exact ⟨_, e⟩
  have hlen : bs.length ≤ 40 := by rw [R.wf.len]; have := R.pb; omega
  unfold t_Room__all
  walk_at "rd"
  refine r_fldR hr na.cl_Room na.na_Room__shelves (rf_shelves _ _ _) ?_
  walk_at "rd"
  refine r_sortD hS (keyInts_eq kI) fun ys p p1 p2 hp => ?_
  have ey : ys = (pagesOf bs).map fun p : Nat => (p : Int) := by
    refine up_unique (up_cast (pages_up bs)) p2 (p1.trans (perm_of_mem (nd_keyInts kI k1) (nodup_of_lt (up_cast (pages_up bs))) fun x => ?_))
    rw [mem_keyInts kI]
    constructor
    · intro hx
      obtain ⟨p, e, hs⟩ := k2 _ hx
      cases e
      exact List.mem_map.mpr ⟨p, mem_pages.mpr hs, rfl⟩
    · intro hx
      obtain ⟨p, hp, rfl⟩ := List.mem_map.mp hx
      exact valV_in (k3 p (mem_pages.mp hp))
  rw [ey, map_ints]
  refine ⟨p, rfl, ⟨_, toL upd_same⟩, fun D hD => lc_pm (fun p => some (.ref (C.sa p))) hD (toL upd_same) (Nat.le_trans (pages_le bs) (Nat.le_trans hlen (by decide))) (fun i x H2 Ny Nn hx s hy hn => ?_) fun H' s hH => ?_⟩
  · walk_at "rd"
    refine ⟨rfl, ?_⟩
    walk_at "rd"
    have s1 := (same_new (o := .lst ((pagesOf bs).map fun p : Nat => V.int (p : Int))) hp).trans s
    refine r_fldR (s1 _ _ hr) na.cl_Room na.na_Room__shelves (rf_shelves _ _ _) ?_
    walk_at "rd"
    refine r_dgetI (s1 _ _ hS) (k3 x (mem_pages.mp (List.mem_of_getElem? hx))) ?_
    exact hy _ _ (Same.refl _) rfl
  · rw [fm_all] at hH
    exact q _ _ ((same_new hp).trans s) (none_same (same_new hp) hD) hH
theorem pure_Room__of_size (vs : List V) (H : Hp) (Q : VK) (E : XK) (h : sp_Room__of_size A vs H Q E) : t_Room__of_size A E { nx := fun _ H' => Q .non H', rt := Q } (start ["self", "size", "shelf"] vs) H := by
  obtain ⟨r, w, C, pl, m, n, xs, bs, hf, s, rfl, R, q⟩ := h
  obtain ⟨dr, hr, _⟩ := R.ob
  have hlen : bs.length ≤ 40 := by rw [R.wf.len]; have := R.pb; omega
  unfold t_Room__of_size
  walk_at "rd"
  refine r_recv hr (rf_no _ _ _ (by decide +kernel) (by decide +kernel) (by decide +kernel)) ?_
  walk_at "rd"
  refine ⟨r, w, C, pl, m, n, xs, bs, hf, rfl, R, fun H1 D0 s0 hD0 hl0 => ?_⟩
  refine ⟨D0, rfl, ⟨_, toL hl0⟩, fun D hD => lc_pm (fun p => if decide (szAt bs p = s) = true then some (V.ref (C.sa p)) else none) hD (toL hl0) (Nat.le_trans (pages_le bs) (Nat.le_trans hlen (by decide))) (fun i x H2 Ny Nn hx sx hy hn => ?_) fun H' sx hH => ?_⟩
  · walk_at "rd"
    refine ⟨rfl, ?_⟩
    walk_at "rd"
    obtain ⟨⟨⟨dx, ho⟩, _⟩, _⟩ := R.sh x (mem_pages.mp (List.mem_of_getElem? hx))
    refine r_fldR (sx _ _ (s0 _ _ ho)) na.cl_Shelf na.na_Shelf_size (sf_size _ _ _ _) ?_
    walk_at "rd"
    refine r_ifd (fun h1 => ?_) (fun h1 => ?_)
    · walk_at "rd"
      exact hy _ _ (Same.refl _) (if_pos (decide_eq_true h1))
    · exact hn _ (Same.refl _) (if_neg (by rw [decide_eq_false h1]; exact Bool.false_ne_true))
  · rw [fm_if] at hH
    exact q _ _ (s0.trans sx) (none_same s0 hD) hH
theorem pure_Room__unused (vs : List V) (H : Hp) (Q : VK) (E : XK) (h : sp_Room__unused A vs H Q E) : t_Room__unused A E { nx := fun _ H' => Q .non H', rt := Q } (start ["self", "shelf"] vs) H := by
  obtain ⟨r, w, C, pl, m, n, xs, bs, hf, rfl, R, q⟩ := h
  obtain ⟨dr, hr, _⟩ := R.ob
  have hlen : bs.length ≤ 40 := by rw [R.wf.len]; have := R.pb; omega
  unfold t_Room__unused
  walk_at "rd"
  refine r_recv hr (rf_no _ _ _ (by decide +kernel) (by decide +kernel) (by decide +kernel)) ?_
  walk_at "rd"
  refine ⟨r, w, C, pl, m, n, xs, bs, hf, rfl, R, fun H1 D0 s0 hD0 hl0 => ?_⟩
  refine ⟨D0, rfl, ⟨_, toL hl0⟩, fun D hD => lc_pm (fun p => if decide (outAt bs p = 0) = true then some (V.ref (C.sa p)) else none) hD (toL hl0) (Nat.le_trans (pages_le bs) (Nat.le_trans hlen (by decide))) (fun i x H2 Ny Nn hx sx hy hn => ?_) fun H' sx hH => ?_⟩
  · walk_at "rd"
    refine ⟨rfl, ?_⟩
    walk_at "rd"
    obtain ⟨hS, _⟩ := R.sh x (mem_pages.mp (List.mem_of_getElem? hx))
    obtain ⟨dx, ho⟩ := hS.ob
    have s2 := s0.trans sx
    refine r_recv (s2 _ _ ho) (sf_no _ _ _ _ (by decide +kernel) (by decide +kernel) (by decide +kernel) (by decide +kernel)) ?_
    walk_at "rd"
    refine ⟨_, _, _, _, _, _, rfl, hS.sm s2, ?_⟩
    walk_at "rd"
    refine r_ifd (fun h1 => ?_) (fun h1 => ?_)
    · walk_at "rd"
      exact hy _ _ (Same.refl _) (if_pos (decide_eq_true (by unfold outAt; omega)))
    · exact hn _ (Same.refl _) (if_neg (by rw [decide_eq_false (by unfold outAt; omega)]; exact Bool.false_ne_true))
  · rw [fm_if] at hH
    exact q _ _ (s0.trans sx) (none_same s0 hD) hH
theorem pure_Room_pile (vs : List V) (H : Hp) (Q : VK) (E : XK) (h : sp_Room_pile A vs H Q E) : t_Room_pile A E { nx := fun _ H' => Q .non H', rt := Q } (start ["self", "page"] vs) H := by
  obtain ⟨r, w, C, pl, m, n, xs, bs, hf, rfl, R, q⟩ := h
  obtain ⟨dr, hr, _⟩ := R.ob
  obtain ⟨kS, hS, _, k1, k2, k3⟩ := R.sd
  obtain ⟨dp, l, hp, _⟩ := R.plan
  have hb := R.pb
  have hlen : bs.length = m.toNat := R.wf.len
  unfold t_Room_pile
  walk_at "rd"
  refine r_fldR hr na.cl_Room na.na_Room__plan (rf_plan _ _ _) ?_
  walk_at "rd"
  refine r_fldR hp na.cl_Plan na.na_Plan_pages (pf_pages _ _ _) ?_
  walk_at "rd"
  refine ⟨_, rfl, by omega, by omega, fun D hD => ?_⟩
  refine lc_fmR (fun i : Nat => if (!isSh bs i) = true then some (V.int (i : Int)) else none) hD (Nat.le_trans (m := 40) (by omega) (by decide)) (fun i H2 Ny Nn hi s hy hn => ?_) fun H2 s2 hD2 => ?_
  · walk_at "rd"
    refine ⟨rfl, ?_⟩
    walk_at "rd"
    refine r_fldR (s _ _ hr) na.cl_Room na.na_Room__shelves (rf_shelves _ _ _) ?_
    refine r_dinI (s _ _ hS) ?_
    rw [Int.zero_add] at *
    cases hv : isSh bs i with
    | true =>
      rw [k3 i hv]
      refine ⟨_, rfl, r_ifF ?_⟩
      exact hn _ (Same.refl _) (by rw [hv]; rfl)
    | false =>
      have e : valV kS (.inl (i : Int)) = none := by
        cases e : valV kS (.inl (i : Int)) with
        | none => rfl
        | some v =>
          obtain ⟨p, e1, e2⟩ := k2 _ (valV_in e)
          cases e1
          rw [hv] at e2
          cases e2
      rw [e]
      refine ⟨_, rfl, r_ifT ?_⟩
      walk_at "rd"
      exact hy _ _ (Same.refl _) (by rw [hv]; rfl)
  · rw [fm_if] at hD2
    refine q _ _ s2 hD ?_
    rw [hD2]
    unfold pileOf
    rw [hlen]
    rfl
theorem pure_Room__page_of (vs : List V) (H : Hp) (Q : VK) (E : XK) (h : sp_Room__page_of A vs H Q E) : t_Room__page_of A E { nx := fun _ H' => Q .non H', rt := Q } (start ["self", "place"] vs) H := by
  obtain ⟨r, w, C, pl, m, n, xs, bs, hf, x, rfl, R, q⟩ := h
  obtain ⟨dr, hr, _⟩ := R.ob
  obtain ⟨dp, l, hp, _⟩ := R.plan
  have hb := R.pb
  unfold t_Room__page_of
  walk_at "rd"
  refine r_fldR hr na.cl_Room na.na_Room__plan (rf_plan _ _ _) ?_
  walk_at "rd"
  refine r_fldR hp na.cl_Plan na.na_Plan_length (pf_length _ _ _) ?_
  walk_at "rd"
  exact q
theorem pure_Room__check_out (vs : List V) (H : Hp) (Q : VK) (E : XK) (h : sp_Room__check_out A vs H Q E) : t_Room__check_out A E { nx := fun _ H' => Q .non H', rt := Q } (start ["self", "place"] vs) H := by
  obtain ⟨r, w, C, pl, m, n, xs, bs, hf, x, rfl, R, q0, q⟩ := h
  obtain ⟨dr, hr, _⟩ := R.ob
  obtain ⟨kH, hH, _, _, _, hv⟩ := R.hd
  unfold t_Room__check_out
  walk_at "rd"
  refine r_fldR hr na.cl_Room na.na_Room__held (rf_held _ _ _) ?_
  refine r_dinI hH ?_
  rw [hv x]
  cases e : hf x with
  | none =>
    refine ⟨_, rfl, r_ifT ?_⟩
    exact q0 e
  | some c =>
    refine ⟨_, rfl, r_ifF ?_⟩
    walk_at "rd"
    exact q (by rw [e]; exact nofun)
theorem pure_Room__check_step (vs : List V) (H : Hp) (Q : VK) (E : XK) (h : sp_Room__check_step A vs H Q E) : t_Room__check_step A E { nx := fun _ H' => Q .non H', rt := Q } (start ["self", "place", "step"] vs) H := by
  obtain ⟨r, w, C, pl, m, n, xs, bs, hf, x, i, rfl, R, q0, q⟩ := h
  obtain ⟨dr, hr, _⟩ := R.ob
  obtain ⟨kH, hH, _, _, _, hv⟩ := R.hd
  unfold t_Room__check_step
  walk_at "rd"
  refine r_recv hr (rf_no _ _ _ (by decide +kernel) (by decide +kernel) (by decide +kernel)) ?_
  walk_at "rd"
  refine ⟨r, w, C, pl, m, n, xs, bs, hf, x, rfl, R, q0, fun hx => ?_⟩
  obtain ⟨c, hc⟩ : ∃ c, hf x = some c := by
    cases e : hf x with
    | none => exact absurd e hx
    | some c => exact ⟨c, rfl⟩
  obtain ⟨q1, q2⟩ := q c hc
  walk_at "rd"
  refine r_ifd (fun h1 => ?_) (fun h1 => ?_)
  · exact q1 (.inl h1)
  · walk_at "rd"
    refine r_fldR hr na.cl_Room na.na_Room__held (rf_held _ _ _) ?_
    walk_at "rd"
    refine r_dgetI hH (by rw [hv x, hc]; rfl) ?_
    walk_at "rd"
    refine r_lenL (toL (R.hl x c hc).1) ?_
    walk_at "rd"
    refine r_ifd (fun h2 => ?_) (fun h2 => ?_)
    · exact q1 (.inr h2)
    · walk_at "rd"
      exact q2 (by omega)
theorem pure_Room_read (vs : List V) (H : Hp) (Q : VK) (E : XK) (h : sp_Room_read A vs H Q E) : t_Room_read A E { nx := fun _ H' => Q .non H', rt := Q } (start ["self", "place", "step"] vs) H := by
  obtain ⟨r, w, C, pl, m, n, xs, bs, hf, x, i, rfl, R, q0, q⟩ := h
  obtain ⟨dr, hr, _⟩ := R.ob
  obtain ⟨kH, hH, _, _, _, hv⟩ := R.hd
  unfold t_Room_read
  walk_at "rd"
  refine r_recv hr (rf_no _ _ _ (by decide +kernel) (by decide +kernel) (by decide +kernel)) ?_
  walk_at "rd"
  refine ⟨r, w, C, pl, m, n, xs, bs, hf, x, i, rfl, R, q0, fun c hc => ⟨(q c hc).1, fun hi => ?_⟩⟩
  obtain ⟨k, rfl⟩ : ∃ k : Nat, i = k := ⟨i.toNat, by omega⟩
  have hk : k < c.length := by omega
  walk_at "rd"
  refine r_fldR hr na.cl_Room na.na_Room__held (rf_held _ _ _) ?_
  walk_at "rd"
  refine r_dgetI hH (by rw [hv x, hc]; rfl) ?_
  walk_at "rd"
  refine r_ixL (toL (R.hl x c hc).1) rfl (List.getElem?_eq_getElem hk) ?_
  exact (q c hc).2 k rfl _ (List.getElem?_eq_getElem hk)
end

/-! ### comprehensions over a dict's keys -/
section
variable {K : PySem.W.Frag} {σ : L2.St}
theorem r_lcKF {ts : TE} {C dx : Addr} {f : Str} {g : TG} {tt : TT} {te : TE} {vs : List Nat} {H : Hp} {Q : VK} {a d : Addr} {o : Obj} {kvs : List (Key × V)} {fs : List (Str × V)} (hs : ∀ Q', Q' (.ref a) H → ts σ H Q') (ha : H a = some (.ins C dx fs)) (hc : Cls K C) (hn : NoAttr K C f) (hl : fs.lookup f = some (.ref d)) (hd : H d = some (.frz o (.dK kvs)))
    (h : ∀ D, H D = none → ∃ W : Nat → Nat → Hp → Prop, (∃ m, W 0 m (upd H D (.lst []))) ∧ ∀ i m H, W i m H →
    ((Itk d o kvs).stop i H ∧ Q (.ref D) H) ∨ ((Itk d o kvs).go i H ∧ ∃ Nx : Hp → Prop, (∀ H', Nx H' → ∃ m', m' < m ∧ W (i + 1) m' H') ∧ ∀ x H', (Itk d o kvs).yld i H x H' → g x (wipe σ vs) H' fun σ2 H2 => wipe σ2 vs = wipe σ vs ∧ tt σ2 H2 fun b H3 =>
      if b = true then te σ2 H3 fun y H4 => ∃ acc, H4 D = some (.lst acc) ∧ acc.length < sizeLine ∧ Nx (upd H4 D (.lst (acc ++ [y]))) else Nx H3)) : tLc (iKeys (tFld K ts f)) g tt te vs σ H Q :=
  hs _ ⟨a, C, dx, fs, .ref d, rfl, ha, hc, hn, hl, d, o, rfl, .inl ⟨kvs, hd, h⟩⟩
theorem lc_kr {d : Addr} {o : Obj} {kvs : List (Key × V)} {ns : List Int} {g : TG} {te : TE} {vs : List Nat} {H1 : Hp} {D : Addr} {Qd : Hp → Prop} (Rl : Int → V → Hp → Prop) (hRs : ∀ x y H H', Rl x y H → Same H H' → Rl x y H') (hRu : ∀ x y H acc ys, Rl x y H → H D = some (.lst acc) → Rl x y (upd H D (.lst ys)))
    (hD : H1 D = none) (hk : kvs.map (·.1) = ns.map Sum.inl) (hs : H1 d = some (.frz o (.dK kvs))) (hz : ns.length ≤ sizeLine)
    (step : ∀ (i : Nat) x H (Ny : V → Hp → Prop), ns[i]? = some x → Same H1 H → (∀ y H4, Same H H4 → Rl x y H4 → Ny y H4) → g (.int x) (wipe σ vs) H fun σ2 H2 => wipe σ2 vs = wipe σ vs ∧ te σ2 H2 Ny)
    (hd : ∀ H' ys, Same H1 H' → H' D = some (.lst ys) → ys.length = ns.length → (∀ (i : Nat) x y, ns[i]? = some x → ys[i]? = some y → Rl x y H') → Qd H') :
    ∃ W : Nat → Nat → Hp → Prop, (∃ m, W 0 m (upd H1 D (.lst []))) ∧ ∀ i m H, W i m H →
      ((Itk d o kvs).stop i H ∧ Qd H) ∨ ((Itk d o kvs).go i H ∧ ∃ Nx : Hp → Prop, (∀ H', Nx H' → ∃ m', m' < m ∧ W (i + 1) m' H') ∧ ∀ x H', (Itk d o kvs).yld i H x H' → g x (wipe σ vs) H' fun σ2 H2 => wipe σ2 vs = wipe σ vs ∧ tYes σ2 H2 fun b H3 =>
        if b = true then te σ2 H3 fun y H4 => ∃ acc, H4 D = some (.lst acc) ∧ acc.length < sizeLine ∧ Nx (upd H4 D (.lst (acc ++ [y]))) else Nx H3) := by
  have hkl : kvs.length = ns.length := by have := congrArg List.length hk; simpa using this
  refine ⟨fun i m H => i ≤ ns.length ∧ m = ns.length - i ∧ Same H1 H ∧ ∃ ys, H D = some (.lst ys) ∧ ys.length = i ∧ ∀ (j : Nat) x y, ns[j]? = some x → ys[j]? = some y → Rl x y H, ⟨_, Nat.zero_le _, rfl, same_new hD, [], upd_same, rfl, fun j x y _ h => by simp at h⟩, fun i m H ⟨hi, hm, s, ys, hl, hn, hr⟩ => ?_⟩
  by_cases e : i = ns.length
  · exact .inl ⟨⟨s _ _ hs, by omega⟩, hd H ys s hl (by omega) hr⟩
  · have hi2 : i < ns.length := by omega
    refine .inr ⟨⟨s _ _ hs, by omega⟩, fun H' => ∃ m', m' < m ∧ (i + 1 ≤ ns.length ∧ m' = ns.length - (i + 1) ∧ Same H1 H' ∧ ∃ ys, H' D = some (.lst ys) ∧ ys.length = i + 1 ∧ ∀ (j : Nat) x y, ns[j]? = some x → ys[j]? = some y → Rl x y H'), fun H' h => h, fun x H' ⟨e1, k, v, e2, e3⟩ => ?_⟩
    subst e1
    have e4 : (kvs.map (·.1))[i]? = some k := by rw [List.getElem?_map, e2]; rfl
    rw [hk, List.getElem?_map, List.getElem?_eq_getElem hi2] at e4
    have e5 : k = Sum.inl ns[i] := (Option.some.inj e4).symm
    subst e5
    subst e3
    have hp : ns[i]? = some ns[i] := List.getElem?_eq_getElem hi2
    refine step i ns[i] H' (fun y H4 => ∃ acc, H4 D = some (.lst acc) ∧ acc.length < sizeLine ∧ ∃ m', m' < m ∧ (i + 1 ≤ ns.length ∧ m' = ns.length - (i + 1) ∧ Same H1 (upd H4 D (.lst (acc ++ [y]))) ∧ ∃ ys, upd H4 D (.lst (acc ++ [y])) D = some (.lst ys) ∧ ys.length = i + 1 ∧ ∀ (j : Nat) x y', ns[j]? = some x → ys[j]? = some y' → Rl x y' (upd H4 D (.lst (acc ++ [y]))))) hp s (fun y H4 s4 hR => ⟨ys, s4 _ _ hl, by omega, ns.length - (i + 1), by omega, by omega, rfl, fun b o e => ?_, ys ++ [y], upd_same, by simp [hn], fun j x' y' hx' hy' => hRu _ _ _ ys _ ?_ (s4 _ _ hl)⟩)
    · rw [upd_ne (ne_of_none e hD)]
      exact s4 _ _ (s _ _ e)
    · by_cases hj : j < ys.length
      · rw [List.getElem?_append_left hj] at hy'
        exact hRs _ _ _ _ (hr j x' y' hx' hy') s4
      · have hj2 : j < (ys ++ [y]).length := (List.getElem?_eq_some_iff.mp hy').1
        rw [List.length_append, List.length_singleton] at hj2
        have e : j = i := by omega
        subst e
        rw [List.getElem?_append_right (by omega), hn, Nat.sub_self] at hy'
        rw [hp] at hx'
        cases hx'
        cases hy'
        exact hR
end
/-- what a pair in the heap says -/
def kdOf (H : Hp) (v : V) : Int × Int := match v with
  | .ref t => match H t with
    | some (.tup [.int a, .int b]) => (a, b)
    | _ => (0, 0)
  | _ => (0, 0)
theorem kdOf_at {H : Hp} {t : Addr} {a b : Int} (h : H t = some (.tup [.int a, .int b])) : kdOf H (.ref t) = (a, b) := by
  unfold kdOf
  show (match H t with | some (.tup [.int a, .int b]) => (a, b) | _ => ((0 : Int), (0 : Int))) = _
  rw [h]
theorem lexB_le {p q : Int × Int} (h : SrtO.lexB q p = false) : p.1 ≤ q.1 := by
  unfold SrtO.lexB at h
  by_cases e : q.1 = p.1
  · omega
  · rw [if_neg e] at h
    have := of_decide_eq_false h
    omega
/-- sorted pairs are the rising ones -/
theorem sorted_pairs {H : Hp} {ys xs : List V} {ts : List (Int × Int)} (hs : SrtO.Srtd (ltP (kdOf H)) ys) (hp : ys.Perm xs) (hx : (xs.map (kdOf H)).Perm ts) (hu : (ts.map (·.1)).Pairwise (· < ·)) : ys.map (kdOf H) = ts := by
  have p1 : (ys.map (kdOf H)).Perm ts := (hp.map _).trans hx
  refine pairs_eq (nodup_of_lt hu) p1 (up_unique hu ?_ (p1.map _))
  rw [List.map_map, List.pairwise_map]
  exact hs.imp fun {a b} h => lexB_le h
/-- five ways to stay: the frozen dict put back -/
theorem same_frz {H H' : Hp} {d : Addr} {o : Obj} {u : HO} (hd : H d = some u) (s : Same (upd H d (.frz o u)) H') : Same H (upd H' d u) := fun b v e => by
  by_cases hb : b = d
  · subst hb
    rw [hd] at e
    cases e
    exact upd_same
  · rw [upd_ne hb]
    exact s _ _ ((upd_ne hb).trans e)
section
variable (A : Ad) (na : NA A)
include na
theorem pure_Room_shelves (vs : List V) (H : Hp) (Q : VK) (E : XK) (h : sp_Room_shelves A vs H Q E) : t_Room_shelves A E { nx := fun _ H' => Q .non H', rt := Q } (start ["self", "shelf"] vs) H := by
  obtain ⟨r, w, C, pl, m, n, xs, bs, hf, rfl, R, q⟩ := h
  obtain ⟨dr, hr, _⟩ := R.ob
  have hlen : bs.length ≤ 40 := by rw [R.wf.len]; have := R.pb; omega
  unfold t_Room_shelves
  walk_at "rd"
  refine r_recv hr (rf_no _ _ _ (by decide +kernel) (by decide +kernel) (by decide +kernel)) ?_
  walk_at "rd"
  refine ⟨r, w, C, pl, m, n, xs, bs, hf, rfl, R, fun H1 D0 s0 hD0 hl0 => ?_⟩
  refine ⟨D0, rfl, ⟨_, toL hl0⟩, fun D hD => lc_rm (fun (p : Nat) y H' => ∃ t, y = .ref t ∧ H' t = some (.tup [.int (p : Int), .int (szAt bs p), .int ((outAt bs p : Nat) : Int)]) ∧ own (w t) = false) (fun x y Ha Hb ⟨t, e1, e2, e3⟩ s => ⟨t, e1, s _ _ e2, e3⟩) (fun x y Ha acc ys ⟨t, e1, e2, e3⟩ hd => ⟨t, e1, by rw [upd_ne (ne_of e2 hd (by intro z; cases z))]; exact e2, e3⟩) hD (toL hl0) (Nat.le_trans (pages_le bs) (Nat.le_trans hlen (by decide))) (fun i x H2 Ny hx sx hy => ?_) fun H' ys sx hH hyl hR => ?_⟩
  · walk_at "rd"
    refine ⟨rfl, ?_⟩
    walk_at "rd"
    obtain ⟨hS, _⟩ := R.sh x (mem_pages.mp (List.mem_of_getElem? hx))
    obtain ⟨dx, ho⟩ := hS.ob
    have s2 := s0.trans sx
    refine r_fldR (s2 _ _ ho) na.cl_Shelf na.na_Shelf_page (sf_page _ _ _ _) ?_
    walk_at "rd"
    refine r_fldR (s2 _ _ ho) na.cl_Shelf na.na_Shelf_size (sf_size _ _ _ _) ?_
    walk_at "rd"
    refine r_recv (s2 _ _ ho) (sf_no _ _ _ _ (by decide +kernel) (by decide +kernel) (by decide +kernel) (by decide +kernel)) ?_
    walk_at "rd"
    refine ⟨_, _, _, _, _, _, rfl, hS.sm s2, ?_⟩
    walk_at "rd"
    refine ⟨by show 3 ≤ sizeLine; decide, fun t ht => ?_⟩
    exact hy _ _ (same_new ht) ⟨t, rfl, upd_same, by rw [R.free (none_same s2 ht)]; rfl⟩
  · refine q _ _ ys (s0.trans sx) (none_same s0 hD) hH ⟨by rw [hyl]; unfold shelvesOf; rw [List.length_map], fun i y t h1 h2 => ?_⟩
    unfold shelvesOf at h2
    rw [List.getElem?_map] at h2
    cases e : (pagesOf bs)[i]? with
    | none => rw [e] at h2; cases h2
    | some p =>
      rw [e] at h2
      cases h2
      exact hR i p y e h1
theorem pure_Room_things (vs : List V) (H : Hp) (Q : VK) (E : XK) (h : sp_Room_things A vs H Q E) : t_Room_things A E { nx := fun _ H' => Q .non H', rt := Q } (start ["self", "place"] vs) H := by
  obtain ⟨r, w, C, pl, m, n, xs, bs, hf, rfl, R, hc, q⟩ := h
  obtain ⟨dr, hr, _⟩ := R.ob
  obtain ⟨kH, hH, wH, k1, k2, k3⟩ := R.hd
  have nrd : r ≠ C.dh := ne_of hr hH (by intro z; cases z)
  have hkn := nd_keyInts k2 k1
  have hdom : ∀ x ∈ keyInts kH, ∃ c, hf x = some c := fun x hx => by
    have hv := nd_keys.mpr ((mem_keyInts k2).mp hx)
    rw [k3 x] at hv
    cases e : hf x with
    | none => rw [e] at hv; cases hv
    | some c => exact ⟨c, rfl⟩
  have hdom2 : ∀ x c, hf x = some c → x ∈ keyInts kH := fun x c e => (mem_keyInts k2).mpr (nd_keys.mp (by rw [k3 x, e]; rfl))
  have hlen : (keyInts kH).length ≤ sizeLine := by
    have hsub : ∀ x ∈ keyInts kH, x ∈ (List.range 2400).map fun i : Nat => (i : Int) := fun x hx => by
      obtain ⟨c, e⟩ := hdom x hx
      have := R.hb x (by rw [e]; exact nofun)
      exact List.mem_map.mpr ⟨x.toNat, List.mem_range.mpr (by omega), by omega⟩
    have := hkn.length_le_of_subset hsub
    rw [List.length_map, List.length_range] at this
    exact Nat.le_trans this (by decide)
  unfold t_Room_things
  walk_at "rd"
  refine ⟨C.dh, .dK kH, hH, trivial, fun od => ?_⟩
  have hrF : upd H C.dh (.frz od (.dK kH)) r = some (.ins A.c_Room dr (roomF pl C.ds C.dh)) := (upd_ne nrd).trans hr
  refine r_lcKF (fun Q' h => r_var rfl h) hrF na.cl_Room na.na_Room__held (rf_held _ _ _) upd_same fun D hD => ?_
  have hDn : D ≠ C.dh := Ne.symm (ne_of_none upd_same hD)
  have hD0 : H D = none := by rw [upd_ne hDn] at hD; exact hD
  refine lc_kr (fun x y H' => ∃ t c, y = .ref t ∧ hf x = some c ∧ H' t = some (.tup [.int x, .int (c.length : Int)]) ∧ H t = none) (fun x y Ha Hb ⟨t, c, e1, e2, e3, e4⟩ s => ⟨t, c, e1, e2, s _ _ e3, e4⟩) (fun x y Ha acc ys ⟨t, c, e1, e2, e3, e4⟩ hd => ⟨t, c, e1, e2, by rw [upd_ne (ne_of e3 hd (by intro z; cases z))]; exact e3, e4⟩) hD (keyInts_eq k2) upd_same hlen (fun i x H2 Ny hx sx hy => ?_) fun H' ys sx hl hyl hR => ?_
  · obtain ⟨c, ec⟩ := hdom x (List.mem_of_getElem? hx)
    have hca := (R.hl x c ec).1
    have nca : C.ha x ≠ C.dh := ne_of hca hH (by intro z; cases z)
    walk_at "rd"
    refine ⟨rfl, ?_⟩
    walk_at "rd"
    refine r_fldR (sx _ _ hrF) na.cl_Room na.na_Room__held (rf_held _ _ _) ?_
    walk_at "rd"
    refine r_dgetF (sx _ _ upd_same) (by rw [k3 x, ec]; rfl) ?_
    walk_at "rd"
    refine r_lenL (toL (sx _ _ ((upd_ne nca).trans hca))) ?_
    walk_at "rd"
    refine ⟨by show 2 ≤ sizeLine; decide, fun t ht => ?_⟩
    have ht0 := none_same sx ht
    have htn : t ≠ C.dh := Ne.symm (ne_of_none upd_same ht0)
    exact hy _ _ (same_new ht) ⟨t, c, rfl, ec, upd_same, by rw [upd_ne htn] at ht0; exact ht0⟩
  · refine ⟨sx _ _ upd_same, ?_⟩
    have sH := same_frz hH sx
    have hl2 : upd H' C.dh (.dK kH) D = some (.lst ys) := (upd_ne hDn).trans hl
    have hyk : ∀ (i : Nat) y, ys[i]? = some y → ∃ t x c, y = .ref t ∧ (keyInts kH)[i]? = some x ∧ hf x = some c ∧ upd H' C.dh (.dK kH) t = some (.tup [.int x, .int (c.length : Int)]) ∧ H t = none := fun i y hy => by
      have hi : i < (keyInts kH).length := by rw [← hyl]; exact (List.getElem?_eq_some_iff.mp hy).1
      obtain ⟨t, c, e1, e2, e3, e4⟩ := hR i _ y (List.getElem?_eq_getElem hi) hy
      exact ⟨t, _, c, e1, List.getElem?_eq_getElem hi, e2, by rw [upd_ne (Ne.symm (ne_of_none hH e4))]; exact e3, e4⟩
    walk_at "rd"
    refine r_sortP (kdOf (upd H' C.dh (.dK kH))) (toL hl2) (fun y hy => ?_) fun ys' p hS hSt hp => ?_
    · obtain ⟨i, hi⟩ := List.mem_iff_getElem?.mp hy
      obtain ⟨t, x, c, e1, e2, e3, e4, e5⟩ := hyk i y hi
      subst e1
      exact ⟨t, rfl, by rw [kdOf_at e4]; exact e4⟩
    · have hmap : ys.map (kdOf (upd H' C.dh (.dK kH))) = (keyInts kH).map fun x => (x, (((hf x).getD []).length : Int)) := by
        refine List.ext_getElem? fun i => ?_
        rw [List.getElem?_map, List.getElem?_map]
        cases e : ys[i]? with
        | none =>
          have := List.getElem?_eq_none_iff.mp e
          rw [List.getElem?_eq_none (by omega)]
          rfl
        | some y =>
          obtain ⟨t, x, c, e1, e2, e3, e4, e5⟩ := hyk i y e
          subst e1
          rw [e2]
          show some _ = some (x, (((hf x).getD []).length : Int))
          rw [kdOf_at e4, e3]
          rfl
      have hperm : (ys.map (kdOf (upd H' C.dh (.dK kH)))).Perm (thingsOf n bs) := by
        rw [hmap]
        refine con_perm R.okk hc ?_ fun x s => ?_
        · rw [List.map_map]
          show ((keyInts kH).map fun x => x).Nodup
          rw [List.map_id']
          exact hkn
        · rw [List.mem_map]
          constructor
          · rintro ⟨z, hz, e⟩
            obtain ⟨c, ec⟩ := hdom z hz
            rw [ec] at e
            cases e
            exact ⟨c, ec, rfl⟩
          · rintro ⟨c, ec, e⟩
            exact ⟨x, hdom2 x c ec, by rw [ec, ← e]; rfl⟩
      have he := sorted_pairs hS hSt.perm hperm (things_up R.okk)
      refine q _ p ys' (sH.trans (same_new hp)) (none_same sH hp) upd_same ⟨by rw [← he, List.length_map], fun i y t h1 h2 => ?_⟩
      obtain ⟨j, hj⟩ := List.mem_iff_getElem?.mp (hSt.perm.mem_iff.mp (List.mem_of_getElem? h1))
      obtain ⟨a, x, c, e1, e2, e3, e4, e5⟩ := hyk j y hj
      subst e1
      rw [← he, List.getElem?_map, h1] at h2
      have h3 : (kdOf (upd H' C.dh (.dK kH)) (.ref a)) = t := Option.some.inj h2
      rw [kdOf_at e4] at h3
      subst h3
      exact ⟨a, rfl, by rw [upd_ne (ne_of_none e4 hp)]; exact e4, by rw [R.free e5]; rfl⟩
theorem pure_Room__page_for_shelf (vs : List V) (H : Hp) (Q : VK) (E : XK) (h : sp_Room__page_for_shelf A vs H Q E) : t_Room__page_for_shelf A E { nx := fun _ H' => Q .non H', rt := Q } (start ["self", "pages", "shelf"] vs) H := by
  obtain ⟨r, w, C, pl, m, n, xs, bs, hf, rfl, R, q0, q⟩ := h
  obtain ⟨dr, hr, _⟩ := R.ob
  have hlen : bs.length ≤ 40 := by rw [R.wf.len]; have := R.pb; omega
  unfold t_Room__page_for_shelf
  walk_at "rd"
  refine r_recv hr (rf_no _ _ _ (by decide +kernel) (by decide +kernel) (by decide +kernel)) ?_
  walk_at "rd"
  refine ⟨r, w, C, pl, m, n, xs, bs, hf, rfl, R, fun H1 D0 s0 hD0 hl0 => ?_⟩
  walk_at "rd"
  refine r_truL (toL hl0) ?_
  have main : ∀ (H2 : Hp) (D2 : Addr) (ps : List Nat), Same H H2 → H2 D2 = some (.lst (pgs ps)) → ps.head? = pageFor bs → ∀ (v2 : Option V),
      ∃ k, TruV A.K (.ref D2) H2 k ∧ if (!k) = true then E (.ref A.c_NoRoom) none H2 else tNext { nx := tRet (tOp (rIxA A.K) (tVar 1) (tC (.int 0))) { nx := fun _ H' => Q .non H', rt := Q }, rt := Q } [some (.ref r), some (.ref D2), v2] H2 := by
    intro H2 D2 ps s2 h2 hp v2
    refine r_truL (toL h2) ?_
    cases ps with
    | nil =>
      refine r_ifT ?_
      exact q0 hp.symm _ s2
    | cons p ps =>
      refine r_ifF ?_
      walk_at "rd"
      refine r_ixL (n := 0) (toL h2) rfl rfl ?_
      exact q p hp.symm _ s2
  cases e : pileOf bs with
  | cons p ps =>
    rw [e] at hl0
    refine r_ifF ?_
    walk_at "rd"
    exact main H1 D0 (p :: ps) s0 hl0 (by unfold pageFor; rw [e]; rfl) _
  | nil =>
    refine r_ifT ?_
    walk_at "rd"
    refine r_recv (s0 _ _ hr) (rf_no _ _ _ (by decide +kernel) (by decide +kernel) (by decide +kernel)) ?_
    walk_at "rd"
    refine ⟨r, w, C, pl, m, n, xs, bs, hf, rfl, R.sm s0, fun H2 D2 s2 hD2 hl2 => ?_⟩
    have hs0 := s0.trans s2
    have hul : (unused bs).length ≤ sizeLine := Nat.le_trans (List.length_filter_le _ _) (Nat.le_trans (pages_le bs) (Nat.le_trans hlen (by decide)))
    refine ⟨D2, rfl, ⟨_, toL hl2⟩, fun D hD => lc_pm (fun p : Nat => some (V.int (p : Int))) hD (toL hl2) hul (fun i x H3 Ny Nn hx sx hy hn => ?_) fun H' sx hH => ?_⟩
    · walk_at "rd"
      refine ⟨rfl, ?_⟩
      walk_at "rd"
      obtain ⟨⟨⟨dx, ho⟩, _⟩, _⟩ := R.sh x (mem_unused.mp (List.mem_of_getElem? hx)).1
      refine r_fldR (sx _ _ (hs0 _ _ ho)) na.cl_Shelf na.na_Shelf_page (sf_page _ _ _ _) ?_
      exact hy _ _ (Same.refl _) rfl
    · rw [fm_all] at hH
      walk_at "rd"
      exact main H' D (unused bs) (hs0.trans sx) hH (by unfold pageFor; rw [e]; cases unused bs <;> rfl) _
end

/-! ### a room's heap changes -/
theorem keys_put (kvs : List (Key × V)) (k : Key) (v : V) : (putK kvs k v).map (·.1) = if (valV kvs k).isSome = true then kvs.map (·.1) else kvs.map (·.1) ++ [k] := by
  cases e : valV kvs k with
  | none =>
    rw [putK_new v e, List.map_append]
    rfl
  | some y =>
    rw [if_pos (show (some y).isSome = true from rfl)]
    unfold putK
    have : (kvs.any fun kv => decide (kv.1 = k)) = true := by
      rw [List.any_eq_true]
      obtain ⟨kv, h1, h2⟩ := List.mem_map.mp (valV_in e)
      exact ⟨kv, h1, decide_eq_true h2⟩
    rw [if_pos this, List.map_map]
    refine List.map_congr_left fun kv _ => ?_
    show (if kv.1 = k then (kv.1, v) else kv).1 = kv.1
    by_cases h : kv.1 = k
    · rw [if_pos h]
    · rw [if_neg h]
theorem nd_put {kvs : List (Key × V)} {k : Key} {v : V} (h : (kvs.map (·.1)).Nodup) : ((putK kvs k v).map (·.1)).Nodup := by
  rw [keys_put]
  by_cases e : (valV kvs k).isSome = true
  · rw [if_pos e]; exact h
  · rw [if_neg e]
    rw [nd_keys] at e
    rw [List.nodup_append]
    exact ⟨h, List.pairwise_singleton _ _, fun a ha b hb z => e (by rw [List.mem_singleton.mp hb] at z; rw [← z]; exact ha)⟩
theorem mem_put {kvs : List (Key × V)} {k j : Key} {v : V} : j ∈ (putK kvs k v).map (·.1) ↔ j = k ∨ j ∈ kvs.map (·.1) := by
  rw [← nd_keys, valV_put, ← nd_keys]
  by_cases e : j = k
  · rw [if_pos e]; exact ⟨fun _ => .inl e, fun _ => rfl⟩
  · rw [if_neg e]; exact ⟨fun h => .inr h, fun h => h.resolve_left e⟩
theorem nd_drop {kvs : List (Key × V)} {k : Key} (h : (kvs.map (·.1)).Nodup) : ((dropK kvs k).map (·.1)).Nodup := by
  rw [keys_drop]
  exact h.filter _
theorem mem_drop {kvs : List (Key × V)} {k j : Key} : j ∈ (dropK kvs k).map (·.1) ↔ j ≠ k ∧ j ∈ kvs.map (·.1) := by
  rw [keys_drop, List.mem_filter, decide_eq_true_eq]
  exact ⟨fun h => ⟨h.2, h.1⟩, fun h => ⟨h.2, h.1⟩⟩
section
variable {A : Ad} {H H' : Hp} {r : Addr} {w : Addr → Ow} {C : RC} {pl : Addr} {m n : Int} {xs : List Int} {bs : Bits} {hf : Held}
theorem RoomC.sa_inj (h : RoomC A H r w C pl m n xs bs hf) {p q : Nat} (hp : isSh bs p = true) (hq : isSh bs q = true) (e : C.sa p = C.sa q) : p = q := by
  have a := (h.sh p hp).2.1
  have b := (h.sh q hq).2.1
  rw [e, b] at a
  cases a
  rfl
/-- a shelf's slots change -/
theorem RoomC.shelf (h : RoomC A H r w C pl m n xs bs hf) {p : Nat} (hp : isSh bs p = true) {row : List Bool} (f : But2 (C.fl p) (C.td p) H H') (S : ShelfAt A H' (C.sa p) (C.fl p) (C.td p) p (szAt bs p) row) (hl : row.length = (rowAt bs p).length) :
    RoomC A H' r w C pl m n xs (bs.set p (some (szAt bs p, row))) hf ∧ Stp A w H w H' := by
  obtain ⟨⟨dx, l, a1, a2, a3, a4⟩, b, ⟨dr, c1, c2⟩, ⟨kS, d1, d2, d3, d4, d5⟩, e, ⟨kH, f1, f2⟩, g, i, j, k⟩ := h
  obtain ⟨e1, e2, e3, e4⟩ := e p hp
  have fr : ∀ b o, H b = some o → w b ≠ .sh p → H' b = some o := fun b o ho hb => f b o ho (by rintro rfl; exact hb e3) (by rintro rfl; exact hb e4)
  have hlt := sh_lt hp
  refine ⟨⟨⟨dx, l, fr _ _ a1 (by rw [a3]; exact nofun), fr _ _ a2 (by rw [a4]; exact nofun), a3, a4⟩, b, ⟨dr, fr _ _ c1 (by rw [c2]; exact nofun), c2⟩, ⟨kS, fr _ _ d1 (by rw [d2]; exact nofun), d2, d3, fun k hk => ?_, fun q hq => ?_⟩, fun q hq => ?_, ⟨kH, fr _ _ f1 (by rw [f2.1]; exact nofun), f2⟩, fun x c hx => ⟨fr _ _ (g x c hx).1 (by rw [(g x c hx).2.1]; exact nofun), (g x c hx).2⟩, wf_set i hlt (i.ok p hp).1 (by rw [hl]; exact (i.ok p hp).2), j, fun b hb => ?_⟩, RoomC.stp (bs := bs) (hf := hf) (C := C) (r := r) (pl := pl) (m := m) (n := n) (xs := xs) ⟨⟨dx, l, a1, a2, a3, a4⟩, b, ⟨dr, c1, c2⟩, ⟨kS, d1, d2, d3, d4, d5⟩, e, ⟨kH, f1, f2⟩, g, i, j, k⟩ (fun b o ho hw => fr b o ho (by intro z; rw [z] at hw; cases hw)) (fun _ _ _ _ => rfl)⟩
  · obtain ⟨q, h1, h2⟩ := d4 k hk
    refine ⟨q, h1, ?_⟩
    rw [isSh_set hlt]
    by_cases z : q = p
    · rw [if_pos z]; rfl
    · rw [if_neg z]; exact h2
  · rw [isSh_set hlt] at hq
    by_cases z : q = p
    · rw [z]; exact d5 p hp
    · rw [if_neg z] at hq; exact d5 q hq
  · rw [isSh_set hlt] at hq
    rw [szAt_set hlt, rowAt_set hlt]
    by_cases z : q = p
    · subst z
      rw [if_pos rfl, if_pos rfl]
      exact ⟨S, e2, e3, e4⟩
    · rw [if_neg z] at hq ⊢
      rw [if_neg z]
      obtain ⟨g1, g2, g3, g4⟩ := e q hq
      have nz : ∀ {b}, w b = .sh q → w b ≠ .sh p := fun h1 h2 => z (by rw [h1] at h2; cases h2; rfl)
      exact ⟨g1.same (fun o ho => fr _ _ ho (nz g2)) (fun o ho => fr _ _ ho (nz g3)) (fun o ho => fr _ _ ho (nz g4)), g2, g3, g4⟩
  · obtain ⟨o, ho, hpo⟩ := k b hb
    by_cases z1 : b = C.fl p
    · obtain ⟨ns, h1, _⟩ := S.fr
      exact ⟨_, by rw [z1]; exact h1, rfl⟩
    · by_cases z2 : b = C.td p
      · obtain ⟨ns, h1, _⟩ := S.tk
        exact ⟨_, by rw [z2]; exact h1, rfl⟩
      · exact ⟨o, f b o ho z1 z2, hpo⟩
/-- a shelf is taken out of the dict -/
theorem RoomC.del (h : RoomC A H r w C pl m n xs bs hf) {p : Nat} (hp : isSh bs p = true) : ∃ kS, H C.ds = some (.dK kS) ∧ (valV kS (.inl (p : Int))).isSome = true ∧
    RoomC A (upd H C.ds (.dK (dropK kS (.inl (p : Int))))) r w C pl m n xs (bs.set p none) hf ∧ Stp A w H w (upd H C.ds (.dK (dropK kS (.inl (p : Int))))) := by
  have hh := h
  obtain ⟨⟨dx, l, a1, a2, a3, a4⟩, b, ⟨dr, c1, c2⟩, ⟨kS, d1, d2, d3, d4, d5⟩, e, ⟨kH, f1, f2⟩, g, i, j, k⟩ := h
  refine ⟨kS, d1, by rw [d5 p hp]; rfl, ?_⟩
  have fr : ∀ b o, H b = some o → w b ≠ .ds → upd H C.ds (.dK (dropK kS (.inl (p : Int)))) b = some o := fun b o ho hb => (upd_ne (by rintro rfl; exact hb d2)).trans ho
  refine ⟨⟨⟨dx, l, fr _ _ a1 (by rw [a3]; exact nofun), fr _ _ a2 (by rw [a4]; exact nofun), a3, a4⟩, b, ⟨dr, fr _ _ c1 (by rw [c2]; exact nofun), c2⟩, ⟨_, upd_same, d2, nd_drop d3, fun k hk => ?_, fun q hq => ?_⟩, fun q hq => ?_, ⟨kH, fr _ _ f1 (by rw [f2.1]; exact nofun), f2⟩, fun x c hx => ⟨fr _ _ (g x c hx).1 (by rw [(g x c hx).2.1]; exact nofun), (g x c hx).2⟩, wf_drop i, j, fun b hb => ?_⟩, hh.stp (fun b o ho hw => fr b o ho (by intro z; rw [z] at hw; cases hw)) (fun _ _ _ _ => rfl)⟩
  · obtain ⟨h1, h2⟩ := mem_drop.mp hk
    obtain ⟨q, h3, h4⟩ := d4 k h2
    exact ⟨q, h3, isSh_drop.mpr ⟨fun z => h1 (by rw [h3, z]), h4⟩⟩
  · obtain ⟨h1, h2⟩ := isSh_drop.mp hq
    rw [valV_drop, if_neg (fun z => h1 (by have := Sum.inl.inj z; omega))]
    exact d5 q h2
  · obtain ⟨h1, h2⟩ := isSh_drop.mp hq
    rw [szAt_drop h1, rowAt_drop h1]
    obtain ⟨g1, g2, g3, g4⟩ := e q h2
    exact ⟨g1.same (fun o ho => fr _ _ ho (by rw [g2]; exact nofun)) (fun o ho => fr _ _ ho (by rw [g3]; exact nofun)) (fun o ho => fr _ _ ho (by rw [g4]; exact nofun)), g2, g3, g4⟩
  · obtain ⟨o, ho, hpo⟩ := k b hb
    by_cases z : b = C.ds
    · exact ⟨_, by rw [z]; exact upd_same, rfl⟩
    · exact ⟨o, (upd_ne z).trans ho, hpo⟩
/-- a new shelf is put into the dict -/
theorem RoomC.put (h : RoomC A H r w C pl m n xs bs hf) {p : Nat} (hp : p < bs.length) {s : Int} (hs : s ∈ xs) {a fl td : Addr} (s1 : Same H H') (n1 : H a = none) (n2 : H fl = none) (n3 : H td = none) (S : ShelfAt A H' a fl td p s (List.replicate (n / s).toNat false)) :
    ∃ kS, H' C.ds = some (.dK kS) ∧ kS.length ≤ 40 ∧ RoomC A (upd H' C.ds (.dK (putK kS (.inl (p : Int)) (.ref a)))) r (fun b => if b = a ∨ b = fl ∨ b = td then .sh p else w b) { C with sa := fun q => if q = p then a else C.sa q, fl := fun q => if q = p then fl else C.fl q, td := fun q => if q = p then td else C.td q } pl m n xs (newShelf n bs p s) hf ∧
      Stp A w H (fun b => if b = a ∨ b = fl ∨ b = td then .sh p else w b) (upd H' C.ds (.dK (putK kS (.inl (p : Int)) (.ref a)))) := by
  have hh := h
  obtain ⟨⟨dx, l, a1, a2, a3, a4⟩, b, ⟨dr, c1, c2⟩, ⟨kS, d1, d2, d3, d4, d5⟩, e, ⟨kH, f1, f2⟩, g, i, j, k⟩ := h
  have kd : kS.length ≤ 40 := by
    have hsub : ∀ x ∈ kS.map (·.1), x ∈ (List.range bs.length).map fun q : Nat => (Sum.inl (q : Int) : Key) := fun x hx => by
      obtain ⟨q, h1, h2⟩ := d4 x hx
      exact List.mem_map.mpr ⟨q, List.mem_range.mpr (sh_lt h2), h1.symm⟩
    have := d3.length_le_of_subset hsub
    rw [List.length_map, List.length_map, List.length_range, i.len] at this
    omega
  refine ⟨kS, s1 _ _ d1, kd, ?_⟩
  have wn : ∀ b o, H b = some o → (if b = a ∨ b = fl ∨ b = td then Ow.sh p else w b) = w b := fun b o ho => if_neg (by
    rintro (rfl | rfl | rfl)
    · rw [n1] at ho; cases ho
    · rw [n2] at ho; cases ho
    · rw [n3] at ho; cases ho)
  have fr : ∀ b o, H b = some o → w b ≠ .ds → upd H' C.ds (.dK (putK kS (.inl (p : Int)) (.ref a))) b = some o := fun b o ho hb => (upd_ne (by rintro rfl; exact hb d2)).trans (s1 _ _ ho)
  have na1 : a ≠ C.ds := Ne.symm (ne_of_none d1 n1)
  have na2 : fl ≠ C.ds := Ne.symm (ne_of_none d1 n2)
  have na3 : td ≠ C.ds := Ne.symm (ne_of_none d1 n3)
  refine ⟨⟨⟨dx, l, fr _ _ a1 (by rw [a3]; exact nofun), fr _ _ a2 (by rw [a4]; exact nofun), (wn _ _ a1).trans a3, (wn _ _ a2).trans a4⟩, b, ⟨dr, fr _ _ c1 (by rw [c2]; exact nofun), (wn _ _ c1).trans c2⟩, ⟨_, upd_same, (wn _ _ d1).trans d2, nd_put d3, fun k hk => ?_, fun q hq => ?_⟩, fun q hq => ?_, ⟨kH, fr _ _ f1 (by rw [f2.1]; exact nofun), (wn _ _ f1).trans f2.1, f2.2⟩, fun x c hx => ⟨fr _ _ (g x c hx).1 (by rw [(g x c hx).2.1]; exact nofun), (wn _ _ (g x c hx).1).trans (g x c hx).2.1, (g x c hx).2.2⟩, wf_set i hp hs (by rw [List.length_replicate]), j, fun b hb => ?_⟩, hh.stp (fun b o ho hw => fr b o ho (by intro z; rw [z] at hw; cases hw)) (fun b o ho _ => wn b o ho)⟩
  · unfold newShelf
    rcases mem_put.mp hk with z | z
    · exact ⟨p, z, by rw [isSh_set hp, if_pos rfl]; rfl⟩
    · obtain ⟨q, h1, h2⟩ := d4 k z
      refine ⟨q, h1, ?_⟩
      rw [isSh_set hp]
      by_cases y : q = p
      · rw [if_pos y]; rfl
      · rw [if_neg y]; exact h2
  · unfold newShelf at hq
    rw [isSh_set hp] at hq
    rw [valV_put]
    by_cases z : q = p
    · subst z
      rw [if_pos rfl]
      show _ = some (V.ref (if q = q then a else C.sa q))
      rw [if_pos rfl]
    · rw [if_neg z] at hq
      rw [if_neg (fun y => z (by have := Sum.inl.inj y; omega))]
      show _ = some (V.ref (if q = p then a else C.sa q))
      rw [if_neg z]
      exact d5 q hq
  · unfold newShelf at hq ⊢
    rw [isSh_set hp] at hq
    rw [szAt_set hp, rowAt_set hp]
    by_cases z : q = p
    · subst z
      rw [if_pos rfl, if_pos rfl]
      have e1 : (if q = q then a else C.sa q) = a := if_pos rfl
      have e2 : (if q = q then fl else C.fl q) = fl := if_pos rfl
      have e3 : (if q = q then td else C.td q) = td := if_pos rfl
      show ShelfAt A _ (if q = q then a else C.sa q) (if q = q then fl else C.fl q) (if q = q then td else C.td q) _ _ _ ∧ (if (if q = q then a else C.sa q) = a ∨ (if q = q then a else C.sa q) = fl ∨ (if q = q then a else C.sa q) = td then Ow.sh q else w (if q = q then a else C.sa q)) = _ ∧ (if (if q = q then fl else C.fl q) = a ∨ (if q = q then fl else C.fl q) = fl ∨ (if q = q then fl else C.fl q) = td then Ow.sh q else w (if q = q then fl else C.fl q)) = _ ∧ (if (if q = q then td else C.td q) = a ∨ (if q = q then td else C.td q) = fl ∨ (if q = q then td else C.td q) = td then Ow.sh q else w (if q = q then td else C.td q)) = _
      rw [e1, e2, e3]
      exact ⟨S.same (fun o ho => (upd_ne na1).trans ho) (fun o ho => (upd_ne na2).trans ho) (fun o ho => (upd_ne na3).trans ho), if_pos (.inl rfl), if_pos (.inr (.inl rfl)), if_pos (.inr (.inr rfl))⟩
    · rw [if_neg z] at hq ⊢
      rw [if_neg z]
      have e1 : (if q = p then a else C.sa q) = C.sa q := if_neg z
      have e2 : (if q = p then fl else C.fl q) = C.fl q := if_neg z
      have e3 : (if q = p then td else C.td q) = C.td q := if_neg z
      show ShelfAt A _ (if q = p then a else C.sa q) (if q = p then fl else C.fl q) (if q = p then td else C.td q) _ _ _ ∧ (if (if q = p then a else C.sa q) = a ∨ (if q = p then a else C.sa q) = fl ∨ (if q = p then a else C.sa q) = td then Ow.sh p else w (if q = p then a else C.sa q)) = _ ∧ (if (if q = p then fl else C.fl q) = a ∨ (if q = p then fl else C.fl q) = fl ∨ (if q = p then fl else C.fl q) = td then Ow.sh p else w (if q = p then fl else C.fl q)) = _ ∧ (if (if q = p then td else C.td q) = a ∨ (if q = p then td else C.td q) = fl ∨ (if q = p then td else C.td q) = td then Ow.sh p else w (if q = p then td else C.td q)) = _
      rw [e1, e2, e3]
      obtain ⟨g1, g2, g3, g4⟩ := e q hq
      obtain ⟨⟨do', o1⟩, ⟨ns, o2, _⟩, ⟨ks, o3, _⟩, _⟩ := g1
      obtain ⟨g1, _⟩ := e q hq
      exact ⟨g1.same (fun o ho => fr _ _ ho (by rw [g2]; exact nofun)) (fun o ho => fr _ _ ho (by rw [g3]; exact nofun)) (fun o ho => fr _ _ ho (by rw [g4]; exact nofun)), (wn _ _ o1).trans g2, (wn _ _ o2).trans g3, (wn _ _ o3).trans g4⟩
  · by_cases z : b = a ∨ b = fl ∨ b = td
    · obtain ⟨⟨do', o1⟩, ⟨ns, o2, _⟩, ⟨ks, o3, _⟩, _⟩ := S
      rcases z with z | z | z
      · exact ⟨_, by rw [z, upd_ne na1]; exact o1, rfl⟩
      · exact ⟨_, by rw [z, upd_ne na2]; exact o2, rfl⟩
      · exact ⟨_, by rw [z, upd_ne na3]; exact o3, rfl⟩
    · rw [if_neg z] at hb
      obtain ⟨o, ho, hpo⟩ := k b hb
      by_cases y : b = C.ds
      · exact ⟨_, by rw [y]; exact upd_same, rfl⟩
      · exact ⟨o, (upd_ne y).trans (s1 _ _ ho), hpo⟩
/-- a thing's list is written -/
theorem RoomC.wr (h : RoomC A H r w C pl m n xs bs hf) {x : Int} {c d : List V} (hx : hf x = some c) (hd : d.length = c.length) : RoomC A (upd H (C.ha x) (.lst d)) r w C pl m n xs bs (fun y => if y = x then some d else hf y) ∧ Stp A w H w (upd H (C.ha x) (.lst d)) := by
  have hh := h
  obtain ⟨⟨dx, l, a1, a2, a3, a4⟩, b, ⟨dr, c1, c2⟩, ⟨kS, d1, d2⟩, e, ⟨kH, f1, f2, f3, f4, f5⟩, g, i, j, k⟩ := h
  obtain ⟨g1, g2, g3⟩ := g x c hx
  have fr : ∀ b o, H b = some o → w b ≠ .hd x → upd H (C.ha x) (.lst d) b = some o := fun b o ho hb => (upd_ne (by rintro rfl; exact hb g2)).trans ho
  refine ⟨⟨⟨dx, l, fr _ _ a1 (by rw [a3]; exact nofun), fr _ _ a2 (by rw [a4]; exact nofun), a3, a4⟩, b, ⟨dr, fr _ _ c1 (by rw [c2]; exact nofun), c2⟩, ⟨kS, fr _ _ d1 (by rw [d2.1]; exact nofun), d2⟩, fun q hq => ?_, ⟨kH, fr _ _ f1 (by rw [f2]; exact nofun), f2, f3, f4, fun y => ?_⟩, fun y u hy => ?_, i, fun y hy => ?_, fun b hb => ?_⟩, hh.stp (fun b o ho hw => fr b o ho (by intro z; rw [z] at hw; cases hw)) (fun _ _ _ _ => rfl)⟩
  · obtain ⟨h1, h2, h3, h4⟩ := e q hq
    exact ⟨h1.same (fun o ho => fr _ _ ho (by rw [h2]; exact nofun)) (fun o ho => fr _ _ ho (by rw [h3]; exact nofun)) (fun o ho => fr _ _ ho (by rw [h4]; exact nofun)), h2, h3, h4⟩
  · rw [f5 y]
    by_cases z : y = x
    · show _ = Option.map _ (if y = x then some d else hf y)
      rw [if_pos z, z, hx]; rfl
    · show _ = Option.map _ (if y = x then some d else hf y)
      rw [if_neg z]
  · by_cases z : y = x
    · subst z
      rw [if_pos rfl] at hy
      cases hy
      exact ⟨upd_same, g2, by rw [hd]; exact g3⟩
    · rw [if_neg z] at hy
      obtain ⟨h1, h2, h3⟩ := g y u hy
      exact ⟨fr _ _ h1 (by rw [h2]; intro y2; cases y2; exact z rfl), h2, h3⟩
  · by_cases z : y = x
    · rw [z]; exact j x (by rw [hx]; exact nofun)
    · exact j y (by rw [if_neg z] at hy; exact hy)
  · obtain ⟨o, ho, hpo⟩ := k b hb
    by_cases z : b = C.ha x
    · exact ⟨_, by rw [z]; exact upd_same, rfl⟩
    · exact ⟨o, (upd_ne z).trans ho, hpo⟩
/-- a thing is held no more -/
theorem RoomC.popH (h : RoomC A H r w C pl m n xs bs hf) {x : Int} {c : List V} (hx : hf x = some c) : ∃ kH, H C.dh = some (.dK kH) ∧ valV kH (.inl x) = some (.ref (C.ha x)) ∧
    RoomC A (upd H C.dh (.dK (dropK kH (.inl x)))) r w C pl m n xs bs (fun y => if y = x then none else hf y) ∧ Stp A w H w (upd H C.dh (.dK (dropK kH (.inl x)))) := by
  have hh := h
  obtain ⟨⟨dx, l, a1, a2, a3, a4⟩, b, ⟨dr, c1, c2⟩, ⟨kS, d1, d2⟩, e, ⟨kH, f1, f2, f3, f4, f5⟩, g, i, j, k⟩ := h
  refine ⟨kH, f1, by rw [f5 x, hx]; rfl, ?_⟩
  have fr : ∀ b o, H b = some o → w b ≠ .dh → upd H C.dh (.dK (dropK kH (.inl x))) b = some o := fun b o ho hb => (upd_ne (by rintro rfl; exact hb f2)).trans ho
  refine ⟨⟨⟨dx, l, fr _ _ a1 (by rw [a3]; exact nofun), fr _ _ a2 (by rw [a4]; exact nofun), a3, a4⟩, b, ⟨dr, fr _ _ c1 (by rw [c2]; exact nofun), c2⟩, ⟨kS, fr _ _ d1 (by rw [d2.1]; exact nofun), d2⟩, fun q hq => ?_, ⟨_, upd_same, f2, nd_drop f3, fun k hk => f4 k (mem_drop.mp hk).2, fun y => ?_⟩, fun y u hy => ?_, i, fun y hy => j y (fun z => hy (by show (if y = x then none else hf y) = none; rw [z]; exact ite_self _)), fun b hb => ?_⟩, hh.stp (fun b o ho hw => fr b o ho (by intro z; rw [z] at hw; cases hw)) (fun _ _ _ _ => rfl)⟩
  · obtain ⟨h1, h2, h3, h4⟩ := e q hq
    exact ⟨h1.same (fun o ho => fr _ _ ho (by rw [h2]; exact nofun)) (fun o ho => fr _ _ ho (by rw [h3]; exact nofun)) (fun o ho => fr _ _ ho (by rw [h4]; exact nofun)), h2, h3, h4⟩
  · rw [valV_drop, f5 y]
    by_cases z : y = x
    · rw [if_pos (by rw [z]), if_pos z]; rfl
    · rw [if_neg (fun q => z (Sum.inl.inj q)), if_neg z]
  · by_cases z : y = x
    · rw [if_pos z] at hy; cases hy
    · rw [if_neg z] at hy
      obtain ⟨h1, h2, h3⟩ := g y u hy
      exact ⟨fr _ _ h1 (by rw [h2]; exact nofun), h2, h3⟩
  · obtain ⟨o, ho, hpo⟩ := k b hb
    by_cases z : b = C.dh
    · exact ⟨_, by rw [z]; exact upd_same, rfl⟩
    · exact ⟨o, (upd_ne z).trans ho, hpo⟩
/-- a list is held from now on -/
theorem RoomC.putH (h : RoomC A H r w C pl m n xs bs hf) {y : Int} {a : Addr} {c : List V} (ha : H a = some (.lst c)) (hw : w a = .no ∨ ∃ x, w a = .hd x ∧ hf x = none) (hy : 0 ≤ y ∧ y < 2400) (hc : c.length ≤ 60) : ∃ kH, H C.dh = some (.dK kH) ∧ kH.length ≤ 2400 ∧
    RoomC A (upd H C.dh (.dK (putK kH (.inl y) (.ref a)))) r (fun b => if b = a then .hd y else w b) { C with ha := fun z => if z = y then a else C.ha z } pl m n xs bs (fun z => if z = y then some c else hf z) ∧ (∀ b o, H b = some o → own (w b) = false → b ≠ a → upd H C.dh (.dK (putK kH (.inl y) (.ref a))) b = some o) ∧ a ≠ C.dh := by
  have hh := h
  obtain ⟨⟨dx, l, a1, a2, a3, a4⟩, b, ⟨dr, c1, c2⟩, ⟨kS, d1, d2⟩, e, ⟨kH, f1, f2, f3, f4, f5⟩, g, i, j, k⟩ := h
  have kd : kH.length ≤ 2400 := by
    have hsub : ∀ z ∈ kH.map (·.1), z ∈ (List.range 2400).map fun q : Nat => (Sum.inl (q : Int) : Key) := fun z hz => by
      obtain ⟨q, rfl⟩ := f4 z hz
      have h1 := nd_keys.mpr hz
      rw [f5 q] at h1
      have := j q (fun e => by rw [e] at h1; cases h1)
      exact List.mem_map.mpr ⟨q.toNat, List.mem_range.mpr (by omega), by congr 1; omega⟩
    have := f3.length_le_of_subset hsub
    rw [List.length_map, List.length_map, List.length_range] at this
    exact this
  have nad : a ≠ C.dh := ne_of ha f1 (by intro z; cases z)
  refine ⟨kH, f1, kd, ?_, fun b o ho hb hn => (upd_ne (by rintro rfl; rw [f2] at hb; cases hb)).trans ho, nad⟩
  have fr : ∀ b o, H b = some o → w b ≠ .dh → upd H C.dh (.dK (putK kH (.inl y) (.ref a))) b = some o := fun b o ho hb => (upd_ne (by rintro rfl; exact hb f2)).trans ho
  have wn : ∀ b u, w b = u → u ≠ .no → (∀ x, u = .hd x → hf x ≠ none) → (if b = a then Ow.hd y else w b) = u := fun b u hb h1 h2 => by
    rw [if_neg, hb]
    rintro rfl
    rcases hw with z | ⟨x, z1, z2⟩
    · rw [z] at hb; exact h1 hb.symm
    · rw [z1] at hb; exact h2 x hb.symm z2
  refine ⟨⟨dx, l, fr _ _ a1 (by rw [a3]; exact nofun), fr _ _ a2 (by rw [a4]; exact nofun), wn _ _ a3 nofun nofun, wn _ _ a4 nofun nofun⟩, b, ⟨dr, fr _ _ c1 (by rw [c2]; exact nofun), wn _ _ c2 nofun nofun⟩, ⟨kS, fr _ _ d1 (by rw [d2.1]; exact nofun), wn _ _ d2.1 nofun nofun, d2.2⟩, fun q hq => ?_, ⟨_, upd_same, wn _ _ f2 nofun nofun, nd_put f3, fun k hk => ?_, fun z => ?_⟩, fun z u hz => ?_, i, fun z hz => ?_, fun b hb => ?_⟩
  · obtain ⟨h1, h2, h3, h4⟩ := e q hq
    exact ⟨h1.same (fun o ho => fr _ _ ho (by rw [h2]; exact nofun)) (fun o ho => fr _ _ ho (by rw [h3]; exact nofun)) (fun o ho => fr _ _ ho (by rw [h4]; exact nofun)), wn _ _ h2 nofun nofun, wn _ _ h3 nofun nofun, wn _ _ h4 nofun nofun⟩
  · rcases mem_put.mp hk with z | z
    · exact ⟨y, z⟩
    · exact f4 k z
  · rw [valV_put]
    by_cases q : z = y
    · rw [if_pos (by rw [q]), if_pos q]
      show _ = some (V.ref (if z = y then a else C.ha z))
      rw [if_pos q]
    · rw [if_neg (fun e => q (Sum.inl.inj e)), if_neg q, f5 z]
      show _ = Option.map (fun _ => V.ref (if z = y then a else C.ha z)) (hf z)
      rw [if_neg q]
  · show upd H C.dh _ (if z = y then a else C.ha z) = _ ∧ (if (if z = y then a else C.ha z) = a then Ow.hd y else w (if z = y then a else C.ha z)) = _ ∧ _
    by_cases q : z = y
    · rw [if_pos q] at hz ⊢
      cases hz
      rw [if_pos rfl]
      exact ⟨(upd_ne nad).trans ha, by rw [q], hc⟩
    · rw [if_neg q] at hz ⊢
      obtain ⟨h1, h2, h3⟩ := g z u hz
      exact ⟨fr _ _ h1 (by rw [h2]; exact nofun), wn _ _ h2 nofun (fun x e => by cases e; rw [hz]; exact nofun), h3⟩
  · by_cases q : z = y
    · rw [q]; exact hy
    · exact j z (by rw [if_neg q] at hz; exact hz)
  · by_cases q : b = a
    · exact ⟨_, by rw [q, upd_ne nad]; exact ha, rfl⟩
    · rw [if_neg q] at hb
      obtain ⟨o, ho, hpo⟩ := k b hb
      by_cases z : b = C.dh
      · exact ⟨_, by rw [z]; exact upd_same, rfl⟩
      · exact ⟨o, (upd_ne z).trans ho, hpo⟩
end

section
variable (A : Ad) (na : NA A)
include na
theorem pure_Room__give_back_shelves (vs : List V) (H : Hp) (Q : VK) (E : XK) (h : sp_Room__give_back_shelves A vs H Q E) : t_Room__give_back_shelves A E { nx := fun _ H' => Q .non H', rt := Q } (start ["self", "shelves", "shelf"] vs) H := by
  obtain ⟨r, w, C, pl, m, n, xs, bs, hf, ps, l, rfl, R, hl, wl, hn, hs, q⟩ := h
  unfold t_Room__give_back_shelves
  walk_at "rd"
  have fl : ∀ {H' : Hp}, Stp A w H w H' → H' l = some (.lst (refsOf C ps)) := fun s => (s.at hl wl (.inl rfl)).1
  refine ⟨l, rfl, ⟨_, toL hl⟩, for_list (K := A.K) (a := l) (xs := refsOf C ps) (fun i σ H' => ∃ v : Option V, σ = [some (.ref r), some (.ref l), v] ∧ RoomC A H' r w C pl m n xs (dropPages bs (ps.take i)) hf ∧ Stp A w H w H') ⟨none, rfl, R, Stp.refl⟩ (fun i σ H' _ ⟨_, _, _, s⟩ => toL (fl s)) ?_ ?_⟩
  · rintro i x σ H1 hx ⟨v, rfl, R1, s1⟩
    unfold refsOf at hx
    rw [List.getElem?_map] at hx
    cases hp : ps[i]? with
    | none => rw [hp] at hx; cases hx
    | some p =>
      rw [hp] at hx
      cases hx
      have hpm := List.mem_of_getElem? hp
      have hi := (List.getElem?_eq_some_iff.mp hp).1
      have hnt : p ∉ ps.take i := fun hm => by
        obtain ⟨j, hj⟩ := List.mem_iff_getElem?.mp hm
        rw [List.getElem?_take] at hj
        split at hj
        · rename_i hji
          have hj2 := (List.getElem?_eq_some_iff.mp hj).1
          have := (List.getElem_inj hn (h₀ := hj2) (h₁ := hi)).mp (by rw [← Option.some.injEq, ← List.getElem?_eq_getElem hj2, ← List.getElem?_eq_getElem hi, hj, hp])
          omega
        · cases hj
      have hsp : isSh (dropPages bs (ps.take i)) p = true := drops_sh.mpr ⟨hnt, hs p hpm⟩
      obtain ⟨dr, hr, _⟩ := R1.ob
      obtain ⟨⟨⟨dx, ho⟩, _⟩, _⟩ := R1.sh p hsp
      obtain ⟨kS, hS, hv, R2, s2⟩ := R1.del hsp
      walk_at "rd"
      refine r_fldR hr na.cl_Room na.na_Room__shelves (rf_shelves _ _ _) ?_
      walk_at "rd"
      refine r_fldR ho na.cl_Shelf na.na_Shelf_page (sf_page _ _ _ _) ?_
      refine r_ddelI hS hv ?_
      walk_at "rd"
      refine ⟨_, rfl, ?_, s1.trans s2⟩
      rw [List.take_add_one, hp]
      show RoomC A _ r w C pl m n xs (dropPages bs (ps.take i ++ [p])) hf
      rw [drops_snoc]
      exact R2
  · rintro σ H1 ⟨v, rfl, R1, s1⟩
    rw [show (refsOf C ps).length = ps.length from List.length_map _, List.take_length] at R1
    walk_at "rd"
    exact q _ s1 R1
theorem pure_Room_trim (vs : List V) (H : Hp) (Q : VK) (E : XK) (h : sp_Room_trim A vs H Q E) : t_Room_trim A E { nx := fun _ H' => Q .non H', rt := Q } (start ["self", "unused"] vs) H := by
  obtain ⟨r, w, pl, m, n, xs, bs, hf, rfl, ⟨C, R, hc⟩, q⟩ := h
  obtain ⟨dr, hr, _⟩ := R.ob
  unfold t_Room_trim
  walk_at "rd"
  refine r_recv hr (rf_no _ _ _ (by decide +kernel) (by decide +kernel) (by decide +kernel)) ?_
  walk_at "rd"
  refine ⟨r, w, C, pl, m, n, xs, bs, hf, rfl, R, fun H1 D0 s0 hD0 hl0 => ?_⟩
  walk_at "rd"
  refine r_recv (s0 _ _ hr) (rf_no _ _ _ (by decide +kernel) (by decide +kernel) (by decide +kernel)) ?_
  walk_at "rd"
  have wD : own (w D0) = false := by rw [R.free hD0]; rfl
  refine ⟨r, w, C, pl, m, n, xs, bs, hf, unused bs, D0, rfl, R.sm s0, hl0, wD, (pages_nd bs).filter _, fun p hp => (mem_unused.mp hp).1, fun H2 s2 R2 => ?_⟩
  walk_at "rd"
  refine r_lenL (toL (s2.at hl0 wD (.inl rfl)).1) ?_
  rw [show (refsOf C (unused bs)).length = (unused bs).length from List.length_map _]
  exact q _ ((Stp.same s0).trans s2) ⟨C, R2, con_drop hc fun p hp => (mem_unused.mp hp).2⟩
theorem pure_Room__take_place (vs : List V) (H : Hp) (Q : VK) (E : XK) (h : sp_Room__take_place A vs H Q E) : t_Room__take_place A E { nx := fun _ H' => Q .non H', rt := Q } (start ["self", "shelf"] vs) H := by
  obtain ⟨r, w, C, pl, m, n, xs, bs, hf, p, rfl, R, hp, q⟩ := h
  obtain ⟨dr, hr, wr⟩ := R.ob
  obtain ⟨dp, l, hpl, _, wpl, _⟩ := R.plan
  have hb := R.pb
  have hsp := sh_row hp
  obtain ⟨hS, w1, w2, w3⟩ := R.sh p hsp
  obtain ⟨dx, ho⟩ := hS.ob
  have hlt := sh_lt hsp
  rw [R.wf.len] at hlt
  have hsz := R.okk.size hsp
  unfold t_Room__take_place
  walk_at "rd"
  refine r_fldR ho na.cl_Shelf na.na_Shelf_page (sf_page _ _ _ _) ?_
  walk_at "rd"
  refine r_fldR hr na.cl_Room na.na_Room__plan (rf_plan _ _ _) ?_
  walk_at "rd"
  refine r_fldR hpl na.cl_Plan na.na_Plan_length (pf_length _ _ _) ?_
  refine r_mul (.inl (by omega)) ?_
  walk_at "rd"
  refine r_recv ho (sf_no _ _ _ _ (by decide +kernel) (by decide +kernel) (by decide +kernel) (by decide +kernel)) ?_
  walk_at "rd"
  refine ⟨_, _, _, _, _, _, rfl, hS, fun hno => absurd hp hno, fun _ H1 f1 S1 => ?_⟩
  obtain ⟨R1, s1⟩ := R.shelf hsp f1 S1 (by rw [List.length_set])
  obtain ⟨dx1, ho1⟩ := S1.ob
  walk_at "rd"
  refine r_fldR ho1 na.cl_Shelf na.na_Shelf_size (sf_size _ _ _ _) ?_
  refine r_mul (.inr (by omega)) ?_
  walk_at "rd"
  exact q _ s1 R1
theorem pure_Room_write (vs : List V) (H : Hp) (Q : VK) (E : XK) (h : sp_Room_write A vs H Q E) : t_Room_write A E { nx := fun _ H' => Q .non H', rt := Q } (start ["self", "place", "step", "number"] vs) H := by
  obtain ⟨r, w, pl, m, n, xs, bs, hf, x, i, j, rfl, ⟨C, R, hc⟩, q0, q⟩ := h
  obtain ⟨dr, hr, _⟩ := R.ob
  obtain ⟨kH, hH, _, _, _, hv⟩ := R.hd
  unfold t_Room_write
  walk_at "rd"
  refine r_recv hr (rf_no _ _ _ (by decide +kernel) (by decide +kernel) (by decide +kernel)) ?_
  walk_at "rd"
  refine ⟨r, w, C, pl, m, n, xs, bs, hf, x, i, rfl, R, q0, fun c hx => ⟨(q c hx).1, fun hi => ?_⟩⟩
  obtain ⟨k, rfl⟩ : ∃ k : Nat, i = k := ⟨i.toNat, by omega⟩
  have hk : k < c.length := by omega
  walk_at "rd"
  refine r_fldR hr na.cl_Room na.na_Room__held (rf_held _ _ _) ?_
  walk_at "rd"
  refine r_dgetI hH (by rw [hv x, hx]; rfl) ?_
  walk_at "rd"
  refine r_setL (R.hl x c hx).1 rfl hk ?_
  obtain ⟨R1, s1⟩ := R.wr hx (d := c.set k (.int j)) (by rw [List.length_set])
  walk_at "rd"
  exact (q c hx).2 k rfl hk _ s1 ⟨C, R1, con_wr hc hx (by rw [List.length_set])⟩
theorem pure_Room_room_for (vs : List V) (H : Hp) (Q : VK) (E : XK) (h : sp_Room_room_for A vs H Q E) : t_Room_room_for A E { nx := fun _ H' => Q .non H', rt := Q } (start ["self", "places", "size", "slots", "others", "pages", "shelf"] vs) H := by
  obtain ⟨r, w, C, pl, m, n, xs, bs, hf, x, rfl, R, hx, q0, q⟩ := h
  obtain ⟨dr, hr, _⟩ := R.ob
  obtain ⟨dp, l, hpl, _, _⟩ := R.plan
  have hP := R.planAt
  have hb := R.pb
  have hlen : bs.length ≤ 40 := by rw [R.wf.len]; omega
  unfold t_Room_room_for
  walk_at "rd"
  refine r_fldR hr na.cl_Room na.na_Room__plan (rf_plan _ _ _) ?_
  refine r_recv hpl (pf_no _ _ _ (by decide +kernel) (by decide +kernel) (by decide +kernel)) ?_
  walk_at "rd"
  refine ⟨pl, m, n, xs, x, rfl, hP, hx, q0, fun i e h1 => ⟨fun s hs => ?_, (q i e h1).1⟩⟩
  have q1 := (q i e h1).2 s hs
  have hsx : s ∈ xs := List.mem_of_find?_eq_some hs
  have hsz := R.okk.sz s hsx
  walk_at "rd"
  refine r_recv hr (rf_no _ _ _ (by decide +kernel) (by decide +kernel) (by decide +kernel)) ?_
  walk_at "rd"
  refine ⟨r, w, C, pl, m, n, xs, bs, hf, s, rfl, R, fun H1 D0 s0 hD0 hl0 => ?_⟩
  have hol : (ofSize bs s).length ≤ sizeLine := Nat.le_trans (List.length_filter_le _ _) (Nat.le_trans (pages_le bs) (Nat.le_trans hlen (by decide)))
  refine ⟨D0, rfl, ⟨_, toL hl0⟩, fun D hD => lc_pm (fun p : Nat => some (V.int (((rowAt bs p).count false : Nat) : Int))) hD (toL hl0) hol (fun i x H3 Ny Nn hx sx hy hn => ?_) fun H2 s2 hH2 => ?_⟩
  · walk_at "rd"
    refine ⟨rfl, ?_⟩
    walk_at "rd"
    obtain ⟨hS, _⟩ := R.sh x (mem_ofSize.mp (List.mem_of_getElem? hx)).1
    obtain ⟨dx, ho⟩ := hS.ob
    have sA := s0.trans sx
    refine r_recv (sA _ _ ho) (sf_no _ _ _ _ (by decide +kernel) (by decide +kernel) (by decide +kernel) (by decide +kernel)) ?_
    walk_at "rd"
    refine ⟨_, _, _, _, _, _, rfl, hS.sm sA, fun p hp => ?_⟩
    walk_at "rd"
    refine r_lenL (toL upd_same) ?_
    rw [List.length_map, len_free]
    exact hy _ _ (same_new hp) rfl
  rw [fm_all] at hH2
  have sB := s0.trans s2
  walk_at "rd"
  refine ⟨D, (ofSize bs s).map fun p : Nat => (((rowAt bs p).count false : Nat) : Int), rfl, toL (by rw [hH2, List.map_map]; rfl), ?_⟩
  walk_at "rd"
  refine r_recv (sB _ _ hr) (rf_no _ _ _ (by decide +kernel) (by decide +kernel) (by decide +kernel)) ?_
  walk_at "rd"
  refine ⟨r, w, C, pl, m, n, xs, bs, hf, rfl, R.sm sB, fun H3 D3 s3 hD3 hl3 => ?_⟩
  have hul : (unused bs).length ≤ sizeLine := Nat.le_trans (List.length_filter_le _ _) (Nat.le_trans (pages_le bs) (Nat.le_trans hlen (by decide)))
  have sC := sB.trans s3
  refine ⟨D3, rfl, ⟨_, toL hl3⟩, fun D4 hD4 => lc_pm (fun p : Nat => if decide (szAt bs p ≠ s) = true then some (V.ref (C.sa p)) else none) hD4 (toL hl3) hul (fun i x H5 Ny Nn hx sx hy hn => ?_) fun H4 s4 hH4 => ?_⟩
  · walk_at "rd"
    refine ⟨rfl, ?_⟩
    walk_at "rd"
    obtain ⟨⟨⟨dx, ho⟩, _⟩, _⟩ := R.sh x (mem_unused.mp (List.mem_of_getElem? hx)).1
    refine r_fldR (sx _ _ (sC _ _ ho)) na.cl_Shelf na.na_Shelf_size (sf_size _ _ _ _) ?_
    walk_at "rd"
    refine r_ifnd (fun h1 => ?_) (fun h1 => ?_)
    · walk_at "rd"
      exact hy _ _ (Same.refl _) (if_pos (decide_eq_true h1))
    · exact hn _ (Same.refl _) (if_neg (by rw [decide_eq_false (fun z => z h1)]; exact Bool.false_ne_true))
  rw [fm_if] at hH4
  have sD := sC.trans s4
  walk_at "rd"
  refine r_recv (sD _ _ hr) (rf_no _ _ _ (by decide +kernel) (by decide +kernel) (by decide +kernel)) ?_
  walk_at "rd"
  refine ⟨r, w, C, pl, m, n, xs, bs, hf, rfl, R.sm sD, fun H5 D5 s5 hD5 hl5 => ?_⟩
  have sE := sD.trans s5
  walk_at "rd"
  refine r_lenL (toL hl5) ?_
  walk_at "rd"
  refine r_lenL (toL (s5 _ _ hH4)) ?_
  walk_at "rd"
  refine r_fldR (sE _ _ hr) na.cl_Room na.na_Room__plan (rf_plan _ _ _) ?_
  refine r_recv (sE _ _ hpl) (pf_no _ _ _ (by decide +kernel) (by decide +kernel) (by decide +kernel)) ?_
  walk_at "rd"
  refine ⟨pl, m, n, xs, .int s, rfl, hP.same sE, rfl, fun i e _ => ?_, fun hno => absurd hsx (hno s rfl)⟩
  cases e
  have hd1 : n / s ≤ n := Int.ediv_le_self s (by omega)
  have hd2 : 0 ≤ n / s := Int.ediv_nonneg (by omega) (by omega)
  refine r_mul (.inr (by omega)) ?_
  walk_at "rd"
  have e1 : (pgs (pileOf bs)).length = (pileOf bs).length := List.length_map _
  rw [e1, List.length_map]
  exact q1 _ sE
end

/-! ### keys of shelves -/
open Classical in
/-- the key of a shelf: the most things out, the least page -/
noncomputable def kdB (C : RC) (bs : Bits) (v : V) : Int × Int := if e : ∃ p : Nat, isSh bs p = true ∧ v = .ref (C.sa p) then (-((outAt bs (Classical.choose e) : Nat) : Int), ((Classical.choose e : Nat) : Int)) else (0, 0)
open Classical in
noncomputable def kdP (C : RC) (bs : Bits) (v : V) : Int × Int := if e : ∃ p : Nat, isSh bs p = true ∧ v = .ref (C.sa p) then (((Classical.choose e : Nat) : Int), 0) else (0, 0)
section
variable {A : Ad} {H H' : Hp} {r : Addr} {w : Addr → Ow} {C : RC} {pl : Addr} {m n : Int} {xs : List Int} {bs : Bits} {hf : Held}
theorem kdB_at (R : RoomC A H r w C pl m n xs bs hf) {p : Nat} (hp : isSh bs p = true) : kdB C bs (.ref (C.sa p)) = (-((outAt bs p : Nat) : Int), (p : Int)) := by
  unfold kdB
  have e : ∃ q : Nat, isSh bs q = true ∧ V.ref (C.sa p) = .ref (C.sa q) := ⟨p, hp, rfl⟩
  rw [dif_pos e]
  obtain ⟨h1, h2⟩ := Classical.choose_spec e
  have h3 : p = Classical.choose e := R.sa_inj hp h1 (by injection h2)
  rw [← h3]
theorem kdP_at (R : RoomC A H r w C pl m n xs bs hf) {p : Nat} (hp : isSh bs p = true) : kdP C bs (.ref (C.sa p)) = ((p : Int), 0) := by
  unfold kdP
  have e : ∃ q : Nat, isSh bs q = true ∧ V.ref (C.sa p) = .ref (C.sa q) := ⟨p, hp, rfl⟩
  rw [dif_pos e]
  obtain ⟨h1, h2⟩ := Classical.choose_spec e
  have h3 : p = Classical.choose e := R.sa_inj hp h1 (by injection h2)
  rw [← h3]
theorem keyB (R : RoomC A H r w C pl m n xs bs hf) {ps : List Nat} (hp : ∀ p ∈ ps, isSh bs p = true) : KeyOf true (spAt A.v_fullest_first (sp_fullest_first A) A.v_fullest_first) H (refsOf C ps) (kdB C bs) := fun x hx => by
  obtain ⟨p, hm, rfl⟩ := List.mem_map.mp hx
  obtain ⟨S, _⟩ := R.sh p (hp p hm)
  refine ⟨⟨_, rfl⟩, fun H2 Q2 s q => ⟨rfl, _, _, _, _, _, _, rfl, S.sm s, fun t ht => q _ _ (same_new ht) ?_⟩⟩
  rw [kdB_at R (hp p hm)]
  exact ⟨t, rfl, upd_same⟩
end
theorem lexB_ff {a b c d : Int} (h : SrtO.lexB (a, b) (c, d) = false) : c < a ∨ (c = a ∧ d ≤ b) := by
  unfold SrtO.lexB at h
  by_cases e : a = c
  · rw [if_pos e] at h
    have := of_decide_eq_false h
    exact .inr ⟨e.symm, by simpa using this⟩
  · rw [if_neg e] at h
    have h2 : ¬ a < c := of_decide_eq_false h
    exact .inl (by omega)
theorem perm_map_inv {α β : Type} {f : α → β} {l : List β} : ∀ {m : List β}, l.Perm m → ∀ ps : List α, m = ps.map f → ∃ rk : List α, rk.Perm ps ∧ l = rk.map f := by
  intro m h
  induction h with
  | nil =>
    intro ps e
    cases ps with
    | nil => exact ⟨[], List.Perm.nil, rfl⟩
    | cons _ _ => cases e
  | cons x _ ih =>
    intro ps e
    cases ps with
    | nil => cases e
    | cons p ps =>
      obtain ⟨e1, e2⟩ := List.cons.inj e
      obtain ⟨rk, h1, h2⟩ := ih ps e2
      exact ⟨p :: rk, h1.cons p, by rw [e1, h2]; rfl⟩
  | swap x y l =>
    intro ps e
    cases ps with
    | nil => cases e
    | cons p ps =>
      obtain ⟨e1, e2⟩ := List.cons.inj e
      cases ps with
      | nil => cases e2
      | cons q ps =>
        obtain ⟨e3, e4⟩ := List.cons.inj e2
        exact ⟨q :: p :: ps, List.Perm.swap p q ps, by rw [e1, e3, e4]; rfl⟩
  | trans _ _ ih1 ih2 =>
    intro ps e
    obtain ⟨rk, h1, h2⟩ := ih2 ps e
    obtain ⟨rk2, h3, h4⟩ := ih1 rk h2
    exact ⟨rk2, h3.trans h1, h4⟩
section
variable (A : Ad) (na : NA A)
include na
theorem pure_Room__shelf_for (vs : List V) (H : Hp) (Q : VK) (E : XK) (h : sp_Room__shelf_for A vs H Q E) : t_Room__shelf_for A E { nx := fun _ H' => Q .non H', rt := Q } (start ["self", "size", "shelves", "page", "shelf"] vs) H := by
  obtain ⟨r, w, C, pl, m, n, xs, bs, hf, s, rfl, R, hsx, q0, q⟩ := h
  obtain ⟨dr, hr, _⟩ := R.ob
  obtain ⟨dp, l, hpl, _, _⟩ := R.plan
  have hP := R.planAt
  have hb := R.pb
  have hlen : bs.length ≤ 40 := by rw [R.wf.len]; omega
  have hsz := R.okk.sz s hsx
  unfold t_Room__shelf_for
  walk_at "rd"
  refine r_recv hr (rf_no _ _ _ (by decide +kernel) (by decide +kernel) (by decide +kernel)) ?_
  walk_at "rd"
  refine ⟨r, w, C, pl, m, n, xs, bs, hf, s, rfl, R, fun H1 D0 s0 hD0 hl0 => ?_⟩
  have hol : (ofSize bs s).length ≤ sizeLine := Nat.le_trans (List.length_filter_le _ _) (Nat.le_trans (pages_le bs) (Nat.le_trans hlen (by decide)))
  refine ⟨D0, rfl, ⟨_, toL hl0⟩, fun D hD => lc_pm (fun p : Nat => if decide (false ∈ rowAt bs p) = true then some (V.ref (C.sa p)) else none) hD (toL hl0) hol (fun i x H3 Ny Nn hx sx hy hn => ?_) fun H2 s2 hH2 => ?_⟩
  · walk_at "rd"
    refine ⟨rfl, ?_⟩
    walk_at "rd"
    obtain ⟨hS, _⟩ := R.sh x (mem_ofSize.mp (List.mem_of_getElem? hx)).1
    obtain ⟨dx, ho⟩ := hS.ob
    have sA := s0.trans sx
    refine r_recv (sA _ _ ho) (sf_no _ _ _ _ (by decide +kernel) (by decide +kernel) (by decide +kernel) (by decide +kernel)) ?_
    walk_at "rd"
    refine ⟨_, _, _, _, _, _, rfl, hS.sm sA, fun p hp => ?_⟩
    refine r_truL (toL upd_same) ?_
    by_cases hf : false ∈ rowAt bs x
    · obtain ⟨t, ht⟩ := free_head _ 0 hf
      rw [ht]
      refine r_ifT ?_
      walk_at "rd"
      exact hy _ _ (same_new hp) (if_pos (decide_eq_true hf))
    · have e : freeFrom 0 (rowAt bs x) = [] := List.eq_nil_of_length_eq_zero (by rw [len_free]; exact List.count_eq_zero.mpr hf)
      rw [e]
      refine r_ifF ?_
      exact hn _ (same_new hp) (if_neg (by rw [decide_eq_false hf]; exact Bool.false_ne_true))
  rw [fm_if] at hH2
  have hH2' : H2 D = some (.lst (refsOf C (cands bs s))) := hH2
  have sB := s0.trans s2
  walk_at "rd"
  refine r_truL (toL hH2') ?_
  cases ec : cands bs s with
  | cons c cs =>
    refine r_ifT ?_
    walk_at "rd"
    have hcs : ∀ p ∈ cands bs s, isSh bs p = true := fun p hp => (mem_cands.mp hp).1
    have hne : 0 < (refsOf C (cands bs s)).length := by rw [ec]; exact Nat.succ_pos _
    refine ⟨D, A.v_fullest_first, refsOf C (cands bs s), kdB C bs, rfl, rfl, toL hH2', hne, keyB (R.sm sB) hcs, fun x H3 s3 hx hle => ?_⟩
    obtain ⟨p, hm, rfl⟩ := List.mem_map.mp hx
    have sC := sB.trans s3
    refine q p bs H3 w C (.inl ⟨⟨hm, fun p' hp' => ?_⟩, rfl⟩) (Stp.same sC) (R.sm sC)
    have := hle _ (List.mem_map_of_mem (f := fun p => V.ref (C.sa p)) hp')
    unfold keyLe at this
    rw [kdB_at R (hcs p hm), kdB_at R (hcs p' hp')] at this
    rcases lexB_ff this with z | ⟨z1, z2⟩
    · left; omega
    · right; omega
  | nil =>
    refine r_ifF ?_
    walk_at "rd"
    refine r_recv (sB _ _ hr) (rf_no _ _ _ (by decide +kernel) (by decide +kernel) (by decide +kernel)) ?_
    walk_at "rd"
    refine ⟨r, w, C, pl, m, n, xs, bs, hf, rfl, R.sm sB, fun hno H3 s3 => q0 ec hno _ (sB.trans s3), fun p hp H3 s3 => ?_⟩
    have sC := sB.trans s3
    obtain ⟨plt, po⟩ := pageFor_at hp
    walk_at "rd"
    refine r_fldR (sC _ _ hr) na.cl_Room na.na_Room__plan (rf_plan _ _ _) ?_
    refine r_recv (sC _ _ hpl) (pf_no _ _ _ (by decide +kernel) (by decide +kernel) (by decide +kernel)) ?_
    walk_at "rd"
    refine ⟨pl, m, n, xs, .int s, rfl, hP.same sC, rfl, fun i e _ => ?_, fun hno => absurd hsx (hno s rfl)⟩
    cases e
    have hd2 : 0 ≤ n / s := Int.ediv_nonneg (by omega) (by omega)
    have hd3 := slots_le (n := n) (s := s) (by omega) (by omega) (by omega)
    have hd4 : n / s = ((n / s).toNat : Int) := by omega
    rw [hd4]
    intro a dx ha hdx hne
    refine ⟨a, dx, (p : Int), s, (n / s).toNat, rfl, upd_same, hd3, fun H4 fl td b4 n1 n2 n3 n4 n5 S => ?_⟩
    have upn : ∀ {b : Addr}, upd (upd H3 dx (.own a)) a (.ins A.c_Shelf dx []) b = none → H3 b = none := fun {b} hb => by
      by_cases e1 : b = a
      · rw [e1]; exact ha
      · rw [upd_ne e1] at hb
        by_cases e2 : b = dx
        · rw [e2]; exact hdx
        · rw [upd_ne e2] at hb; exact hb
    have s4 : Same H3 H4 := fun b o e => by
      have e1 : b ≠ a := ne_of_none e ha
      have e2 : b ≠ dx := ne_of_none e hdx
      exact b4 b o ((upd_ne e1).trans ((upd_ne e2).trans e)) e1
    have sD := sC.trans s4
    obtain ⟨kS, hS, hkl, R5, s5⟩ := R.put plt hsx sD (none_same sC ha) (none_same sC (upn n1)) (none_same sC (upn n2)) S
    refine ⟨rfl, ?_⟩
    walk_at "rd"
    refine r_fldR (sD _ _ hr) na.cl_Room na.na_Room__shelves (rf_shelves _ _ _) ?_
    walk_at "rd"
    refine r_dputI hS (Nat.lt_of_le_of_lt hkl (by decide)) ?_
    walk_at "rd"
    obtain ⟨dr5, hr5, _⟩ := R5.ob
    obtain ⟨kS5, hS5, _, _, _, hv5⟩ := R5.sd
    refine r_fldR hr5 na.cl_Room na.na_Room__shelves (rf_shelves _ _ _) ?_
    walk_at "rd"
    refine r_dgetI hS5 (hv5 p (by unfold newShelf; rw [isSh_set plt, if_pos rfl]; rfl)) ?_
    exact q p _ _ _ _ (.inr ⟨ec, hp, rfl⟩) s5 R5
theorem pure_Room_wish (vs : List V) (H : Hp) (Q : VK) (E : XK) (h : sp_Room_wish A vs H Q E) : t_Room_wish A E { nx := fun _ H' => Q .non H', rt := Q } (start ["self", "places", "size", "place"] vs) H := by
  obtain ⟨r, w, pl, m, n, xs, bs, hf, x, rfl, ⟨C, R, hc⟩, hx, q0, q⟩ := h
  obtain ⟨dr, hr, _⟩ := R.ob
  obtain ⟨dp, l, hpl, _, _⟩ := R.plan
  have hb := R.pb
  unfold t_Room_wish
  walk_at "rd"
  refine r_fldR hr na.cl_Room na.na_Room__plan (rf_plan _ _ _) ?_
  refine r_recv hpl (pf_no _ _ _ (by decide +kernel) (by decide +kernel) (by decide +kernel)) ?_
  walk_at "rd"
  refine ⟨pl, m, n, xs, x, rfl, R.planAt, hx, q0, fun i e h1 => ⟨fun s hs => ?_, (q i e h1).1⟩⟩
  obtain ⟨q1, q2⟩ := (q i e h1).2 s hs
  have hsx : s ∈ xs := List.mem_of_find?_eq_some hs
  have hsz := R.okk.sz s hsx
  walk_at "rd"
  refine r_recv hr (rf_no _ _ _ (by decide +kernel) (by decide +kernel) (by decide +kernel)) ?_
  walk_at "rd"
  refine r_recv hr (rf_no _ _ _ (by decide +kernel) (by decide +kernel) (by decide +kernel)) ?_
  walk_at "rd"
  refine ⟨r, w, C, pl, m, n, xs, bs, hf, s, rfl, R, hsx, q1, fun p bs' H1 w1 C1 fs s1 R1 => ?_⟩
  obtain ⟨ok1, hf1, sz1⟩ := fs.room R.okk hsx
  have hc1 := fs.con hc
  walk_at "rd"
  refine ⟨r, w1, C1, pl, m, n, xs, bs', hf, p, rfl, R1, hf1, fun H2 s2 R2 => ?_⟩
  rw [sz1]
  walk_at "rd"
  refine ⟨by show 1 ≤ sizeLine; decide, fun a0 ha0 => ?_⟩
  walk_at "rd"
  refine r_rep upd_same (by omega) (by omega) (Nat.le_trans (m := 60) (by rw [List.length_singleton, Nat.one_mul]; omega) (by decide)) fun a ha => ?_
  rw [flat_rep]
  have na0 : a ≠ a0 := Ne.symm (ne_of_none upd_same ha)
  have ha2 : H2 a = none := by rw [upd_ne na0] at ha; exact ha
  have s3 : Same H2 (upd (upd H2 a0 (.lst [.int 0])) a (.lst (List.replicate s.toNat (.int 0)))) := (same_new ha0).trans (same_new ha)
  have R3 := R2.sm s3
  have hnew := con_free ok1 hc1 hf1
  have hi := idx_false hf1
  obtain ⟨g1, g2⟩ := ok1.slot (sh_row hf1) (row_lt hi)
  have hlt := sh_lt (sh_row hf1)
  rw [ok1.wf.len] at hlt
  have hp40 : (p : Int) + 1 ≤ 40 := by omega
  have hpn : (p : Int) * n + n ≤ 2400 := by
    have h2 : ((p : Int) + 1) * n ≤ 40 * 60 := Int.mul_le_mul hp40 hb.2.2.2.1 (by omega) (by decide)
    rw [Int.add_mul, Int.one_mul] at h2
    omega
  have hp0 : 0 ≤ (p : Int) * n := Int.mul_nonneg (by omega) (by omega)
  rw [sz1] at g1 g2 hnew
  obtain ⟨kH, hH, hkl, R4, f4, nad⟩ := R3.putH (y := (p : Int) * n + (((rowAt bs' p).idxOf false : Nat) : Int) * s) (a := a) (c := List.replicate s.toNat (.int 0)) upd_same (.inl (R2.free ha2)) (by omega) (by rw [List.length_replicate]; omega)
  obtain ⟨dr3, hr3, _⟩ := R3.ob
  walk_at "rd"
  refine r_fldR hr3 na.cl_Room na.na_Room__held (rf_held _ _ _) ?_
  walk_at "rd"
  refine r_dputI hH (Nat.lt_of_le_of_lt hkl (by decide)) ?_
  walk_at "rd"
  have s4 : Stp A w1 H2 (fun b => if b = a then .hd ((p : Int) * n + (((rowAt bs' p).idxOf false : Nat) : Int) * s) else w1 b) (upd (upd (upd H2 a0 (.lst [.int 0])) a (.lst (List.replicate s.toNat (.int 0)))) C1.dh (.dK (putK kH (.inl ((p : Int) * n + (((rowAt bs' p).idxOf false : Nat) : Int) * s)) (.ref a)))) := R2.stp (fun b o ho hw => f4 b o (s3 _ _ ho) hw (ne_of_none ho ha2)) (fun b o ho _ => if_neg (ne_of_none ho ha2))
  refine q2 p bs' _ _ fs ((s1.trans s2).trans s4) ⟨_, R4, ?_⟩
  have := con_take (c := List.replicate s.toNat (.int 0)) ok1 hc1 hf1 (by rw [List.length_replicate, sz1]; omega)
  rw [sz1] at this
  exact this
theorem pure_Room_give_back (vs : List V) (H : Hp) (Q : VK) (E : XK) (h : sp_Room_give_back A vs H Q E) : t_Room_give_back A E { nx := fun _ H' => Q .non H', rt := Q } (start ["self", "place", "shelf", "begin", "unused", "other"] vs) H := by
  obtain ⟨r, w, pl, m, n, xs, bs, hf, x, rfl, ⟨C, R, hc⟩, q0, q⟩ := h
  obtain ⟨dr, hr, _⟩ := R.ob
  obtain ⟨dp, l, hpl, _, wpl, _⟩ := R.plan
  obtain ⟨kS, hS, wS, _, _, hv⟩ := R.sd
  have hb := R.pb
  have hlen : bs.length ≤ 40 := by rw [R.wf.len]; omega
  unfold t_Room_give_back
  walk_at "rd"
  refine r_recv hr (rf_no _ _ _ (by decide +kernel) (by decide +kernel) (by decide +kernel)) ?_
  walk_at "rd"
  refine ⟨r, w, C, pl, m, n, xs, bs, hf, x, rfl, R, q0, fun hx => ?_⟩
  obtain ⟨c, hxc⟩ : ∃ c, hf x = some c := by
    cases e : hf x with
    | none => exact absurd e hx
    | some c => exact ⟨c, rfl⟩
  obtain ⟨p, k, hk, ex, _⟩ := hc.dom hxc
  have q1 := q hx p k hk ex
  have hsp := sh_at hk
  have hlt := sh_lt hsp
  have hsz := R.okk.size hsp
  obtain ⟨hpg, hmo⟩ := R.okk.page hsp (row_lt hk)
  rw [← ex] at hpg hmo
  obtain ⟨S, w1, w2, w3⟩ := R.sh p hsp
  obtain ⟨dx, ho⟩ := S.ob
  walk_at "rd"
  refine r_fldR hr na.cl_Room na.na_Room__shelves (rf_shelves _ _ _) ?_
  walk_at "rd"
  refine r_recv hr (rf_no _ _ _ (by decide +kernel) (by decide +kernel) (by decide +kernel)) ?_
  walk_at "rd"
  refine ⟨r, w, C, pl, m, n, xs, bs, hf, x, rfl, R, ?_⟩
  rw [hpg]
  refine r_dgetI hS (hv p hsp) ?_
  walk_at "rd"
  refine r_fldR ho na.cl_Shelf na.na_Shelf_page (sf_page _ _ _ _) ?_
  walk_at "rd"
  refine r_fldR hr na.cl_Room na.na_Room__plan (rf_plan _ _ _) ?_
  walk_at "rd"
  refine r_fldR hpl na.cl_Plan na.na_Plan_length (pf_length _ _ _) ?_
  refine r_mul (.inl (by omega)) ?_
  walk_at "rd"
  refine r_recv ho (sf_no _ _ _ _ (by decide +kernel) (by decide +kernel) (by decide +kernel) (by decide +kernel)) ?_
  walk_at "rd"
  refine r_fldR ho na.cl_Shelf na.na_Shelf_size (sf_size _ _ _ _) ?_
  walk_at "rd"
  have ek : (x - (p : Int) * n) / szAt bs p = (k : Int) := by
    rw [ex, Int.add_comm, Int.add_sub_cancel]
    exact Int.mul_ediv_cancel _ (by omega)
  rw [ek]
  refine ⟨_, _, _, _, _, _, _, rfl, S, fun hno => absurd hk (hno k rfl), fun i ei _ H1 f1 S1 => ?_⟩
  obtain rfl : k = i := by omega
  obtain ⟨R1, s1⟩ := R.shelf hsp f1 S1 (by rw [List.length_set])
  obtain ⟨kH, hH, hvH, R2, s2⟩ := R1.popH hxc
  obtain ⟨dr1, hr1, _⟩ := R1.ob
  walk_at "rd"
  refine r_fldR hr1 na.cl_Room na.na_Room__held (rf_held _ _ _) ?_
  walk_at "rd"
  refine r_ddelI hH (by rw [hvH]; rfl) ?_
  obtain ⟨dr2, hr2, _⟩ := R2.ob
  walk_at "rd"
  refine r_recv hr2 (rf_no _ _ _ (by decide +kernel) (by decide +kernel) (by decide +kernel)) ?_
  walk_at "rd"
  have hlen2 : (giveAt bs p k).length ≤ 40 := by unfold giveAt; rw [List.length_set]; exact hlen
  have hspg : isSh (giveAt bs p k) p = true := by unfold giveAt; rw [isSh_set hlt, if_pos rfl]; rfl
  have hszg : szAt (giveAt bs p k) p = szAt bs p := by unfold giveAt; rw [szAt_set hlt, if_pos rfl]
  refine ⟨r, w, C, pl, m, n, xs, giveAt bs p k, _, rfl, R2, fun H3 D3 s3 hD3 hl3 => ?_⟩
  have hul : (unused (giveAt bs p k)).length ≤ sizeLine := Nat.le_trans (List.length_filter_le _ _) (Nat.le_trans (pages_le _) (Nat.le_trans hlen2 (by decide)))
  have R3 := R2.sm s3
  obtain ⟨S3, _⟩ := R3.sh p hspg
  obtain ⟨dx3, ho3⟩ := S3.ob
  refine ⟨D3, rfl, ⟨_, toL hl3⟩, fun D4 hD4 => lc_pm (fun j : Nat => if decide (szAt (giveAt bs p k) j = szAt (giveAt bs p k) p) = true then some (V.ref (C.sa j)) else none) hD4 (toL hl3) hul (fun i y H5 Ny Nn hy sx hny hnn => ?_) fun H4 s4 hH4 => ?_⟩
  · walk_at "rd"
    refine ⟨rfl, ?_⟩
    walk_at "rd"
    obtain ⟨⟨⟨dy, hoy⟩, _⟩, _⟩ := R3.sh y (mem_unused.mp (List.mem_of_getElem? hy)).1
    refine r_fldR (sx _ _ hoy) na.cl_Shelf na.na_Shelf_size (sf_size _ _ _ _) ?_
    walk_at "rd"
    refine r_fldR (sx _ _ ho3) na.cl_Shelf na.na_Shelf_size (sf_size _ _ _ _) ?_
    walk_at "rd"
    refine r_ifd (fun h1 => ?_) (fun h1 => ?_)
    · walk_at "rd"
      exact hny _ _ (Same.refl _) (if_pos (decide_eq_true h1))
    · have h1' : ¬ szAt (giveAt bs p k) y = szAt (giveAt bs p k) p := h1
      exact hnn _ (Same.refl _) (if_neg (by rw [decide_eq_false h1']; exact Bool.false_ne_true))
  rw [fm_if] at hH4
  have R4 := R3.sm s4
  obtain ⟨S4, _⟩ := R4.sh p hspg
  obtain ⟨dx4, ho4⟩ := S4.ob
  obtain ⟨dr4, hr4, _⟩ := R4.ob
  have sT := (s1.trans s2).trans (Stp.same (s3.trans s4))
  have hcg : Con n (giveAt bs p k) (fun y => if y = x then none else hf y) := by
    have := con_give R.okk hc hk
    rw [← ex] at this
    exact this
  walk_at "rd"
  refine r_recv ho4 (sf_no _ _ _ _ (by decide +kernel) (by decide +kernel) (by decide +kernel) (by decide +kernel)) ?_
  walk_at "rd"
  refine ⟨_, _, _, _, _, _, rfl, S4, ?_⟩
  walk_at "rd"
  refine r_ifd (fun h1 => ?_) (fun h1 => ?_)
  · walk_at "rd"
    refine r_lenL (toL hH4) ?_
    rw [List.length_map]
    walk_at "rd"
    refine r_ifd (fun h2 => ?_) (fun h2 => ?_)
    · walk_at "rd"
      refine r_recv hr4 (rf_no _ _ _ (by decide +kernel) (by decide +kernel) (by decide +kernel)) ?_
      walk_at "rd"
      refine ⟨by show 1 ≤ sizeLine; decide, fun t ht => ?_⟩
      have s5 := same_new (o := .lst [.ref (C.sa p)]) ht
      have wt := R4.free ht
      have h1' : ((outAt (giveAt bs p k) p : Nat) : Int) = 0 := h1
      have h0 : outAt (giveAt bs p k) p = 0 := by omega
      refine ⟨r, w, C, pl, m, n, xs, giveAt bs p k, _, [p], t, rfl, R4.sm s5, upd_same, by rw [wt]; rfl, List.pairwise_singleton _ _, fun z hz => by rw [List.mem_singleton.mp hz]; exact hspg, fun H6 s6 R6 => ?_⟩
      walk_at "rd"
      refine q1 H6 ((sT.trans (Stp.same s5)).trans s6) ?_
      unfold giveSt
      rw [if_pos ⟨h0, by omega⟩]
      exact ⟨C, R6, con_drop (ps := [p]) hcg fun z hz => by rw [List.mem_singleton.mp hz]; exact h0⟩
    · walk_at "rd"
      refine q1 _ sT ?_
      unfold giveSt
      rw [if_neg (fun z => h2 (by omega))]
      exact ⟨C, R4, hcg⟩
  · walk_at "rd"
    refine q1 _ sT ?_
    unfold giveSt
    have h1' : ¬ ((outAt (giveAt bs p k) p : Nat) : Int) = 0 := h1
    rw [if_neg (fun z => h1' (by have := z.1; omega))]
    exact ⟨C, R4, hcg⟩
theorem pure_Room_init (vs : List V) (H : Hp) (Q : VK) (E : XK) (h : sp_Room_init A vs H Q E) : t_Room_init A E { nx := fun _ H' => Q .non H', rt := Q } (start ["self", "plan"] vs) H := by
  obtain ⟨r, dx, pl, m, n, xs, rfl, hr, hP, q⟩ := h
  obtain ⟨⟨dp, l, hpl, hl⟩, b1, b2, b3, b4, b5⟩ := hP
  unfold t_Room_init
  have l1 := length_putF "_plan" (V.ref pl) []
  walk_at "rd"
  refine r_sfldR hr na.cl_Room na.na_Room__plan (by show 0 < 1000; decide) trivial fun _ => ?_
  walk_at "rd"
  intro ds hds
  have nrs : ds ≠ r := Ne.symm (ne_of_none upd_same hds)
  have hds0 : H ds = none := by rw [upd_ne nrs] at hds; exact hds
  walk_at "rd"
  refine r_sfldR ((upd_ne (Ne.symm nrs)).trans upd_same) na.cl_Room na.na_Room__shelves (by show _ < 1000; have : ([] : List (Str × V)).length = 0 := rfl; omega) trivial fun _ => ?_
  have l2 := length_putF "_shelves" (V.ref ds) (putF "_plan" (.ref pl) [])
  walk_at "rd"
  intro dh hdh
  have nrh : dh ≠ r := Ne.symm (ne_of_none upd_same hdh)
  have hdh1 := hdh
  rw [upd_ne nrh] at hdh1
  have nsh : dh ≠ ds := Ne.symm (ne_of_none upd_same hdh1)
  rw [upd_ne nsh, upd_ne nrh] at hdh1
  walk_at "rd"
  refine r_sfldR ((upd_ne (Ne.symm nrh)).trans upd_same) na.cl_Room na.na_Room__held (by show _ < 1000; have : ([] : List (Str × V)).length = 0 := rfl; omega) trivial fun _ => ?_
  walk_at "rd"
  have npr : pl ≠ r := ne_of hpl hr (by
    intro z
    have z2 := (HO.ins.inj (z)).2.2
    have := congrArg (fun fs => List.lookup ("pages" : Str) fs) z2
    rw [pf_pages] at this
    cases this)
  have nlr : l ≠ r := ne_of hl hr (by intro z; cases z)
  have nps : pl ≠ ds := ne_of_none hpl hds0
  have nls : l ≠ ds := ne_of_none hl hds0
  have nph : pl ≠ dh := ne_of_none hpl hdh1
  have nlh : l ≠ dh := ne_of_none hl hdh1
  let w : Addr → Ow := fun b => if b = r then .rm else if b = ds then .ds else if b = dh then .dh else if b = pl ∨ b = l then .pl else .no
  let C : RC := ⟨ds, dh, fun _ => 0, fun _ => 0, fun _ => 0, fun _ => 0⟩
  have wr : w r = .rm := if_pos rfl
  have ws : w ds = .ds := (if_neg nrs).trans (if_pos rfl)
  have wh : w dh = .dh := (if_neg nrh).trans ((if_neg nsh).trans (if_pos rfl))
  have wp : w pl = .pl := (if_neg npr).trans ((if_neg nps).trans ((if_neg nph).trans (if_pos (.inl rfl))))
  have wl : w l = .pl := (if_neg nlr).trans ((if_neg nls).trans ((if_neg nlh).trans (if_pos (.inr rfl))))
  have hsh : ∀ p, isSh (List.replicate m.toNat none) p = false := fun p => by
    unfold isSh
    rw [List.getElem?_replicate]
    split <;> rename_i h
    · split at h <;> cases h
    · rfl
  have hrow : ∀ p, rowAt (List.replicate m.toNat none) p = [] := fun p => row_none (hsh p)
  have sget : ∀ b o, H b = some o → b ≠ r → upd (upd (upd (upd (upd H r (.ins A.c_Room dx (putF "_plan" (.ref pl) []))) ds (.dK [])) r (.ins A.c_Room dx (putF "_shelves" (.ref ds) (putF "_plan" (.ref pl) [])))) dh (.dK [])) r (.ins A.c_Room dx (roomF pl ds dh)) b = some o := fun b o e nb => by
    rw [upd_ne nb, upd_ne (ne_of_none e hdh1), upd_ne nb, upd_ne (ne_of_none e hds0), upd_ne nb]
    exact e
  refine q _ w (fun b o e nb => sget b o e nb) (fun b o e nb => ?_) ⟨C, ⟨⟨dp, l, sget _ _ hpl npr, sget _ _ hl nlr, wp, wl⟩, ⟨b1, b2, b3, b4, b5⟩, ⟨dx, upd_same, wr⟩, ⟨[], ?_, ws, List.Pairwise.nil, (fun k hk => nomatch hk), fun p hp => ?_⟩, fun p hp => ?_, ⟨[], ?_, wh, List.Pairwise.nil, (fun k hk => nomatch hk), fun x => rfl⟩, (fun x c hx => nomatch hx), ⟨List.length_replicate, fun p hp => ?_⟩, fun x hx => absurd rfl hx, fun b hb => ?_⟩, fun x s => ?_⟩
  · show own (if b = r then .rm else if b = ds then .ds else if b = dh then .dh else if b = pl ∨ b = l then .pl else .no) = false
    rw [if_neg nb, if_neg (ne_of_none e hds0), if_neg (ne_of_none e hdh1)]
    split <;> rfl
  · show upd (upd (upd (upd (upd H r _) ds (.dK [])) r _) dh (.dK [])) r _ ds = _
    rw [upd_ne nrs, upd_ne (Ne.symm nsh), upd_ne nrs, upd_same]
  · rw [hsh p] at hp; cases hp
  · rw [hsh p] at hp; cases hp
  · show upd (upd (upd (upd (upd H r _) ds (.dK [])) r _) dh (.dK [])) r _ dh = _
    rw [upd_ne nrh, upd_same]
  · rw [hsh p] at hp; cases hp
  · by_cases e1 : b = r
    · exact ⟨_, by rw [e1]; exact upd_same, rfl⟩
    · by_cases e2 : b = ds
      · exact ⟨.dK [], by rw [e2, upd_ne nrs, upd_ne (Ne.symm nsh), upd_ne nrs, upd_same], rfl⟩
      · by_cases e3 : b = dh
        · exact ⟨.dK [], by rw [e3, upd_ne nrh, upd_same], rfl⟩
        · have hb2 : (if b = pl ∨ b = l then Ow.pl else .no) ≠ .no := by
            have e4 : w b = (if b = pl ∨ b = l then Ow.pl else .no) := (if_neg e1).trans ((if_neg e2).trans (if_neg e3))
            rw [← e4]; exact hb
          by_cases e4 : b = pl ∨ b = l
          · rcases e4 with e4 | e4
            · exact ⟨_, by rw [e4]; exact sget _ _ hpl npr, rfl⟩
            · exact ⟨_, by rw [e4]; exact sget _ _ hl nlr, rfl⟩
          · rw [if_neg e4] at hb2
            exact absurd rfl hb2
  · constructor
    · rintro ⟨c, h1, _⟩; cases h1
    · intro h1
      obtain ⟨p, k, h2, _⟩ := mem_things.mp h1
      rw [hrow p] at h2
      cases h2
end

/-! ### gathering keeps its promise -/
section
variable (A : Ad) (na : NA A)
include na
theorem pure_Room__move_things (vs : List V) (H : Hp) (Q : VK) (E : XK) (h : sp_Room__move_things A vs H Q E) : t_Room__move_things A E { nx := fun _ H' => Q .non H', rt := Q } (start ["self", "leaving", "staying", "pages", "place", "places", "rising", "moves", "with_room", "new", "shelf"] vs) H := by
  obtain ⟨r, w, C, pl, m, n, xs, bs, hf, lv, st, l1, l2, ri, places, rfl, R, hT, hl1, wl1, hl2, wl2, slv, sst, llv, rip, riu, pup, pmem, plen, q⟩ := h
  obtain ⟨dr, hr, _⟩ := R.ob
  have hb := R.pb
  have o0 := R.okk
  unfold t_Room__move_things
  walk_at "rd"
  refine ⟨l1, rfl, ⟨_, toL hl1⟩, fun D1 hD1 => lc_pm (fun p : Nat => some (V.int (p : Int))) hD1 (toL hl1) (Nat.le_trans llv (by decide)) (fun i x H3 Ny Nn hx sx hy hn => ?_) fun H1 s1 hH1 => ?_⟩
  · walk_at "rd"
    refine ⟨rfl, ?_⟩
    walk_at "rd"
    obtain ⟨⟨⟨dx, ho⟩, _⟩, _⟩ := R.sh x (slv x (List.mem_of_getElem? hx))
    refine r_fldR (sx _ _ ho) na.cl_Shelf na.na_Shelf_page (sf_page _ _ _ _) ?_
    exact hy _ _ (Same.refl _) rfl
  rw [fm_all, ← map_ints] at hH1
  walk_at "rd"
  obtain ⟨kH, hH, _, k1, k2, k3⟩ := R.hd
  refine r_fldR (s1 _ _ hr) na.cl_Room na.na_Room__held (rf_held _ _ _) ?_
  walk_at "rd"
  refine r_sortD (s1 _ _ hH) (keyInts_eq k2) fun ys p2 y1 y2 hp2 => ?_
  have s2 := s1.trans (same_new (o := .lst (ys.map V.int)) hp2)
  have hyn : ys.Nodup := y1.nodup_iff.mpr (nd_keyInts k2 k1)
  have hym : ∀ x, x ∈ ys ↔ hf x ≠ none := fun x => by
    rw [y1.mem_iff, mem_keyInts k2, ← nd_keys, k3 x]
    cases hf x with
    | none => exact ⟨fun e => (by cases e), fun e => absurd rfl e⟩
    | some c => exact ⟨fun _ => nofun, fun _ => rfl⟩
  have hylen : ys.length ≤ sizeLine := by
    have hsub : ∀ x ∈ ys, x ∈ (List.range 2400).map fun i : Nat => (i : Int) := fun x hx => by
      have := R.hb x ((hym x).mp hx)
      exact List.mem_map.mpr ⟨x.toNat, List.mem_range.mpr (by omega), by omega⟩
    have := hyn.length_le_of_subset hsub
    rw [List.length_map, List.length_range] at this
    exact Nat.le_trans this (by decide)
  have hyf : ys.filter (fun x => decide (x / n ∈ lv.map fun p : Nat => (p : Int))) = places := by
    refine up_unique pup (y2.filter _) (perm_of_mem (hyn.filter _) (nodup_of_lt pup) fun x => ?_)
    rw [List.mem_filter, decide_eq_true_eq, hym, pmem, List.mem_map]
    constructor
    · rintro ⟨h1, p, h2, h3⟩
      exact ⟨h1, p, h2, h3.symm⟩
    · rintro ⟨h1, p, h2, h3⟩
      exact ⟨h1, p, h2, h3.symm⟩
  refine ⟨p2, rfl, ⟨_, toL upd_same⟩, fun D5 hD5 => lc_pm (fun x : Int => if decide (x / n ∈ lv.map fun p : Nat => (p : Int)) = true then some (V.int x) else none) hD5 (toL upd_same) hylen (fun i x H3 Ny Nn hx sx hy hn => ?_) fun H5 s5 hH5 => ?_⟩
  · walk_at "rd"
    refine ⟨rfl, ?_⟩
    walk_at "rd"
    have sA := s2.trans sx
    refine r_recv (sA _ _ hr) (rf_no _ _ _ (by decide +kernel) (by decide +kernel) (by decide +kernel)) ?_
    walk_at "rd"
    refine ⟨r, w, C, pl, m, n, xs, bs, hf, x, rfl, R.sm sA, ?_⟩
    walk_at "rd"
    refine r_inI (toL (sx _ _ ((same_new hp2) _ _ hH1))) ?_
    walk_at "rd"
    refine r_ifd (fun h1 => ?_) (fun h1 => ?_)
    · walk_at "rd"
      exact hy _ _ (Same.refl _) (if_pos (decide_eq_true h1))
    · exact hn _ (Same.refl _) (if_neg (by rw [decide_eq_false h1]; exact Bool.false_ne_true))
  rw [fm_if, hyf] at hH5
  have sB := s2.trans s5
  have wD5 : w D5 = .no := R.free (none_same s2 hD5)
  walk_at "rd"
  refine ⟨hT.ext sB, fun f c' H6 e6 t6 hf6 hfo hco => ?_⟩
  have R6 : RoomC A H6 r w C pl m n xs bs hf := R.same fun b o ho hw => e6 b o (sB _ _ ho) fun ps z => by
    obtain ⟨u, hu, hp⟩ := R.ow b hw
    rw [ho] at hu
    cases hu
    rw [z] at hp
    cases hp
  have st6 : Stp A w H w H6 := ⟨fun b o ho _ hn => ⟨e6 b o (sB _ _ ho) hn, rfl⟩, fun _ => t6⟩
  have hl2' := (st6.at hl2 wl2 (.inl rfl)).1
  have hD56 : H6 D5 = some (.lst (places.map V.int)) := e6 _ _ hH5 nofun
  walk_at "rd"
  refine ⟨l2, f, refsOf C st, kdP C bs, rfl, rfl, toL hl2', fun x hx => ?_, fun zs D6 H7 s7 hD6 hD67 zp zl => ?_⟩
  · obtain ⟨p, hp, rfl⟩ := List.mem_map.mp hx
    refine ⟨⟨_, rfl⟩, fun H2 Q2 s3 q3 => ⟨rfl, c', s3 _ _ hfo, s3 _ _ hco, ?_⟩⟩
    obtain ⟨⟨⟨dx, ho⟩, _⟩, _⟩ := R6.sh p (sst p hp)
    refine r_fld ?_
    refine r_var rfl ?_
    refine r_fldR (s3 _ _ ho) na.cl_Shelf na.na_Shelf_page (sf_page _ _ _ _) ?_
    refine q3 _ _ (Same.refl _) ?_
    rw [kdP_at R (sst p hp)]
    exact ⟨rfl, rfl⟩
  obtain ⟨rk, rk1, rfl⟩ := perm_map_inv zp st rfl
  have erk : rk = ri := by
    have hle : (rk.map fun p : Nat => (p : Int)).Pairwise (· ≤ ·) := by
      rw [List.pairwise_map] at zl ⊢
      refine zl.imp_of_mem fun {a b} ha hb hab => ?_
      unfold keyLe at hab
      rw [kdP_at R (sst a (rk1.mem_iff.mp ha)), kdP_at R (sst b (rk1.mem_iff.mp hb))] at hab
      rcases lexB_ff hab with z | ⟨z, _⟩ <;> omega
    have := up_unique (up_cast riu) hle ((rk1.trans rip.symm).map _)
    exact List.map_inj_right (f := fun p : Nat => (p : Int)) (fun a b e => by omega) |>.mp this
  rw [erk] at hD67
  have hD67' : H7 D6 = some (.lst (refsOf C ri)) := hD67
  have R7 := R6.sm s7
  have st7 := st6.trans (Stp.same s7)
  have wD6 : w D6 = .no := R6.free hD6
  have sri : ∀ p ∈ ri, isSh bs p = true := fun p hp => sst p (rip.mem_iff.mp hp)
  walk_at "rd"
  refine ⟨by show 0 ≤ sizeLine; decide, fun D7 hD7 => ?_⟩
  have wD7 : w D7 = .no := R7.free hD7
  have hD57 : H7 D5 = some (.lst (places.map V.int)) := s7 _ _ hD56
  have n57 : D5 ≠ D7 := ne_of_none hD57 hD7
  have n67 : D6 ≠ D7 := ne_of_none hD67' hD7
  walk_at "rd"
  have gl : ∀ {w' : Addr → Ow} {H' : Hp}, Stp A w H7 w' H' → H' D5 = some (.lst (places.map V.int)) ∧ H' D6 = some (.lst (refsOf C ri)) := fun s => ⟨(s.at hD57 (by rw [wD5]; rfl) (.inl rfl)).1, (s.at hD67' (by rw [wD6]; rfl) (.inl rfl)).1⟩
  refine ⟨D5, rfl, ⟨_, toL ((upd_ne n57).trans hD57)⟩, for_list (K := A.K) (a := D5) (xs := places.map V.int) (fun i σ H' => ∃ (v4 v8 v9 : Option V) (w' : Addr → Ow) (C' : RC) (bs' : Bits) (hf' : Held) (done rest : List (Int × Int)) (acc : List V),
      σ = [some (.ref r), some (.ref l1), some (.ref l2), some (.ref D1), v4, some (.ref D5), some (.ref D6), some (.ref D7), v8, v9, none] ∧ RoomC A H' r w' C' pl m n xs bs' hf' ∧ Stp A w H7 w' H' ∧ C'.sa = C.sa ∧ H' D7 = some (.lst acc) ∧ w' D7 = .no ∧ Pairs w' H' acc done ∧ done.length = i ∧
      fill n ri (places.drop i) bs' hf' = ((fill n ri places bs hf).1, (fill n ri places bs hf).2.1, rest) ∧ done ++ rest = (fill n ri places bs hf).2.2 ∧ (∀ x ∈ places.drop i, hf' x ≠ none) ∧ places.length - i ≤ freeSum bs' ri ∧ (∀ p ∈ ri, isSh bs' p = true))
    ⟨none, none, none, w, C, bs, hf, [], _, [], rfl, R7.chg wD7, Stp.same (same_new hD7), rfl, upd_same, wD7, ⟨rfl, fun i y t h => by simp at h⟩, rfl, rfl, rfl, fun x hx => ((pmem x).mp hx).1, plen, sri⟩ (fun i σ H' _ ⟨_, _, _, _, _, _, _, _, _, _, _, _, s, _⟩ => toL (gl s).1) ?_ ?_⟩
  · rintro i x σ Hi hx ⟨v4, v8, v9, wi, Ci, bi, hi, done, rest, acc, rfl, Ri, si, esa, hacc, wacc, hP, hdl, hfill, happ, hheld, hfree, hsh⟩
    rw [List.getElem?_map] at hx
    cases ex : places[i]? with
    | none => rw [ex] at hx; cases hx
    | some z =>
    rw [ex] at hx
    cases hx
    have hil := (List.getElem?_eq_some_iff.mp ex).1
    have edr := drop_cons ex
    rw [edr] at hfill
    obtain ⟨g, eg, hg, hfg⟩ := find_free (bs := bi) (ps := ri) (by omega)
    have hsg := sh_row hfg
    have ef : fill n ri (z :: places.drop (i + 1)) bi hi = ((fill n ri (places.drop (i + 1)) (takeAt bi g) (mvH hi z ((g : Int) * n + (((rowAt bi g).idxOf false : Nat) : Int) * szAt bi g))).1, (fill n ri (places.drop (i + 1)) (takeAt bi g) (mvH hi z ((g : Int) * n + (((rowAt bi g).idxOf false : Nat) : Int) * szAt bi g))).2.1, (z, (g : Int) * n + (((rowAt bi g).idxOf false : Nat) : Int) * szAt bi g) :: (fill n ri (places.drop (i + 1)) (takeAt bi g) (mvH hi z ((g : Int) * n + (((rowAt bi g).idxOf false : Nat) : Int) * szAt bi g))).2.2) := by
      show (match ri.find? (fun p => decide (false ∈ rowAt bi p)) with | none => _ | some g => _) = _
      rw [eg]
    rw [ef] at hfill
    obtain ⟨f1, f2⟩ := Prod.mk.inj hfill
    obtain ⟨f2, f3⟩ := Prod.mk.inj f2
    have hz := hheld z (by rw [edr]; exact List.mem_cons_self)
    obtain ⟨c, hc⟩ : ∃ c, hi z = some c := by
      cases e : hi z with
      | none => exact absurd e hz
      | some c => exact ⟨c, rfl⟩
    obtain ⟨hDi5, hDi6⟩ := gl si
    walk_at "rd"
    have hril : ri.length ≤ sizeLine := by
      have hsub : ∀ x ∈ ri, x ∈ List.range bs.length := fun x hx => List.mem_range.mpr (sh_lt (sri x hx))
      have := (nd_lt riu).length_le_of_subset hsub
      rw [List.length_range, R.wf.len] at this
      exact Nat.le_trans (m := 40) (by omega) (by decide)
    refine ⟨D6, rfl, ⟨_, toL hDi6⟩, fun D8 hD8 => lc_pm (fun p : Nat => if decide (false ∈ rowAt bi p) = true then some (V.ref (C.sa p)) else none) hD8 (toL hDi6) hril (fun j x H3 Ny Nn hx sx hy hn => ?_) fun H8 s8 hH8 => ?_⟩
    · walk_at "rd"
      refine ⟨rfl, ?_⟩
      walk_at "rd"
      obtain ⟨hS, _⟩ := Ri.sh x (hsh x (List.mem_of_getElem? hx))
      rw [esa] at hS
      obtain ⟨dx, ho⟩ := hS.ob
      refine r_recv (sx _ _ ho) (sf_no _ _ _ _ (by decide +kernel) (by decide +kernel) (by decide +kernel) (by decide +kernel)) ?_
      walk_at "rd"
      refine ⟨_, _, _, _, _, _, rfl, hS.sm sx, fun p hp => ?_⟩
      refine r_truL (toL upd_same) ?_
      by_cases hf : false ∈ rowAt bi x
      · obtain ⟨t, ht⟩ := free_head _ 0 hf
        rw [ht]
        refine r_ifT ?_
        walk_at "rd"
        exact hy _ _ (same_new hp) (if_pos (decide_eq_true hf))
      · have e : freeFrom 0 (rowAt bi x) = [] := List.eq_nil_of_length_eq_zero (by rw [len_free]; exact List.count_eq_zero.mpr hf)
        rw [e]
        refine r_ifF ?_
        exact hn _ (same_new hp) (if_neg (by rw [decide_eq_false hf]; exact Bool.false_ne_true))
    rw [fm_if] at hH8
    have R8 := Ri.sm s8
    obtain ⟨dr8, hr8, _⟩ := R8.ob
    walk_at "rd"
    refine r_recv hr8 (rf_no _ _ _ (by decide +kernel) (by decide +kernel) (by decide +kernel)) ?_
    walk_at "rd"
    refine r_ixL (n := 0) (toL hH8) rfl (v := .ref (C.sa g)) (by rw [List.getElem?_map, filt_head _ _ eg]; rfl) ?_
    walk_at "rd"
    refine ⟨r, wi, Ci, pl, m, n, xs, bi, hi, g, by rw [esa], R8, hfg, fun H9 s9 R9 => ?_⟩
    obtain ⟨dr9, hr9, _⟩ := R9.ob
    obtain ⟨kH9, hH9, hv9, R10, s10⟩ := R9.popH hc
    obtain ⟨e1, e2, e3⟩ := R9.hl z c hc
    obtain ⟨_, _, wdh, _⟩ := R9.hd
    have n1 : Ci.ha z ≠ Ci.dh := ne_of e1 hH9 (by intro z; cases z)
    have okt := R9.okk
    have hidx := idx_false hfg
    obtain ⟨g1, g2⟩ := Ri.okk.slot hsg (row_lt hidx)
    have gsz := Ri.okk.size hsg
    have hlt := sh_lt hsg
    rw [Ri.wf.len] at hlt
    have hp40 : (g : Int) + 1 ≤ 40 := by omega
    have hpn : (g : Int) * n + n ≤ 2400 := by
      have h2 : ((g : Int) + 1) * n ≤ 40 * 60 := Int.mul_le_mul hp40 hb.2.2.2.1 (by omega) (by decide)
      rw [Int.add_mul, Int.one_mul] at h2
      omega
    have hp0 : 0 ≤ (g : Int) * n := Int.mul_nonneg (by omega) (by omega)
    obtain ⟨kH10, hH10, hkl, R11, f11, n11⟩ := R10.putH (y := (g : Int) * n + (((rowAt bi g).idxOf false : Nat) : Int) * szAt bi g) (a := Ci.ha z) (c := c) ((upd_ne n1).trans e1) (.inr ⟨z, e2, if_pos rfl⟩) (by omega) e3
    obtain ⟨dr10, hr10, _⟩ := R10.ob
    have emv : (fun u => if u = (g : Int) * n + (((rowAt bi g).idxOf false : Nat) : Int) * szAt bi g then some c else (fun y => if y = z then none else hi y) u) = mvH hi z ((g : Int) * n + (((rowAt bi g).idxOf false : Nat) : Int) * szAt bi g) := by
      funext u
      unfold mvH
      rw [hc]
    walk_at "rd"
    refine r_fldR hr9 na.cl_Room na.na_Room__held (rf_held _ _ _) ?_
    refine ⟨Ci.dh, rfl, .inl ⟨_, .inl hH9⟩, ?_⟩
    walk_at "rd"
    refine ⟨_, .inl z, _, hH9, rfl, hv9, ?_⟩
    walk_at "rd"
    refine r_fldR hr10 na.cl_Room na.na_Room__held (rf_held _ _ _) ?_
    walk_at "rd"
    refine r_dputI hH10 (Nat.lt_of_le_of_lt hkl (by decide)) ?_
    have s11 := R10.stp (w' := fun b => if b = Ci.ha z then .hd ((g : Int) * n + (((rowAt bi g).idxOf false : Nat) : Int) * szAt bi g) else wi b) (fun b o ho hw => f11 b o ho hw (by rintro rfl; rw [e2] at hw; cases hw)) (fun b o ho hw => if_neg (by rintro rfl; rw [e2] at hw; cases hw))
    have sT := (((Stp.same s8).trans s9).trans s10).trans s11
    obtain ⟨hacc11, wacc11⟩ := sT.at hacc (by rw [wacc]; rfl) (.inl rfl)
    replace wacc11 := wacc11.trans wacc
    have hP11 := hP.stp sT
    walk_at "rd"
    refine ⟨ty_list (toL hacc11), ?_⟩
    walk_at "rd"
    refine ⟨by show 2 ≤ sizeLine; decide, fun t ht => ?_⟩
    have sN := same_new (o := .tup [.int z, .int ((g : Int) * n + (((rowAt bi g).idxOf false : Nat) : Int) * szAt bi g)]) ht
    have hacl : acc.length < sizeLine := by
      rw [hP.1, hdl]
      have hsub : ∀ x ∈ places, x ∈ ys := fun x hx => (hym x).mpr ((pmem x).mp hx).1
      have := (nodup_of_lt pup).length_le_of_subset hsub
      omega
    walk_at "rd"
    refine r_append (sN _ _ hacc11) hacl ?_
    walk_at "rd"
    have wt : (if t = Ci.ha z then Ow.hd ((g : Int) * n + (((rowAt bi g).idxOf false : Nat) : Int) * szAt bi g) else wi t) = .no := R11.free ht
    have sF := (sT.trans (Stp.same sN))
    have nt7 : t ≠ D7 := Ne.symm (ne_of_none hacc11 ht)
    have hS7 : Stp A w H7 (fun b => if b = Ci.ha z then .hd ((g : Int) * n + (((rowAt bi g).idxOf false : Nat) : Int) * szAt bi g) else wi b) (upd (upd (upd (upd H9 Ci.dh (.dK (dropK kH9 (.inl z)))) Ci.dh (.dK (putK kH10 (.inl ((g : Int) * n + (((rowAt bi g).idxOf false : Nat) : Int) * szAt bi g)) (.ref (Ci.ha z))))) t (.tup [.int z, .int ((g : Int) * n + (((rowAt bi g).idxOf false : Nat) : Int) * szAt bi g)])) D7 (.lst (acc ++ [.ref t]))) := by
      have sG := si.trans sF
      refine ⟨fun b o ho hw hn => ?_, fun hT7 => ?_⟩
      · obtain ⟨a1, a2⟩ := sG.fr b o ho hw hn
        exact ⟨(upd_ne (ne_of_none ho hD7)).trans a1, a2⟩
      · obtain ⟨ps, t1, t2, t3⟩ := sG.tb hT7
        have nl : ∀ {b : Addr} {o : HO}, (upd (upd (upd H9 Ci.dh (.dK (dropK kH9 (.inl z)))) Ci.dh (.dK (putK kH10 (.inl ((g : Int) * n + (((rowAt bi g).idxOf false : Nat) : Int) * szAt bi g)) (.ref (Ci.ha z))))) t (.tup [.int z, .int ((g : Int) * n + (((rowAt bi g).idxOf false : Nat) : Int) * szAt bi g)])) b = some o → o ≠ .lst acc → b ≠ D7 := fun h1 h2 => ne_of h1 (sN _ _ hacc11) h2
        refine ⟨ps, (upd_ne (nl t1 nofun)).trans t1, t2, fun pos cv hcv => ?_⟩
        obtain ⟨c2, u1, u2⟩ := t3 pos cv hcv
        exact ⟨c2, u1, (upd_ne (nl u2 nofun)).trans u2⟩
    refine ⟨some (.int z), _, _, _, { Ci with ha := fun u => if u = (g : Int) * n + (((rowAt bi g).idxOf false : Nat) : Int) * szAt bi g then Ci.ha z else Ci.ha u }, takeAt bi g, mvH hi z ((g : Int) * n + (((rowAt bi g).idxOf false : Nat) : Int) * szAt bi g), done ++ [(z, (g : Int) * n + (((rowAt bi g).idxOf false : Nat) : Int) * szAt bi g)], (fill n ri (places.drop (i + 1)) (takeAt bi g) (mvH hi z ((g : Int) * n + (((rowAt bi g).idxOf false : Nat) : Int) * szAt bi g))).2.2, acc ++ [.ref t], rfl, by rw [← emv]; exact (R11.sm sN).chg wacc11, hS7, esa, upd_same, wacc11, ?_, by rw [List.length_append, hdl]; rfl, Prod.ext f1 (Prod.ext f2 rfl), ?_, ?_, ?_, ?_⟩
    · refine Pairs.upd (o := acc) (Pairs.snoc (hP11.stp (Stp.same (A := A) sN)) upd_same (by show own (if t = Ci.ha z then _ else wi t) = false; rw [wt]; rfl)) (sN _ _ hacc11)
    · rw [List.append_assoc, ← happ, ← f3]
      rfl
    · intro x hx
      have hxs : x ∈ places.drop i := by rw [edr]; exact List.mem_cons_of_mem _ hx
      have hxz : x ≠ z := fun e => by
        have := (nodup_of_lt pup).sublist (List.drop_sublist i places)
        rw [edr] at this
        exact (List.nodup_cons.mp this).1 (by rw [← e]; exact hx)
      show (if x = (g : Int) * n + (((rowAt bi g).idxOf false : Nat) : Int) * szAt bi g then hi z else if x = z then none else hi x) ≠ none
      by_cases e : x = (g : Int) * n + (((rowAt bi g).idxOf false : Nat) : Int) * szAt bi g
      · rw [if_pos e, hc]; exact nofun
      · rw [if_neg e, if_neg hxz]
        exact hheld x hxs
    · have := freeSum_take hfg (nd_lt riu) hg
      omega
    · intro p hp
      rw [isSh_take hsg]
      exact hsh p hp
  · rintro σ Hi ⟨v4, v8, v9, wi, Ci, bi, hi, done, rest, acc, rfl, Ri, si, esa, hacc, wacc, hP, hdl, hfill, happ, hheld, hfree, hsh⟩
    rw [List.length_map, List.drop_length] at hfill
    obtain ⟨f1, f2⟩ := Prod.mk.inj hfill
    obtain ⟨f2, f3⟩ := Prod.mk.inj f2
    rw [← f3, List.append_nil] at happ
    rw [happ] at hP
    walk_at "rd"
    have hD70 : Nw H D7 := fun o e => Classical.byContradiction fun ht => by
      have := s7 _ _ (e6 _ _ (sB _ _ e) fun ps z => ht ⟨ps, z⟩)
      rw [hD7] at this
      cases this
    refine q Hi wi Ci D7 acc (st7.trans si) esa hD70 wacc hacc hP ?_
    rw [← f1, ← f2]
    exact Ri
theorem pure_Room_gather (vs : List V) (H : Hp) (Q : VK) (E : XK) (h : sp_Room_gather A vs H Q E) : t_Room_gather A E { nx := fun _ H' => Q .non H', rt := Q } (start ["self", "size", "per", "shelves", "things", "needed", "staying", "leaving", "moves", "shelf"] vs) H := by
  obtain ⟨r, w, pl, m, n, xs, bs, hf, x, rfl, ⟨C, R, hc⟩, hT, hx, q0, q⟩ := h
  obtain ⟨dr, hr, _⟩ := R.ob
  obtain ⟨dp, l, hpl, _, _⟩ := R.plan
  have hb := R.pb
  have hlen : bs.length ≤ 40 := by rw [R.wf.len]; omega
  unfold t_Room_gather
  walk_at "rd"
  refine r_fldR hr na.cl_Room na.na_Room__plan (rf_plan _ _ _) ?_
  refine r_recv hpl (pf_no _ _ _ (by decide +kernel) (by decide +kernel) (by decide +kernel)) ?_
  walk_at "rd"
  refine ⟨pl, m, n, xs, x, rfl, R.planAt, hx, fun s ex hs => ?_, fun hno => q0 hno⟩
  subst ex
  have q1 := q s rfl hs
  obtain ⟨hs1, hs2⟩ := R.okk.sz s hs
  have hper : 1 ≤ n / s := (Int.le_ediv_iff_mul_le (by omega)).mpr (by omega)
  have hper2 : n / s ≤ n := Int.ediv_le_self s (by omega)
  walk_at "rd"
  refine r_recv hr (rf_no _ _ _ (by decide +kernel) (by decide +kernel) (by decide +kernel)) ?_
  walk_at "rd"
  refine ⟨r, w, C, pl, m, n, xs, bs, hf, s, rfl, R, fun H1 D1 s1 hD1 hl1 => ?_⟩
  walk_at "rd"
  have hsh : ∀ p ∈ ofSize bs s, isSh bs p = true := fun p hp => (mem_ofSize.mp hp).1
  refine ⟨D1, A.v_fullest_first, refsOf C (ofSize bs s), kdB C bs, rfl, rfl, toL hl1, keyB (R.sm s1) hsh, fun ys D2 H2 s2 hD2 hl2 yp yl => ?_⟩
  obtain ⟨rk, rk1, rfl⟩ := perm_map_inv yp (ofSize bs s) rfl
  have hl2' : H2 D2 = some (.lst (refsOf C rk)) := hl2
  have hnd : rk.Nodup := rk1.nodup_iff.mpr ((pages_nd bs).filter _)
  have hrk : IsRank bs s rk := by
    refine ⟨rk1, ?_⟩
    rw [List.pairwise_map] at yl
    refine (yl.and hnd).imp_of_mem fun {a b} ha hb hab => ?_
    obtain ⟨hab, hne⟩ := hab
    unfold keyLe at hab
    rw [kdB_at R (hsh a (rk1.mem_iff.mp ha)), kdB_at R (hsh b (rk1.mem_iff.mp hb))] at hab
    rcases lexB_ff hab with z | ⟨z1, z2⟩
    · left; omega
    · right; omega
  have F := gath_facts R.okk hc hs hrk
  have q2 := q1 rk hrk
  have hrl : rk.length ≤ 40 := by
    rw [rk1.length_eq]
    exact Nat.le_trans (List.length_filter_le _ _) (Nat.le_trans (pages_le bs) hlen)
  have sA := s1.trans s2
  walk_at "rd"
  refine ⟨D2, rfl, ⟨_, toL hl2'⟩, fun D3 hD3 => lc_pm (fun p : Nat => some (V.int ((outAt bs p : Nat) : Int))) hD3 (toL hl2') (Nat.le_trans hrl (by decide)) (fun i x H3 Ny Nn hx sx hy hn => ?_) fun H3 s3 hH3 => ?_⟩
  · walk_at "rd"
    refine ⟨rfl, ?_⟩
    walk_at "rd"
    obtain ⟨hS, _⟩ := R.sh x (F.shs x (List.mem_of_getElem? hx)).1
    obtain ⟨dx, ho⟩ := hS.ob
    have sB := sA.trans sx
    refine r_recv (sB _ _ ho) (sf_no _ _ _ _ (by decide +kernel) (by decide +kernel) (by decide +kernel) (by decide +kernel)) ?_
    walk_at "rd"
    refine ⟨_, _, _, _, _, _, rfl, hS.sm sB, ?_⟩
    exact hy _ _ (Same.refl _) rfl
  rw [fm_all] at hH3
  have sC := sA.trans s3
  walk_at "rd"
  refine ⟨D3, rk.map fun p : Nat => ((outAt bs p : Nat) : Int), rfl, toL (by rw [hH3, List.map_map]; rfl), ?_⟩
  have esum : (rk.map fun p : Nat => ((outAt bs p : Nat) : Int)).sum = ((outSum bs (ofSize bs s) : Nat) : Int) := by
    rw [← outSum_perm rk1]
    unfold outSum
    generalize rk = l
    induction l with
    | nil => rfl
    | cons p l ih => rw [List.map_cons, List.sum_cons, List.map_cons, List.sum_cons, ih]; omega
  rw [esum]
  walk_at "rd"
  rw [F.eq]
  have hl3 : H3 D2 = some (.lst (refsOf C rk)) := s3 _ _ hl2'
  have hrfl : (refsOf C rk).length = rk.length := List.length_map _
  refine r_slTake (toL hl3) rfl (by rw [hrfl]; exact F.k) fun D4 hD4 => ?_
  have s4 := same_new (o := .lst ((refsOf C rk).take (needed n bs s))) hD4
  walk_at "rd"
  refine r_slDrop (toL (s4 _ _ hl3)) rfl (by rw [hrfl]; exact F.k) fun D5 hD5 => ?_
  have s5 := same_new (o := .lst ((refsOf C rk).drop (needed n bs s))) hD5
  have sD := (sC.trans s4).trans s5
  have R5 := R.sm sD
  have w4 : w D4 = .no := R.free (none_same sC hD4)
  have w5 : w D5 = .no := R.free (none_same (sC.trans s4) hD5)
  have h4 : upd (upd H3 D4 (.lst ((refsOf C rk).take (needed n bs s)))) D5 (.lst ((refsOf C rk).drop (needed n bs s))) D4 = some (.lst (refsOf C (rk.take (needed n bs s)))) := by
    rw [s5 _ _ upd_same]
    unfold refsOf
    rw [List.map_take]
  have h5 : upd (upd H3 D4 (.lst ((refsOf C rk).take (needed n bs s)))) D5 (.lst ((refsOf C rk).drop (needed n bs s))) D5 = some (.lst (refsOf C (rk.drop (needed n bs s)))) := by
    rw [upd_same]
    unfold refsOf
    rw [List.map_drop]
  walk_at "rd"
  refine r_recv (sD _ _ hr) (rf_no _ _ _ (by decide +kernel) (by decide +kernel) (by decide +kernel)) ?_
  walk_at "rd"
  refine ⟨r, w, C, pl, m, n, xs, bs, hf, rk.drop (needed n bs s), rk.take (needed n bs s), D5, D4, rise bs (rk.take (needed n bs s)), placesOn n bs (rk.drop (needed n bs s)), rfl, R5, hT.ext sD, h5, by rw [w5]; rfl, h4, by rw [w4]; rfl, fun p hp => (F.shs p (List.mem_of_mem_drop hp)).1, fun p hp => (F.shs p (List.mem_of_mem_take hp)).1, by rw [List.length_drop]; omega, F.st, rise_up _ _, F.pu, F.pm, F.pl, fun H6 w6 C6 D6 ys st6 esa nw6 wD6 hD6 hP6 R6 => ?_⟩
  obtain ⟨h5', w5'⟩ := st6.at h5 (by rw [w5]; rfl) (.inl rfl)
  obtain ⟨dr6, hr6, _⟩ := R6.ob
  walk_at "rd"
  refine r_recv hr6 (rf_no _ _ _ (by decide +kernel) (by decide +kernel) (by decide +kernel)) ?_
  walk_at "rd"
  refine ⟨r, w6, C6, pl, m, n, xs, _, _, rk.drop (needed n bs s), D5, rfl, R6, by rw [h5']; unfold refsOf; rw [esa], by rw [w5', w5]; rfl, hnd.sublist (List.drop_sublist _ _), fun p hp => ?_, fun H7 s7 R7 => ?_⟩
  · rw [(F.fr.sh p).1]
    exact (F.shs p (List.mem_of_mem_drop hp)).1
  · walk_at "rd"
    have nw : Nw H D6 := fun o e => nw6 o (sD _ _ e)
    exact q2 H7 w6 D6 ys (((Stp.same sD).trans st6).trans s7) nw wD6 (s7.at hD6 (by rw [wD6]; rfl) (.inl rfl)).1 (hP6.stp s7) ⟨C6, R7, F.fin.2⟩
end

/-! ### the defs of plans keep their promises -/
section
variable (A : Ad) (na : NA A)
include na
theorem pure_is_whole (vs : List V) (H : Hp) (Q : VK) (E : XK) (h : sp_is_whole A vs H Q E) : t_is_whole A E { nx := fun _ H' => Q .non H', rt := Q } (start ["number"] vs) H := by
  obtain ⟨x, rfl, hp, q⟩ := h
  unfold t_is_whole
  cases x with
  | non => walk_at "rd"; exact q
  | bl b => walk_at "rd"; exact q
  | int i => walk_at "rd"; exact q
  | str z => walk_at "rd"; exact q
  | _ => exact absurd hp Bool.false_ne_true
theorem pure_is_within (vs : List V) (H : Hp) (Q : VK) (E : XK) (h : sp_is_within A vs H Q E) : t_is_within A E { nx := fun _ H' => Q .non H', rt := Q } (start ["number", "least", "most"] vs) H := by
  obtain ⟨x, a, b, rfl, hp, q⟩ := h
  unfold t_is_within
  walk_at "rd"
  refine ⟨x, rfl, hp, ?_⟩
  cases x with
  | int i =>
    walk_at "rd"
    try refine r_ifT ?_
    walk_at "rd"
    refine r_ifd (fun h1 => ?_) (fun h1 => ?_)
    · walk_at "rd"
      have e : inR (.int i) a b = decide (i ≤ b) := by show (decide (a ≤ i) && decide (i ≤ b)) = _; rw [decide_eq_true h1]; simp
      rw [e] at q
      exact q
    · have e : inR (.int i) a b = false := by show (decide (a ≤ i) && decide (i ≤ b)) = _; rw [decide_eq_false h1]; simp
      rw [e] at q
      exact q
  | non => walk_at "rd"; (try refine r_ifF ?_); walk_at "rd"; exact q
  | bl b => walk_at "rd"; (try refine r_ifF ?_); walk_at "rd"; exact q
  | str z => walk_at "rd"; (try refine r_ifF ?_); walk_at "rd"; exact q
  | _ => exact absurd hp Bool.false_ne_true
omit na in
theorem take_all {xs : List V} {f : V → Bool} (h : xs.all f = true) {i : Nat} {x : V} (e : xs[i]? = some x) : f x = true := List.all_eq_true.mp h x (List.mem_of_getElem? e)
omit na in
theorem okFrom_cons {n : Int} {x : V} {r : List V} {a : Int} : okFrom n a (x :: r) = (inR x (a + 1) n && (match x with | .int i => okFrom n i r | _ => true)) := by
  cases x <;> first | rfl | (show _ = (false && true); rfl)
/-- what is ahead behind i sizes -/
def aheadOf : List V → Int → Nat → Int
  | _, a, 0 => a
  | .int i :: r, _, k + 1 => aheadOf r i k
  | _, a, _ => a
omit na in
theorem okFrom_at {n : Int} : ∀ {xs : List V} {a : Int} {i : Nat} {x : V}, okFrom n a xs = true → xs[i]? = some x → inR x (aheadOf xs a i + 1) n = true ∧ ∃ z, x = .int z ∧ aheadOf xs a (i + 1) = z
  | [], _, _, _, _, e => by simp at e
  | y :: r, a, 0, x, h, e => by
    obtain rfl : y = x := Option.some.inj e
    rw [okFrom_cons, Bool.and_eq_true] at h
    refine ⟨h.1, ?_⟩
    cases y with
    | int z => exact ⟨z, rfl, by cases r <;> rfl⟩
    | _ => exact absurd h.1 Bool.false_ne_true
  | y :: r, a, i + 1, x, h, e => by
    rw [okFrom_cons, Bool.and_eq_true] at h
    cases y with
    | int z =>
      have h2 : okFrom n z r = true := h.2
      exact okFrom_at (i := i) h2 e
    | _ => exact absurd h.1 Bool.false_ne_true
/-- the first i sizes are in order -/
def okTo (n : Int) (xs : List V) (i : Nat) : Prop := okFrom n 0 (xs.take i) = true
omit na in
theorem okFrom_snoc {n : Int} : ∀ {xs : List V} {a : Int} {x : V} , okFrom n a (xs ++ [x]) = (okFrom n a xs && inR x (aheadOf xs a xs.length + 1) n)
  | [], a, x => by
    rw [List.nil_append, okFrom_cons]
    cases x <;> first | rfl | (show (inR _ _ _ && true) = (true && inR _ _ _); rw [Bool.and_true, Bool.true_and]; rfl)
  | y :: r, a, x => by
    rw [List.cons_append, okFrom_cons, okFrom_cons]
    cases y with
    | int z =>
      show (_ && okFrom n z (r ++ [x])) = (_ && okFrom n z r && inR x (aheadOf r z r.length + 1) n)
      rw [okFrom_snoc, Bool.and_assoc]
    | _ => rfl
omit na in
theorem okFrom_pre {n : Int} : ∀ {xs ys : List V} {a : Int}, okFrom n a (xs ++ ys) = true → okFrom n a xs = true
  | [], _, _, _ => rfl
  | y :: r, ys, a, h => by
    rw [List.cons_append, okFrom_cons, Bool.and_eq_true] at h
    rw [okFrom_cons, Bool.and_eq_true]
    refine ⟨h.1, ?_⟩
    cases y with
    | int z => exact okFrom_pre (ys := ys) h.2
    | _ => rfl
theorem pure_check_sizes (vs : List V) (H : Hp) (Q : VK) (E : XK) (h : sp_check_sizes A vs H Q E) : t_check_sizes A E { nx := fun _ H' => Q .non H', rt := Q } (start ["sizes", "length", "ahead", "size"] vs) H := by
  obtain ⟨s, n, rfl, h⟩ := h
  unfold t_check_sizes
  rcases h with ⟨l, xs, rfl, hl, hp, q1, q2⟩ | ⟨hn, q⟩
  · walk_at "rd"
    refine isi_LL hl ?_
    walk_at "rd"
    try refine r_ifF ?_
    walk_at "rd"
    refine r_lenL (toL hl) ?_
    walk_at "rd"
    refine ⟨_, _, _, rfl, rfl, ?_⟩
    walk_at "rd"
    have eR : inR (.int (xs.length : Int)) 1 8 = (decide (1 ≤ xs.length) && decide (xs.length ≤ 8)) := by
      unfold inR
      by_cases h1 : 1 ≤ xs.length <;> by_cases h2 : xs.length ≤ 8 <;> simp [h1, h2] <;> omega
    refine r_ifnb (fun hb => ?_) (fun hb => ?_)
    · -- too few or too many
      show tJs _ _ _ _ _
      refine ⟨_, rfl, (by decide +kernel), Or.inr ⟨8, rfl, by decide +kernel, _, rfl, (by decide +kernel), _, rfl, (by decide +kernel), ?_⟩⟩
      refine q2 ?_
      unfold okSizes
      rw [← eR, hb]; rfl
    · walk_at "rd"
      have hlen : okSizes xs n = okFrom n 0 xs := by unfold okSizes; rw [← eR, hb]; rfl
      rw [hlen] at q1 q2
      refine ⟨l, rfl, ⟨xs, toL hl⟩, for_list (K := A.K) (a := l) (xs := xs) (fun i σ H' => ∃ v : Option V, σ = [some (.ref l), some (.int n), some (.int (aheadOf (xs.take i) 0 (xs.take i).length)), v] ∧ H' = H ∧ okFrom n 0 (xs.take i) = true)
        ⟨none, rfl, rfl, rfl⟩ (fun i σ H' _ ⟨_, _, e, _⟩ => by rw [e]; exact toL hl) ?_ ?_⟩
      · rintro i x σ H' hi ⟨v, rfl, rfl, hok⟩
        have hx := take_all hp hi
        have hlt : i < xs.length := (List.getElem?_eq_some_iff.mp hi).1
        have htk : xs.take (i + 1) = xs.take i ++ [x] := by
          rw [List.take_add_one, hi]; rfl
        walk_at "rd"
        refine ⟨x, _, _, rfl, hx, ?_⟩
        walk_at "rd"
        refine r_ifnb (fun hb => ?_) (fun hb => ?_)
        · refine q2 ?_
          cases e : okFrom n 0 xs with
          | false => rfl
          | true =>
            have e2 : okFrom n 0 (xs.take (i + 1)) = true := okFrom_pre (ys := xs.drop (i + 1)) (by rw [List.take_append_drop]; exact e)
            rw [htk, okFrom_snoc, hb, Bool.and_false] at e2
            cases e2
        · walk_at "rd"
          have hok' : okFrom n 0 (xs.take (i + 1)) = true := by rw [htk, okFrom_snoc, hok, hb]; rfl
          obtain ⟨_, z, rfl, ez⟩ := okFrom_at (i := i) (x := x) hok' (by rw [List.getElem?_take_of_lt (Nat.lt_succ_self i)]; exact hi)
          refine ⟨some (.int z), ?_, rfl, hok'⟩
          have ln : (xs.take (i + 1)).length = i + 1 := by rw [List.length_take]; omega
          rw [ln, ez]
          rfl
      · rintro σ H' ⟨v, rfl, rfl, hok⟩
        rw [List.take_length] at hok
        walk_at "rd"
        exact q1 hok
  · walk_at "rd"
    rcases hn with hn | ⟨t, ys, rfl, ht⟩
    · cases s with
      | non => walk_at "rd"; exact q
      | bl b =>
        refine r_isi (t := .type "bool") (b := false) (.base (.bl b)) (kit_ty (by decide +kernel)) ?_
        walk_at "rd"; exact q
      | int i =>
        refine r_isi (t := .type "int") (b := false) (.base (.int i)) (kit_ty (by decide +kernel)) ?_
        walk_at "rd"; exact q
      | str z => walk_at "rd"; exact q
      | _ => exact absurd hn Bool.false_ne_true
    · refine isi_TL ht ?_
      walk_at "rd"; exact q
omit na in
theorem plan_put (m n : Int) (l : Addr) : putF "sizes" (.ref l) (putF "length" (.int n) (putF "pages" (.int m) [])) = planF m n l := rfl
theorem pure_Plan_init (vs : List V) (H : Hp) (Q : VK) (E : XK) (h : sp_Plan_init A vs H Q E) : t_Plan_init A E { nx := fun _ H' => Q .non H', rt := Q } (start ["self", "pages", "length", "sizes"] vs) H := by
  obtain ⟨p, dx, pg, ln, sz, rfl, hp, ppg, pln, h⟩ := h
  unfold t_Plan_init
  walk_at "rd"
  refine ⟨pg, _, _, rfl, ppg, ?_⟩
  walk_at "rd"
  rcases h with ⟨m, n, xs, l, rfl, rfl, rfl, m1, m2, n1, n2, hl, ok, q⟩ | ⟨hb, q⟩
  · refine r_ifnb (fun hb => absurd hb ?_) (fun _ => ?_)
    · show ¬ (decide (1 ≤ m) && decide (m ≤ 40)) = false
      simp [m1, m2]
    walk_at "rd"
    refine ⟨_, _, _, rfl, rfl, ?_⟩
    walk_at "rd"
    refine r_ifnb (fun hb => absurd hb ?_) (fun _ => ?_)
    · show ¬ (decide (1 ≤ n) && decide (n ≤ 60)) = false
      simp [n1, n2]
    walk_at "rd"
    refine ⟨_, _, rfl, .inl ⟨l, _, rfl, hl, by rw [List.all_eq_true]; intro v hv; obtain ⟨z, _, rfl⟩ := List.mem_map.mp hv; rfl, fun _ => ?_, fun e => absurd (ok.symm.trans e) (by decide)⟩⟩
    have nlp : l ≠ p := ne_of hl hp (by intro z; cases z)
    walk_at "rd"
    refine ⟨p, A.c_Plan, dx, [], rfl, hp, na.cl_Plan, na.na_Plan_pages, (by show 0 < 1000; decide), ?_⟩
    walk_at "rd"
    refine ⟨p, A.c_Plan, dx, _, rfl, upd_same, na.cl_Plan, na.na_Plan_length, pf_len1 m, ?_⟩
    walk_at "rd"
    refine r_listL (toL ((upd_ne nlp).trans ((upd_ne nlp).trans hl))) (fun l' hl' => ?_)
    have h0 : H l' = none := by
      by_cases e : l' = p
      · rw [e, upd_same] at hl'; cases hl'
      · rw [upd_ne e, upd_ne e] at hl'; exact hl'
    have npl : p ≠ l' := ne_of_none hp h0
    walk_at "rd"
    refine ⟨p, A.c_Plan, dx, _, rfl, (upd_ne npl).trans upd_same, na.cl_Plan, na.na_Plan_sizes, pf_len2 m n, ?_⟩
    walk_at "rd"
    refine q _ l' h0 upd_same ((upd_ne npl.symm).trans upd_same) (fun b o e nb => ?_)
    rw [upd_ne nb, upd_ne (ne_of_none e h0), upd_ne nb, upd_ne nb]
    exact e
  · rcases hb with hb | hb
    · rw [hb]
      try refine r_ifT ?_
      show tJs _ _ _ _ _
      exact ⟨_, rfl, (by decide +kernel), Or.inr ⟨40, rfl, by decide +kernel, _, rfl, (by decide +kernel), _, rfl, (by decide +kernel), q⟩⟩
    refine r_ifnb (fun _ => ?_) (fun _ => ?_)
    · show tJs _ _ _ _ _
      exact ⟨_, rfl, (by decide +kernel), Or.inr ⟨40, rfl, by decide +kernel, _, rfl, (by decide +kernel), _, rfl, (by decide +kernel), q⟩⟩
    walk_at "rd"
    refine ⟨_, _, _, rfl, pln, ?_⟩
    walk_at "rd"
    have bad : tJs [tC (V.str (Str.ofString "a plan has a length of 1 to ")), tFmt (tC (V.int 60))] Str.empty (L2.start [Str.ofString "self", Str.ofString "pages", Str.ofString "length", Str.ofString "sizes"] [V.ref p, pg, ln, sz]) H fun out H1 => E (Value.ref A.c_BadPlan) none H1 :=
      ⟨_, rfl, (by decide +kernel), Or.inr ⟨60, rfl, by decide +kernel, _, rfl, (by decide +kernel), q⟩⟩
    rcases hb with hb | hb
    · rw [hb]
      try refine r_ifT ?_
      exact bad
    refine r_ifnb (fun _ => bad) (fun _ => ?_)
    walk_at "rd"
    rcases hb with ⟨hi, hn⟩ | ⟨n, l, xs, rfl, rfl, hl, hx, hz⟩
    · cases ln with
      | int n => exact ⟨sz, n, rfl, .inr ⟨hn, q⟩⟩
      | _ => exact absurd hi Bool.false_ne_true
    · exact ⟨_, n, rfl, .inl ⟨l, xs, rfl, hl, hx, fun e => absurd (hz.symm.trans e) (by decide), fun _ => q⟩⟩
theorem pure_Plan_size_for (vs : List V) (H : Hp) (Q : VK) (E : XK) (h : sp_Plan_size_for A vs H Q E) : t_Plan_size_for A E { nx := fun _ H' => Q .non H', rt := Q } (start ["self", "wish", "size"] vs) H := by
  obtain ⟨p, m, n, xs, w, rfl, hP, pw, q1, q2⟩ := h
  obtain ⟨dx, l, hp, hl⟩ := hP.ob
  unfold t_Plan_size_for
  walk_at "rd"
  refine ⟨w, rfl, pw, ?_⟩
  cases w with
  | non => walk_at "rd"; (try refine r_ifT ?_); walk_at "rd"; exact q1 (.inl rfl)
  | bl b => walk_at "rd"; (try refine r_ifT ?_); walk_at "rd"; exact q1 (.inl rfl)
  | str z => walk_at "rd"; (try refine r_ifT ?_); walk_at "rd"; exact q1 (.inl rfl)
  | int i =>
    walk_at "rd"
    try refine r_ifF ?_
    walk_at "rd"
    refine r_ifd (fun h1 => ?_) (fun h1 => ?_)
    · exact q1 (.inr ⟨i, rfl, h1⟩)
    obtain ⟨qa, qb⟩ := q2 i rfl (by omega)
    walk_at "rd"
    refine r_fldR hp na.cl_Plan na.na_Plan_sizes (pf_sizes _ _ _) ?_
    refine ⟨l, rfl, ⟨_, toL hl⟩, for_list (K := A.K) (a := l) (xs := xs.map V.int) (fun k σ H' => ∃ v : Option V, σ = [some (.ref p), some (.int i), v] ∧ H' = H ∧ (xs.take k).find? (fun s => decide (i ≤ s)) = none)
      ⟨none, rfl, rfl, rfl⟩ (fun k σ H' _ ⟨_, _, e, _⟩ => by rw [e]; exact toL hl) ?_ ?_⟩
    · rintro k x σ H' hk ⟨v, rfl, rfl, hno⟩
      obtain ⟨z, hz, rfl⟩ : ∃ z, xs[k]? = some z ∧ x = V.int z := by
        rw [List.getElem?_map] at hk
        cases e : xs[k]? with
        | none => rw [e] at hk; cases hk
        | some z => rw [e] at hk; exact ⟨z, rfl, (Option.some.inj hk).symm⟩
      have htk : xs.take (k + 1) = xs.take k ++ [z] := by rw [List.take_add_one, hz]; rfl
      walk_at "rd"
      refine r_ifd (fun h2 => ?_) (fun h2 => ?_)
      · walk_at "rd"
        refine qa z ?_
        have e : xs = xs.take (k + 1) ++ xs.drop (k + 1) := (List.take_append_drop _ _).symm
        rw [e, htk, List.append_assoc, List.find?_append, hno]
        simp [h2]
      · walk_at "rd"
        refine ⟨some (.int z), rfl, rfl, ?_⟩
        rw [htk, List.find?_append, hno]
        simp [h2]
    · rintro σ H' ⟨v, rfl, rfl, hno⟩
      rw [List.length_map, List.take_length] at hno
      exact qb hno
  | _ => exact absurd pw Bool.false_ne_true
theorem pure_Plan_per (vs : List V) (H : Hp) (Q : VK) (E : XK) (h : sp_Plan_per A vs H Q E) : t_Plan_per A E { nx := fun _ H' => Q .non H', rt := Q } (start ["self", "size"] vs) H := by
  obtain ⟨p, m, n, xs, w, rfl, hP, pw, q1, q2⟩ := h
  obtain ⟨dx, l, hp, hl⟩ := hP.ob
  unfold t_Plan_per
  walk_at "rd"
  refine ⟨w, rfl, pw, ?_⟩
  cases w with
  | non => walk_at "rd"; (try refine r_ifT ?_); walk_at "rd"; exact q2 (fun _ e => nomatch e)
  | bl b => walk_at "rd"; (try refine r_ifT ?_); walk_at "rd"; exact q2 (fun _ e => nomatch e)
  | str z => walk_at "rd"; (try refine r_ifT ?_); walk_at "rd"; exact q2 (fun _ e => nomatch e)
  | int i =>
    walk_at "rd"
    try refine r_ifF ?_
    walk_at "rd"
    refine r_fldR hp na.cl_Plan na.na_Plan_sizes (pf_sizes _ _ _) ?_
    refine r_ninI (toL hl) ?_
    walk_at "rd"
    refine r_ifnd (fun h1 => ?_) (fun h1 => ?_)
    · exact q2 (fun j e => by cases e; exact h1)
    · have hm := okSizes_mem hP.ok i h1
      have := hP.n2
      walk_at "rd"
      refine r_fldR hp na.cl_Plan na.na_Plan_length (pf_length _ _ _) ?_
      walk_at "rd"
      exact q1 i rfl h1
  | _ => exact absurd pw Bool.false_ne_true
end

/-! ### the sizes that are drawn -/
theorem sbRun_inv (n span r0 : Int) (hs : 1 ≤ span) : ∀ k : Nat, ((sbRun n span r0 k).1.length ≤ k) ∧ 0 ≤ (sbRun n span r0 k).2.1 ∧ okFrom n 0 ((sbRun n span r0 k).1.map V.int) = true ∧
    aheadOf ((sbRun n span r0 k).1.map V.int) 0 ((sbRun n span r0 k).1.map V.int).length ≤ (sbRun n span r0 k).2.1
  | 0 => ⟨Nat.le_refl _, Int.le_refl _, rfl, Int.le_refl _⟩
  | k + 1 => by
    obtain ⟨h1, h2, h3, h4⟩ := sbRun_inv n span r0 hs k
    have hm : 0 ≤ (sbRun n span r0 k).2.2 % span := Int.emod_nonneg _ (by omega)
    show (sbStep n span (sbRun n span r0 k)).1.length ≤ k + 1 ∧ 0 ≤ (sbStep n span (sbRun n span r0 k)).2.1 ∧ okFrom n 0 ((sbStep n span (sbRun n span r0 k)).1.map V.int) = true ∧
      aheadOf ((sbStep n span (sbRun n span r0 k)).1.map V.int) 0 ((sbStep n span (sbRun n span r0 k)).1.map V.int).length ≤ (sbStep n span (sbRun n span r0 k)).2.1
    generalize sbRun n span r0 k = s at h1 h2 h3 h4 hm
    obtain ⟨l, b, r⟩ := s
    unfold sbStep
    dsimp only at h1 h2 h3 h4 hm ⊢
    by_cases hb : b + 1 + r % span ≤ n
    · rw [if_pos hb]
      refine ⟨by rw [List.length_append]; simp; omega, by omega, ?_, ?_⟩
      · rw [List.map_append, List.map_singleton, okFrom_snoc, h3, Bool.true_and]
        show (decide _ && decide _) = true
        simp only [Bool.and_eq_true, decide_eq_true_eq]
        omega
      · have e : okFrom n 0 ((l ++ [b + 1 + r % span]).map V.int) = true := by
          rw [List.map_append, List.map_singleton, okFrom_snoc, h3, Bool.true_and]
          show (decide _ && decide _) = true
          simp only [Bool.and_eq_true, decide_eq_true_eq]
          omega
        obtain ⟨_, z, ez, ea⟩ := okFrom_at (i := l.length) (x := V.int (b + 1 + r % span)) e (by rw [List.map_append, List.getElem?_append_right (by simp)]; simp)
        have el : ((l ++ [b + 1 + r % span]).map V.int).length = l.length + 1 := by simp
        rw [el, ea]
        cases ez
        exact Int.le_refl _
    · rw [if_neg hb]
      exact ⟨by omega, by omega, h3, by omega⟩
theorem sizesBy_ok {c n m : Int} (h1 : 1 ≤ n) (h2 : n ≤ 60) (h3 : 1 ≤ m) (h4 : m ≤ 8) : okSizes ((sizesBy c n m).map V.int) n = true := by
  have hs : 1 ≤ (if c % 3 = 0 then n else 4) := by split <;> omega
  obtain ⟨k1, k2, k3, k4⟩ := sbRun_inv n (if c % 3 = 0 then n else 4) (c / 3) hs m.toNat
  unfold sizesBy
  dsimp only
  by_cases e : (sbRun n (if c % 3 = 0 then n else 4) (c / 3) m.toNat).1 = []
  · rw [if_pos e]
    show (decide (1 ≤ 1) && decide (1 ≤ 8) && (decide (0 + 1 ≤ n) && decide (n ≤ n) && true)) = true
    simp
    omega
  · rw [if_neg e]
    unfold okSizes
    rw [k3, List.length_map]
    have : 0 < (sbRun n (if c % 3 = 0 then n else 4) (c / 3) m.toNat).1.length := List.length_pos_iff.mpr e
    simp only [Bool.and_true, Bool.and_eq_true, decide_eq_true_eq]
    omega
section
variable (A : Ad) (na : NA A)
include na
theorem pure_l_sizes_by (vs : List V) (H : Hp) (Q : VK) (E : XK) (h : sp_l_sizes_by A vs H Q E) : t_l_sizes_by A E { nx := fun _ H' => Q .non H', rt := Q } (start ["_law_cell", "_law_length", "_law_many", "_law_found", "_law_before", "_law_rest", "_law_span", "_law_turn"] vs) H := by
  obtain ⟨c, n, m, rfl, n1, n2, m1, m2, q⟩ := h
  unfold t_l_sizes_by
  walk_at "rd"
  refine ⟨Nat.zero_le _, fun p hp => ?_⟩
  walk_at "rd"
  refine r_join (fun σ' H' => ∃ span, span = (if c % 3 = 0 then n else 4) ∧ σ' = [some (.int c), some (.int n), some (.int m), some (.ref p), some (.int 0), some (.int (c / 3)), some (.int span), none] ∧ H' = upd H p (.lst [])) ?_ (fun R main => ?_)
  · rintro σ' H' ⟨span, hs, rfl, rfl⟩
    have s1 : 1 ≤ span := by rw [hs]; split <;> omega
    have s2 : span ≤ 60 := by rw [hs]; split <;> omega
    walk_at "rd"
    refine ⟨m, rfl, by omega, by omega, for_range (lo := 0) (n := m.toNat) (fun i σ H' => ∃ v : Option V, σ = [some (.int c), some (.int n), some (.int m), some (.ref p), some (.int (sbRun n span (c / 3) i).2.1), some (.int (sbRun n span (c / 3) i).2.2), some (.int span), v] ∧
        Same H H' ∧ H' p = some (.lst ((sbRun n span (c / 3) i).1.map V.int))) ⟨none, rfl, same_new hp, upd_same⟩ ?_ ?_⟩
    · rintro i σ H' hi ⟨v, rfl, s, hl⟩
      obtain ⟨k1, k2, k3, k4⟩ := sbRun_inv n span (c / 3) s1 i
      walk_at "rd"
      refine r_ifd (fun hb => ?_) (fun hb => ?_)
      · walk_at "rd"
        refine ⟨ty_list (toL hl), ?_⟩
        walk_at "rd"
        refine r_append hl (by rw [List.length_map]; exact small1000 (by omega)) ?_
        walk_at "rd"
        refine ⟨some (.int (0 + (i : Int))), ?_, fun b o e => ?_, ?_⟩
        · rfl
        · rw [upd_ne (ne_of_none e hp)]; exact s b o e
        · rw [upd_same]
          show some (HO.lst _) = some (HO.lst (List.map V.int (sbStep n span (sbRun n span (c / 3) i)).1))
          have e : (sbStep n span (sbRun n span (c / 3) i)).1 = (sbRun n span (c / 3) i).1 ++ [(sbRun n span (c / 3) i).2.1 + 1 + (sbRun n span (c / 3) i).2.2 % span] := by
            unfold sbStep; exact if_pos hb
          rw [e, List.map_append, List.map_singleton]
      · walk_at "rd"
        refine ⟨some (.int (0 + (i : Int))), rfl, s, ?_⟩
        have e : (sbStep n span (sbRun n span (c / 3) i)).1 = (sbRun n span (c / 3) i).1 := by unfold sbStep; exact if_neg hb
        show H' p = some (HO.lst (List.map V.int (sbStep n span (sbRun n span (c / 3) i)).1))
        rw [e]; exact hl
    · rintro σ H' ⟨v, rfl, s, hl⟩
      walk_at "rd"
      refine ⟨Nat.zero_le _, fun e he => ?_⟩
      have nep : p ≠ e := ne_of_none hl he
      refine r_eqL (ns := (sbRun n span (c / 3) m.toNat).1) (ms := []) (toL ((upd_ne nep).trans hl)) (toL upd_same) ?_
      walk_at "rd"
      have hz : sizesBy c n m = if (sbRun n span (c / 3) m.toNat).1 = [] then [n] else (sbRun n span (c / 3) m.toNat).1 := by unfold sizesBy; rw [hs]
      refine r_ifd (fun h0 => ?_) (fun h0 => ?_)
      · walk_at "rd"
        refine ⟨ty_list (toL ((upd_ne nep).trans hl)), ?_⟩
        walk_at "rd"
        refine r_append ((upd_ne nep).trans hl) (by rw [h0]; exact small1000 (by simp)) ?_
        walk_at "rd"
        refine q p _ hp (fun b o eo => ?_) ?_
        · rw [upd_ne (ne_of_none eo hp), upd_ne (ne_of_none (s b o eo) he)]
          exact s b o eo
        · rw [upd_same, hz, if_pos h0, h0]; rfl
      · walk_at "rd"
        refine q p _ hp (fun b o eo => ?_) ?_
        · rw [upd_ne (ne_of_none (s b o eo) he)]; exact s b o eo
        · rw [upd_ne nep, hz, if_neg h0]; exact hl
  refine r_ifd (fun h3 => ?_) (fun h3 => ?_)
  · walk_at "rd"
    exact main _ _ ⟨n, by rw [if_pos h3], rfl, rfl⟩
  · walk_at "rd"
    exact main _ _ ⟨4, by rw [if_neg h3], rfl, rfl⟩
end

/-! ### what the laws share keeps its promises -/
section
variable (A : Ad) (na : NA A)
include na
omit na in
theorem ints_at {ns : List Int} {k : Int} (h0 : 0 ≤ k) (h1 : k < (ns.length : Int)) : (ns.map V.int)[k.toNat]? = some (.int (ns.getD k.toNat 0)) := by
  have hk : k.toNat < ns.length := by omega
  rw [List.getElem?_map, List.getD_eq_getElem?_getD, List.getElem?_eq_getElem hk]
  rfl
theorem pure_l_cell_at (vs : List V) (H : Hp) (Q : VK) (E : XK) (h : sp_l_cell_at A vs H Q E) : t_l_cell_at A E { nx := fun _ H' => Q .non H', rt := Q } (start ["_law_script", "_law_k"] vs) H := by
  obtain ⟨a, k, ns, rfl, hs, h0, q⟩ := h
  unfold t_l_cell_at
  unfold cellAt at q
  walk_at "rd"
  refine r_lenL hs ?_
  walk_at "rd"
  rw [List.length_map]
  refine r_ifd (fun h1 => ?_) (fun h1 => ?_)
  · walk_at "rd"
    refine r_ixL hs (Int.toNat_of_nonneg h0).symm (ints_at h0 h1) ?_
    rw [if_pos h1] at q
    exact q
  · walk_at "rd"
    rw [if_neg h1] at q
    exact q
theorem pure_l_whole (vs : List V) (H : Hp) (Q : VK) (E : XK) (h : sp_l_whole A vs H Q E) : t_l_whole A E { nx := fun _ H' => Q .non H', rt := Q } (start ["_law_found"] vs) H := by
  obtain ⟨x, rfl, hp, q⟩ := h
  unfold t_l_whole
  cases x with
  | non => walk_at "rd"; exact q
  | bl b => walk_at "rd"; exact q
  | int i => walk_at "rd"; exact q
  | str z => walk_at "rd"; exact q
  | _ => exact absurd hp Bool.false_ne_true
theorem pure_l_plan_by (vs : List V) (H : Hp) (Q : VK) (E : XK) (h : sp_l_plan_by A vs H Q E) : t_l_plan_by A E { nx := fun _ H' => Q .non H', rt := Q } (start ["_law_script", "_law_first", "_law_second", "_law_pages", "_law_length"] vs) H := by
  obtain ⟨a, ns, rfl, hs, q⟩ := h
  unfold t_l_plan_by
  have rc : ∀ (k : Int) (H' : Hp) (Q' : VK) (E' : XK), Same H H' → 0 ≤ k → Q' (.int (cellAt ns k)) H' → sp_l_cell_at A [.ref a, .int k] H' Q' E' := fun k H' Q' E' s hk q => ⟨a, k, ns, rfl, s.seq hs, hk, q⟩
  walk_at "rd"
  refine rc 0 _ _ _ (Same.refl H) (by decide) ?_
  walk_at "rd"
  refine rc 1 _ _ _ (Same.refl H) (by decide) ?_
  walk_at "rd"
  generalize cellAt ns 0 = c0
  generalize cellAt ns 1 = c1
  refine r_join (fun σ' H' => ∃ m n : Int, 1 ≤ m ∧ m ≤ 40 ∧ 1 ≤ n ∧ n ≤ 60 ∧ σ' = [some (.ref a), some (.int c0), some (.int c1), some (.int m), some (.int n)] ∧ H' = H) ?_ (fun R main => ?_)
  rotate_left
  · refine r_ifd (fun h3 => ?_) (fun h3 => ?_)
    · walk_at "rd"
      exact main _ _ ⟨_, _, by omega, by omega, by omega, by omega, rfl, rfl⟩
    · walk_at "rd"
      exact main _ _ ⟨_, _, by omega, by omega, by omega, by omega, rfl, rfl⟩
  rintro σ' H' ⟨m, n, m1, m2, n1, n2, rfl, rfl⟩
  walk_at "rd"
  refine r_join (fun σ' H1 => ∃ m n : Int, 1 ≤ m ∧ m ≤ 40 ∧ 1 ≤ n ∧ n ≤ 60 ∧ σ' = [some (.ref a), some (.int c0), some (.int c1), some (.int m), some (.int n)] ∧ H1 = H') ?_ (fun R main => ?_)
  rotate_left
  · refine r_ifd (fun h3 => ?_) (fun h3 => ?_)
    · walk_at "rd"
      exact main _ _ ⟨_, _, by omega, by omega, by omega, by omega, rfl, rfl⟩
    · walk_at "rd"
      exact main _ _ ⟨_, _, m1, m2, n1, n2, rfl, rfl⟩
  clear m1 m2 n1 n2 m n
  rintro σ' H1 ⟨m, n, m1, m2, n1, n2, rfl, rfl⟩
  walk_at "rd"
  refine r_join (fun σ' H' => ∃ m n : Int, 1 ≤ m ∧ m ≤ 40 ∧ 1 ≤ n ∧ n ≤ 60 ∧ σ' = [some (.ref a), some (.int c0), some (.int c1), some (.int m), some (.int n)] ∧ H' = H1) ?_ (fun R main => ?_)
  rotate_left
  · refine r_ifd (fun h3 => ?_) (fun h3 => ?_)
    · walk_at "rd"
      exact main _ _ ⟨_, _, by omega, by omega, by omega, by omega, rfl, rfl⟩
    · walk_at "rd"
      exact main _ _ ⟨_, _, m1, m2, n1, n2, rfl, rfl⟩
  clear m1 m2 n1 n2 m n
  rintro σ' H ⟨m, n, m1, m2, n1, n2, rfl, rfl⟩
  walk_at "rd"
  refine rc 2 _ _ _ (Same.refl _) (by decide) ?_
  walk_at "rd"
  refine rc 3 _ _ _ (Same.refl _) (by decide) ?_
  walk_at "rd"
  refine ⟨_, n, _, rfl, n1, n2, by omega, by omega, fun p H2 hp s2 hl => ?_⟩
  walk_at "rd"
  refine ⟨by show 3 ≤ sizeLine; decide, fun t ht => ?_⟩
  exact q m n _ m1 m2 n1 n2 (sizesBy_ok n1 n2 (by omega) (by omega)) _ t p (s2.trans (same_new ht)) (none_same s2 ht) hp upd_same ((upd_ne (ne_of_none hl ht)).trans hl)
theorem pure_l_size_by (vs : List V) (H : Hp) (Q : VK) (E : XK) (h : sp_l_size_by A vs H Q E) : t_l_size_by A E { nx := fun _ H' => Q .non H', rt := Q } (start ["_law_sizes", "_law_wish", "_law_size"] vs) H := by
  obtain ⟨l, xs, i, rfl, hs, q⟩ := h
  unfold t_l_size_by
  unfold sizeBy at q
  walk_at "rd"
  refine ⟨l, rfl, ⟨_, hs⟩, for_list (K := A.K) (a := l) (xs := xs.map V.int) (fun k σ H' => ∃ v : Option V, σ = [some (.ref l), some (.int i), v] ∧ H' = H ∧ (xs.take k).find? (fun s => decide (i ≤ s)) = none)
    ⟨none, rfl, rfl, rfl⟩ (fun k σ H' _ ⟨_, _, e, _⟩ => by rw [e]; exact hs) ?_ ?_⟩
  · rintro k x σ H' hk ⟨v, rfl, rfl, hno⟩
    obtain ⟨z, hz, rfl⟩ : ∃ z, xs[k]? = some z ∧ x = V.int z := by
      rw [List.getElem?_map] at hk
      cases e : xs[k]? with
      | none => rw [e] at hk; cases hk
      | some z => rw [e] at hk; exact ⟨z, rfl, (Option.some.inj hk).symm⟩
    have htk : xs.take (k + 1) = xs.take k ++ [z] := by rw [List.take_add_one, hz]; rfl
    walk_at "rd"
    refine r_ifd (fun h2 => ?_) (fun h2 => ?_)
    · walk_at "rd"
      have e : xs.find? (fun s => decide (i ≤ s)) = some z := by
        have e : xs = xs.take (k + 1) ++ xs.drop (k + 1) := (List.take_append_drop _ _).symm
        rw [e, htk, List.append_assoc, List.find?_append, hno]
        simp [h2]
      rw [e] at q
      exact q
    · walk_at "rd"
      refine ⟨_, rfl, rfl, ?_⟩
      rw [htk, List.find?_append, hno]
      simp [h2]
  · rintro σ H' ⟨v, rfl, rfl, hno⟩
    rw [List.length_map, List.take_length] at hno
    walk_at "rd"
    rw [hno] at q
    exact q
end

/-! ### comprehensions over lists of tuples, the room's making -/
section
variable {K : PySem.W.Frag} {σ : L2.St}
theorem lc_prs {w : Addr → Ow} {a : Addr} {ys : List V} {ts : List (Int × Int)} {g : TG} {tt : TT} {te : TE} {vs : List Nat} {H1 : Hp} {D : Addr} {Qd : Hp → Prop} (f : V → Int × Int → Option V) (hD : H1 D = none) (hl : H1 a = some (.lst ys)) (hP : Pairs w H1 ys ts) (hz : ys.length ≤ sizeLine)
    (step : ∀ (i : Nat) b t H (Ny : V → Hp → Prop) (Nn : Hp → Prop), ts[i]? = some t → Same H1 H → H b = some (.tup [.int t.1, .int t.2]) → (∀ y H4, Same H H4 → f (.ref b) t = some y → Ny y H4) → (∀ H3, Same H H3 → f (.ref b) t = none → Nn H3) →
      g (.ref b) (wipe σ vs) H fun σ2 H2 => wipe σ2 vs = wipe σ vs ∧ tt σ2 H2 fun b H3 => if b = true then te σ2 H3 Ny else Nn H3)
    (hd : ∀ H', Same H1 H' → H' D = some (.lst ((ys.zip ts).filterMap fun p => f p.1 p.2)) → Qd H') :
    ∃ W : Nat → Nat → Hp → Prop, (∃ m, W 0 m (upd H1 D (.lst []))) ∧ ∀ i m H, W i m H →
      ((Itl K a).stop i H ∧ Qd H) ∨ ((Itl K a).go i H ∧ ∃ Nx : Hp → Prop, (∀ H', Nx H' → ∃ m', m' < m ∧ W (i + 1) m' H') ∧ ∀ x H', (Itl K a).yld i H x H' → g x (wipe σ vs) H' fun σ2 H2 => wipe σ2 vs = wipe σ vs ∧ tt σ2 H2 fun b H3 =>
        if b = true then te σ2 H3 fun y H4 => ∃ acc, H4 D = some (.lst acc) ∧ acc.length < sizeLine ∧ Nx (upd H4 D (.lst (acc ++ [y]))) else Nx H3) := by
  have e : ys = (ys.zip ts).map (·.1) := (List.map_fst_zip (by rw [hP.1]; exact Nat.le_refl _)).symm
  refine lc_pm (ps := ys.zip ts) (h := (·.1)) (fun p => f p.1 p.2) hD (by rw [← e]; exact toL hl) (by rw [List.length_zip]; omega) (fun i p H Ny Nn hp s hy hn => ?_) hd
  obtain ⟨y, t⟩ := p
  obtain ⟨h1, h2⟩ := List.getElem?_zip_eq_some.mp hp
  obtain ⟨b, rfl, hb, _⟩ := hP.2 i y t h1 h2
  exact step i b t H Ny Nn h2 s (s _ _ hb) hy hn
theorem lc_trs {w : Addr → Ow} {a : Addr} {ys : List V} {ts : List (Int × Int × Int)} {g : TG} {tt : TT} {te : TE} {vs : List Nat} {H1 : Hp} {D : Addr} {Qd : Hp → Prop} (f : V → Int × Int × Int → Option V) (hD : H1 D = none) (hl : H1 a = some (.lst ys)) (hP : Trip w H1 ys ts) (hz : ys.length ≤ sizeLine)
    (step : ∀ (i : Nat) b t H (Ny : V → Hp → Prop) (Nn : Hp → Prop), ts[i]? = some t → Same H1 H → H b = some (.tup [.int t.1, .int t.2.1, .int t.2.2]) → (∀ y H4, Same H H4 → f (.ref b) t = some y → Ny y H4) → (∀ H3, Same H H3 → f (.ref b) t = none → Nn H3) →
      g (.ref b) (wipe σ vs) H fun σ2 H2 => wipe σ2 vs = wipe σ vs ∧ tt σ2 H2 fun b H3 => if b = true then te σ2 H3 Ny else Nn H3)
    (hd : ∀ H', Same H1 H' → H' D = some (.lst ((ys.zip ts).filterMap fun p => f p.1 p.2)) → Qd H') :
    ∃ W : Nat → Nat → Hp → Prop, (∃ m, W 0 m (upd H1 D (.lst []))) ∧ ∀ i m H, W i m H →
      ((Itl K a).stop i H ∧ Qd H) ∨ ((Itl K a).go i H ∧ ∃ Nx : Hp → Prop, (∀ H', Nx H' → ∃ m', m' < m ∧ W (i + 1) m' H') ∧ ∀ x H', (Itl K a).yld i H x H' → g x (wipe σ vs) H' fun σ2 H2 => wipe σ2 vs = wipe σ vs ∧ tt σ2 H2 fun b H3 =>
        if b = true then te σ2 H3 fun y H4 => ∃ acc, H4 D = some (.lst acc) ∧ acc.length < sizeLine ∧ Nx (upd H4 D (.lst (acc ++ [y]))) else Nx H3) := by
  have e : ys = (ys.zip ts).map (·.1) := (List.map_fst_zip (by rw [hP.1]; exact Nat.le_refl _)).symm
  refine lc_pm (ps := ys.zip ts) (h := (·.1)) (fun p => f p.1 p.2) hD (by rw [← e]; exact toL hl) (by rw [List.length_zip]; omega) (fun i p H Ny Nn hp s hy hn => ?_) hd
  obtain ⟨y, t⟩ := p
  obtain ⟨h1, h2⟩ := List.getElem?_zip_eq_some.mp hp
  obtain ⟨b, rfl, hb, _⟩ := hP.2 i y t h1 h2
  exact step i b t H Ny Nn h2 s (s _ _ hb) hy hn
end
theorem zip_fm {α : Type} (f : α → Option V) : ∀ {ys : List V} {ts : List α}, ys.length = ts.length → ((ys.zip ts).filterMap fun p => f p.2) = ts.filterMap f
  | [], [], _ => rfl
  | [], _ :: _, h => nomatch h
  | _ :: _, [], h => nomatch h
  | y :: ys, t :: ts, h => by
    rw [List.zip_cons_cons, List.filterMap_cons, List.filterMap_cons, zip_fm f (by simpa using h)]
theorem Trip.stp {A : Ad} {w w' : Addr → Ow} {H H' : Hp} {ys : List V} {ts : List (Int × Int × Int)} (h : Trip w H ys ts) (s : Stp A w H w' H') : Trip w' H' ys ts := ⟨h.1, fun i y t h1 h2 => by
  obtain ⟨a, e1, e2, e3⟩ := h.2 i y t h1 h2
  obtain ⟨e4, e5⟩ := s.at e2 e3 (.inr ⟨_, rfl⟩)
  exact ⟨a, e1, e4, by rw [e5]; exact e3⟩⟩
theorem Trip.sm {w : Addr → Ow} {H H' : Hp} {ys : List V} {ts : List (Int × Int × Int)} (h : Trip w H ys ts) (s : Same H H') : Trip w H' ys ts := ⟨h.1, fun i y t h1 h2 => by
  obtain ⟨a, e1, e2, e3⟩ := h.2 i y t h1 h2
  exact ⟨a, e1, s _ _ e2, e3⟩⟩
theorem Pairs.sm {w : Addr → Ow} {H H' : Hp} {ys : List V} {ts : List (Int × Int)} (h : Pairs w H ys ts) (s : Same H H') : Pairs w H' ys ts := ⟨h.1, fun i y t h1 h2 => by
  obtain ⟨a, e1, e2, e3⟩ := h.2 i y t h1 h2
  exact ⟨a, e1, s _ _ e2, e3⟩⟩
theorem tabs_nil {H : Hp} {P : Addr} {q : Str} (h : H P = some (.tbl #[])) : LamX.TabS H P q := ⟨#[], h, trivial, fun pos cv e => nomatch e⟩
theorem uq_none (m : Nat) : Uq (List.replicate m none) := fun p q hp _ _ => by
  have h := (mem_unused.mp hp).1
  unfold isSh at h
  rw [List.getElem?_replicate] at h
  split at h
  · rename_i h2
    split at h2 <;> cases h2
  · cases h
/-- Room(Plan(drawn[0], drawn[1], list(drawn[2]))) -/
theorem mk_room (A : Ad) (na : NA A) {σ : L2.St} {H : Hp} {Q : VK} {t ls : Addr} {m n : Int} {xs : List Int} (hσ : σ[1]? = some (some (.ref t))) (ht : H t = some (.tup [.int m, .int n, .ref ls])) (hls : H ls = some (.lst (xs.map V.int))) (b1 : 1 ≤ m) (b2 : m ≤ 40) (b3 : 1 ≤ n) (b4 : n ≤ 60) (b5 : okSizes (xs.map V.int) n = true)
    (q : ∀ H' r w pl, Same H H' → H r = none → Rm A H' r w pl m n xs (List.replicate m.toNat none) (fun _ => none) → (∀ b o, H b = some o → own (w b) = false) → Q (.ref r) H') :
    (tMake A.c_Room (sp_Room_init A) [] E0 (tCons (tMake A.c_Plan (sp_Plan_init A) [] E0 (tCons (tOp (rIxA A.K) (tVar 1) (tC (.int 0))) (tCons (tOp (rIxA A.K) (tVar 1) (tC (.int 1))) (tCons (tCB (rListA A.K) (tCons (tOp (rIxA A.K) (tVar 1) (tC (.int 2))) tNil)) tNil)))) tNil)) σ H Q := by
  refine r_make ?_
  refine r_cons ?_
  refine r_make ?_
  refine r_cons ?_
  refine r_op ?_
  refine r_var hσ ?_
  refine r_c ?_
  refine r_ixT (n := 0) (toT ht) rfl rfl ?_
  refine r_cons ?_
  refine r_op ?_
  refine r_var hσ ?_
  refine r_c ?_
  refine r_ixT (n := 1) (toT ht) rfl rfl ?_
  refine r_cons ?_
  refine r_cb ?_
  refine r_cons ?_
  refine r_op ?_
  refine r_var hσ ?_
  refine r_c ?_
  refine r_ixT (n := 2) (toT ht) rfl rfl ?_
  refine r_nil ?_
  refine r_listL (toL hls) fun l2 hl2 => ?_
  refine r_nil ?_
  intro pl dp hpl hdp ndp
  have s1 := same_new (o := .lst (xs.map V.int)) hl2
  have npl : l2 ≠ pl := ne_of_none upd_same hpl
  have ndl : l2 ≠ dp := ne_of_none upd_same hdp
  refine ⟨pl, dp, .int m, .int n, .ref l2, rfl, upd_same, rfl, rfl, .inl ⟨m, n, xs, l2, rfl, rfl, rfl, b1, b2, b3, b4, by rw [upd_ne npl, upd_ne ndl, upd_same], b5, fun H1 l3 _ e2 e3 bt => ⟨rfl, ?_⟩⟩⟩
  have s2 : Same H H1 := fun b o e => bt b o ((upd_ne (ne_of_none (s1 _ _ e) hpl)).trans ((upd_ne (ne_of_none (s1 _ _ e) hdp)).trans (s1 _ _ e))) (ne_of_none (s1 _ _ e) hpl)
  refine r_nil ?_
  intro r dr hr hdr nrd
  have npr : pl ≠ r := ne_of_none e2 hr
  have npd : pl ≠ dr := ne_of_none e2 hdr
  have nlr : l3 ≠ r := ne_of_none e3 hr
  have nld : l3 ≠ dr := ne_of_none e3 hdr
  have k2 : ∀ b o, H1 b = some o → upd (upd H1 dr (.own r)) r (.ins A.c_Room dr []) b = some o := fun b o e => (upd_ne (ne_of_none e hr)).trans ((upd_ne (ne_of_none e hdr)).trans e)
  refine ⟨r, dr, pl, m, n, xs, rfl, upd_same, ⟨⟨dp, l3, k2 _ _ e2, k2 _ _ e3⟩, b1, b2, b3, b4, b5⟩, fun H2 w bt2 wf R => ⟨rfl, ?_⟩⟩
  have s3 : Same H H2 := fun b o e => bt2 b o (k2 _ _ (s2 _ _ e)) (ne_of_none (s2 _ _ e) hr)
  exact q H2 r w pl s3 (none_same s2 hr) R fun b o e => wf b o (k2 _ _ (s2 _ _ e)) (ne_of_none (s2 _ _ e) hr)

/-! ### what the law leaves alone -/
def SA (K : PySem.W.Frag) (H : Hp) (w : Addr → Ow) (lo a : Addr) (xs : List V) : Prop := (Rd H a (.lst xs) ∧ own (w a) = false ∧ a ≠ lo) ∨ ∃ (o : Obj) (its : Array Value) (n : Nat), List.lookup a K = some o ∧ o.cls = Value.type "list" ∧ o.dict = none ∧ o.data = Data.seq its n ∧ its.size ≤ sizeLine ∧ Vals xs its.toList
theorem SA.seq {K : PySem.W.Frag} {H : Hp} {w : Addr → Ow} {lo a : Addr} {xs : List V} (h : SA K H w lo a xs) : SqL K H a xs := h.imp (fun h => h.1) fun h => h
theorem sa_of {K : PySem.W.Frag} {H0 H : Hp} {w : Addr → Ow} {lo a : Addr} {xs : List V} (h : SqL K H0 a xs) (s : Same H0 H) (hw : ∀ b o, H0 b = some o → own (w b) = false) (hn : H lo = none) : SA K H w lo a xs := by
  rcases h with h | h
  · rcases h with h | ⟨o, h⟩
    · exact .inl ⟨.inl (s _ _ h), hw _ _ h, ne_of_none (s _ _ h) hn⟩
    · exact .inl ⟨.inr ⟨o, s _ _ h⟩, hw _ _ h, ne_of_none (s _ _ h) hn⟩
  · exact .inr h
theorem SA.l {K : PySem.W.Frag} {H H' : Hp} {w w' : Addr → Ow} {lo a : Addr} {xs : List V} (h : SA K H w lo a xs) (s : LStp lo w H w' H') : SA K H' w' lo a xs := by
  rcases h with ⟨h1, h2, h3⟩ | h
  · rcases h1 with h1 | ⟨o, h1⟩
    · obtain ⟨e1, e2⟩ := s _ _ h1 h3 h2 nofun
      exact .inl ⟨.inl e1, by rw [e2]; exact h2, h3⟩
    · obtain ⟨e1, e2⟩ := s _ _ h1 h3 h2 nofun
      exact .inl ⟨.inr ⟨o, e1⟩, by rw [e2]; exact h2, h3⟩
  · exact .inr h
theorem SA.new {K : PySem.W.Frag} {H H' : Hp} {w : Addr → Ow} {lo lo2 a : Addr} {xs : List V} (h : SA K H w lo a xs) (s : Same H H') (hn : H lo2 = none) : SA K H' w lo2 a xs := by
  rcases h with ⟨h1, h2, h3⟩ | h
  · rcases h1 with h1 | ⟨o, h1⟩
    · exact .inl ⟨.inl (s _ _ h1), h2, ne_of_none h1 hn⟩
    · exact .inl ⟨.inr ⟨o, s _ _ h1⟩, h2, ne_of_none h1 hn⟩
  · exact .inr h
structure Kp (A : Ad) (H : Hp) (w : Addr → Ow) (lo a t ls : Addr) (m n : Int) (xs ns : List Int) : Prop where
  sa : SA A.K H w lo a (ns.map V.int)
  dt : H t = some (.tup [.int m, .int n, .ref ls]) ∧ own (w t) = false ∧ t ≠ lo
  sz : H ls = some (.lst (xs.map V.int)) ∧ own (w ls) = false ∧ ls ≠ lo
theorem Kp.l {A : Ad} {H H' : Hp} {w w' : Addr → Ow} {lo a t ls : Addr} {m n : Int} {xs ns : List Int} (h : Kp A H w lo a t ls m n xs ns) (s : LStp lo w H w' H') : Kp A H' w' lo a t ls m n xs ns := by
  obtain ⟨h1, ⟨h2, h3, h4⟩, ⟨h5, h6, h7⟩⟩ := h
  obtain ⟨e1, e2⟩ := s _ _ h2 h4 h3 nofun
  obtain ⟨e3, e4⟩ := s _ _ h5 h7 h6 nofun
  exact ⟨h1.l s, ⟨e1, by rw [e2]; exact h3, h4⟩, ⟨e3, by rw [e4]; exact h6, h7⟩⟩
theorem Kp.new {A : Ad} {H H' : Hp} {w : Addr → Ow} {lo lo2 a t ls : Addr} {m n : Int} {xs ns : List Int} (h : Kp A H w lo a t ls m n xs ns) (s : Same H H') (hn : H lo2 = none) : Kp A H' w lo2 a t ls m n xs ns := by
  obtain ⟨h1, ⟨h2, h3, h4⟩, ⟨h5, h6, h7⟩⟩ := h
  exact ⟨h1.new s hn, ⟨s _ _ h2, h3, ne_of_none h2 hn⟩, ⟨s _ _ h5, h6, ne_of_none h5 hn⟩⟩
theorem Kp.rc {A : Ad} {H : Hp} {w : Addr → Ow} {lo a t ls : Addr} {m n : Int} {xs ns : List Int} (h : Kp A H w lo a t ls m n xs ns) {k : Int} {Q : VK} {E : XK} (hk : 0 ≤ k) (q : Q (.int (cellAt ns k)) H) : sp_l_cell_at A [.ref a, .int k] H Q E := ⟨a, k, ns, rfl, h.sa.seq, hk, q⟩

/-! ### sorted lists of pairs -/
theorem pairs_kd {w : Addr → Ow} {H : Hp} {ys : List V} {ts : List (Int × Int)} (h : Pairs w H ys ts) : ys.map (kdOf H) = ts := by
  refine List.ext_getElem? fun i => ?_
  rw [List.getElem?_map]
  by_cases hi : i < ts.length
  · have hy : i < ys.length := by rw [h.1]; exact hi
    obtain ⟨a, e1, e2, _⟩ := h.2 i _ _ (List.getElem?_eq_getElem hy) (List.getElem?_eq_getElem hi)
    rw [List.getElem?_eq_getElem hy, List.getElem?_eq_getElem hi, e1]
    show some (kdOf H (.ref a)) = _
    rw [kdOf_at e2]
  · rw [List.getElem?_eq_none (by rw [h.1]; omega), List.getElem?_eq_none (by omega)]
    rfl
theorem r_sortPr {K : PySem.W.Frag} {w : Addr → Ow} {H : Hp} {Q : VK} {l : Addr} {ys : List V} {ts us : List (Int × Int)} (hl : H l = some (.lst ys)) (h : Pairs w H ys ts) (hp : ts.Perm us) (hu : (us.map (·.1)).Pairwise (· < ·))
    (q : ∀ p ys', H p = none → Pairs w (upd H p (.lst ys')) ys' us → Q (.ref p) (upd H p (.lst ys'))) : rSortedA K [.ref l] H Q := by
  refine r_sortP (kdOf H) (toL hl) (fun x hx => ?_) fun ys' p s1 s2 hpn => ?_
  · obtain ⟨i, hi⟩ := List.mem_iff_getElem?.mp hx
    have hil : i < ts.length := by rw [← h.1]; exact (List.getElem?_eq_some_iff.mp hi).1
    obtain ⟨a, rfl, e2, _⟩ := h.2 i x _ hi (List.getElem?_eq_getElem hil)
    exact ⟨a, rfl, by rw [kdOf_at e2]; exact e2⟩
  · have he : ys'.map (kdOf H) = us := sorted_pairs s1 s2.perm (by rw [pairs_kd h]; exact hp) hu
    refine q p ys' hpn ⟨by rw [← he, List.length_map], fun i y t h1 h2 => ?_⟩
    obtain ⟨j, hj⟩ := List.mem_iff_getElem?.mp (s2.perm.mem_iff.mp (List.mem_of_getElem? h1))
    have hjl : j < ts.length := by rw [← h.1]; exact (List.getElem?_eq_some_iff.mp hj).1
    obtain ⟨a, rfl, e2, e3⟩ := h.2 j y _ hj (List.getElem?_eq_getElem hjl)
    rw [← he, List.getElem?_map, h1] at h2
    have h3 : kdOf H (.ref a) = t := Option.some.inj h2
    rw [kdOf_at e2] at h3
    subst h3
    exact ⟨a, rfl, (upd_ne (ne_of_none e2 hpn)).trans e2, e3⟩

/-- two lists told, as data -/
theorem dp_two {K : PySem.W.Frag} {w : Addr → Ow} {H : Hp} {a b c : Addr} {ys : List V} {ts : List (Int × Int × Int)} {ns : List Int} (ha : H a = some (.tup [.ref b, .ref c])) (hb : H b = some (.lst ys)) (hT : Trip w H ys ts) (hc : H c = some (.lst (ns.map V.int))) : Dp K H (.ref a) (.tuple [.list (ts.map pd3), .list (ns.map PyData.int)]) := .tup (toT ha) (.cons (dp_trips hb hT) (.cons (dp_ints (toL hc)) .nil))
theorem lay_ints (ns : List Int) : PyData.canLayAll0 (ns.map PyData.int) = true := lay_all (f := PyData.int) (fun _ => by simp only [PyData.canLay0]) ns
theorem depth_ints (ns : List Int) : PyData.depthAll (ns.map PyData.int) ≤ 4 := depth_all (f := PyData.int) (fun _ => by simp only [PyData.depth]; omega) ns
theorem shaped_two (ts : List (Int × Int × Int)) (ns : List Int) : SeqAt.shaped (.tuple [.list (ts.map pd3), .list (ns.map PyData.int)]) = true := by
  have h1 := depth_all depth3 ts
  have h2 := depth_ints ns
  unfold SeqAt.shaped
  simp only [PyData.canLay0, PyData.canLayAll0, PyData.depth, PyData.depthAll, lay_all lay3 ts, lay_ints, Bool.true_and, Bool.and_true]
  exact decide_eq_true (by omega)
theorem eqv_two (ts us : List (Int × Int × Int)) (ns ms : List Int) : PyData.eqv (.tuple [.list (ts.map pd3), .list (ns.map PyData.int)]) (.tuple [.list (us.map pd3), .list (ms.map PyData.int)]) = (decide (ts = us) && decide (ns = ms)) := by
  have h1 := eqv_trips ts us
  have h2 := eqv_ints ns ms
  simp only [PyData.eqv] at h1 h2
  simp only [PyData.eqv, PyData.eqvAll, Bool.and_true, h1, h2]
theorem r_neTwo {K : PySem.W.Frag} {w : Addr → Ow} {H : Hp} {Q : VK} {a b c a2 b2 c2 : Addr} {ys zs : List V} {ts : List (Int × Int × Int)} {ns : List Int} (ha : H a = some (.tup [.ref b, .ref c])) (hb : H b = some (.lst ys)) (hT : Trip w H ys ts) (hc : H c = some (.lst (ns.map V.int))) (ha2 : H a2 = some (.tup [.ref b2, .ref c2])) (hb2 : H b2 = some (.lst zs)) (hT2 : Trip w H zs ts) (hc2 : H c2 = some (.lst (ns.map V.int))) (q : Q (.bl false) H) : rNeA K (.ref a) (.ref a2) H Q :=
  .inr ⟨_, _, dp_two ha hb hT hc, dp_two ha2 hb2 hT2 hc2, shaped_two ts ns, shaped_two ts ns, by rw [eqv_two, decide_eq_true rfl, decide_eq_true rfl]; exact q⟩
theorem same_upd {H H' : Hp} {D : Addr} {o : HO} (s : Same H H') (h : H D = none) : Same H (upd H' D o) := fun b v e => (upd_ne (ne_of_none e h)).trans (s _ _ e)
theorem pgs_ints (ps : List Nat) : pgs ps = (ps.map fun p : Nat => (p : Int)).map V.int := (map_ints ps).symm

theorem drop_snoc {α : Type} {l : List α} {i : Nat} {x : α} (h : l[i]? = some x) : l.take (i + 1) = l.take i ++ [x] := by rw [List.take_add_one, h]; rfl
theorem out_wr {hf : Held} {out : List (Int × Int)} {x : Int} {c d : List V} (h : OutOk hf out) (hx : hf x = some c) (hd : d.length = c.length) : OutOk (fun y => if y = x then some d else hf y) out := ⟨h.1, fun y s => by
  rw [h.2 y s]
  show _ ↔ ∃ u, (if y = x then some d else hf y) = some u ∧ _
  by_cases e : y = x
  · rw [if_pos e]
    constructor
    · rintro ⟨u, h1, h2⟩
      rw [e, hx] at h1
      cases h1
      exact ⟨d, rfl, by rw [hd]; exact h2⟩
    · rintro ⟨u, h1, h2⟩
      cases h1
      exact ⟨c, by rw [e]; exact hx, by rw [← hd]; exact h2⟩
  · rw [if_neg e]⟩
theorem Rm.hb {A : Ad} {H : Hp} {r : Addr} {w : Addr → Ow} {pl : Addr} {m n : Int} {xs : List Int} {bs : Bits} {hf : Held} (h : Rm A H r w pl m n xs bs hf) {x : Int} (hx : hf x ≠ none) : 0 ≤ x ∧ x < 2400 := by
  obtain ⟨C, R, _⟩ := h
  exact R.hb x hx
theorem rank_unique {bs : Bits} : ∀ {l m : List Nat}, l.Pairwise (fun p q => outAt bs q < outAt bs p ∨ (outAt bs p = outAt bs q ∧ p < q)) → m.Pairwise (fun p q => outAt bs q < outAt bs p ∨ (outAt bs p = outAt bs q ∧ p < q)) → m.Perm l → m = l
  | [], m, _, _, p => List.Perm.eq_nil p
  | x :: l, [], _, _, p => absurd p.length_eq (by simp)
  | x :: l, y :: m, h1, h2, p => by
    obtain ⟨a1, a2⟩ := List.pairwise_cons.mp h1
    obtain ⟨b1, b2⟩ := List.pairwise_cons.mp h2
    have e : y = x := by
      have q1 : y ∈ x :: l := p.mem_iff.mp List.mem_cons_self
      have q2 : x ∈ y :: m := p.mem_iff.mpr List.mem_cons_self
      rcases List.mem_cons.mp q1 with e | q1
      · exact e
      · rcases List.mem_cons.mp q2 with e | q2
        · exact e.symm
        · have := a1 y q1
          have := b1 x q2
          omega
    subst e
    rw [rank_unique a2 b2 (List.Perm.cons_inv p)]

/-! ### two rooms by one plan -/
theorem planF_inj {m n : Int} {l l' : Addr} (h : planF m n l = planF m n l') : l = l' := by
  have e : (planF m n l).lookup ("sizes" : Str) = (planF m n l').lookup ("sizes" : Str) := by rw [h]
  rw [pf_sizes, pf_sizes] at e
  cases e; rfl
theorem RoomC.norm {A : Ad} {H : Hp} {r : Addr} {w : Addr → Ow} {C : RC} {pl : Addr} {m n : Int} {xs : List Int} {bs : Bits} {hf : Held} (h : RoomC A H r w C pl m n xs bs hf) :
    ∃ w', RoomC A H r w' C pl m n xs bs hf ∧ (∀ b, own (w' b) = own (w b)) ∧ ∀ b, w' b ≠ .no → own (w' b) = true ∨ b = pl ∨ ∃ dx l, H pl = some (.ins A.c_Plan dx (planF m n l)) ∧ b = l := by
  obtain ⟨⟨dx, l, a1, a2, a3, a4⟩, b, ⟨dr, c1, c2⟩, ⟨kS, d1, d2, d3⟩, e, ⟨kH, f1, f2, f3⟩, g, i, j, k⟩ := h
  have hw : ∀ c, own (w c) = true ∨ c = pl ∨ c = l → (if own (w c) = true ∨ c = pl ∨ c = l then w c else Ow.no) = w c := fun c z => if_pos z
  refine ⟨fun c => if own (w c) = true ∨ c = pl ∨ c = l then w c else .no, ⟨⟨dx, l, a1, a2, (hw _ (.inr (.inl rfl))).trans a3, (hw _ (.inr (.inr rfl))).trans a4⟩, b, ⟨dr, c1, (hw _ (.inl (by rw [c2]; rfl))).trans c2⟩, ⟨kS, d1, (hw _ (.inl (by rw [d2]; rfl))).trans d2, d3⟩, fun p hp => ?_, ⟨kH, f1, (hw _ (.inl (by rw [f2]; rfl))).trans f2, f3⟩, fun x c hx => ?_, i, j, fun c hc => ?_⟩, fun c => ?_, fun c hc => ?_⟩
  · obtain ⟨e1, e2, e3, e4⟩ := e p hp
    exact ⟨e1, (hw _ (.inl (by rw [e2]; rfl))).trans e2, (hw _ (.inl (by rw [e3]; rfl))).trans e3, (hw _ (.inl (by rw [e4]; rfl))).trans e4⟩
  · obtain ⟨g1, g2, g3⟩ := g x c hx
    exact ⟨g1, (hw _ (.inl (by rw [g2]; rfl))).trans g2, g3⟩
  · refine k c fun z => hc ?_
    show (if own (w c) = true ∨ c = pl ∨ c = l then w c else Ow.no) = .no
    split
    · exact z
    · rfl
  · show own (if own (w c) = true ∨ c = pl ∨ c = l then w c else Ow.no) = own (w c)
    split
    · rfl
    · rename_i z
      cases e : own (w c) with
      | true => exact absurd (.inl e) z
      | false => rfl
  · have hc : (if own (w c) = true ∨ c = pl ∨ c = l then w c else Ow.no) ≠ .no := hc
    by_cases z : own (w c) = true ∨ c = pl ∨ c = l
    · rcases z with z | z | z
      · exact .inl (by show own (if own (w c) = true ∨ c = pl ∨ c = l then w c else Ow.no) = true; rw [hw c (.inl z)]; exact z)
      · exact .inr (.inl z)
      · exact .inr (.inr ⟨dx, l, a1, z⟩)
    · exact absurd (if_neg z) hc
theorem Rm.ow {A : Ad} {H : Hp} {r : Addr} {w : Addr → Ow} {pl : Addr} {m n : Int} {xs : List Int} {bs : Bits} {hf : Held} (h : Rm A H r w pl m n xs bs hf) {b : Addr} (hb : w b ≠ .no) : ∃ o, H b = some o ∧ plainO o = true := by
  obtain ⟨C, R, _⟩ := h
  exact R.ow b hb
theorem Rm.keepH {A : Ad} {H H' : Hp} {r : Addr} {w : Addr → Ow} {pl : Addr} {m n : Int} {xs : List Int} {bs : Bits} {hf : Held} (h : Rm A H r w pl m n xs bs hf) (s : ∀ b o, H b = some o → plainO o = true → w b ≠ .no → H' b = some o) : Rm A H' r w pl m n xs bs hf := by
  obtain ⟨C, R, c⟩ := h
  refine ⟨C, R.same fun b o e hb => ?_, c⟩
  obtain ⟨u, hu, hp⟩ := R.ow b hb
  rw [e] at hu; cases hu
  exact s b o e hp hb
structure Ap (w1 w2 : Addr → Ow) : Prop where
  a : ∀ b, w1 b ≠ .no → own (w2 b) = false
  b : ∀ b, w2 b ≠ .no → own (w1 b) = false
theorem Ap.symm {w1 w2 : Addr → Ow} (h : Ap w1 w2) : Ap w2 w1 := ⟨h.b, h.a⟩
theorem plain_tbl {o : HO} (h : plainO o = true) (ps : Array Value) : o ≠ .tbl ps := fun z => by rw [z] at h; cases h
section
variable {A : Ad} {H H' : Hp} {r1 r2 : Addr} {w1 w2 w1' : Addr → Ow} {pl : Addr} {m n : Int} {xs : List Int} {bs1 bs2 : Bits} {hf1 hf2 : Held}
/-- what one room does leaves the other -/
theorem Rm.other (R2 : Rm A H r2 w2 pl m n xs bs2 hf2) (s : Stp A w1 H w1' H') (ap : Ap w1 w2) : Rm A H' r2 w2 pl m n xs bs2 hf2 := R2.keepH fun b o e hp hb => (s.fr b o e (ap.b b hb) (plain_tbl hp)).1
theorem Ap.step (ap : Ap w1 w2) (R2 : Rm A H r2 w2 pl m n xs bs2 hf2) (s : Stp A w1 H w1' H') : Ap w1' w2 := by
  have key : ∀ b, w2 b ≠ .no → w1' b = w1 b := fun b hb => by
    obtain ⟨o, e, hp⟩ := R2.ow hb
    exact (s.fr b o e (ap.b b hb) (plain_tbl hp)).2
  refine ⟨fun b hb => ?_, fun b hb => by rw [key b hb]; exact ap.b b hb⟩
  cases e : own (w2 b) with
  | false => rfl
  | true =>
    have h2 : w2 b ≠ .no := fun z => by rw [z] at e; cases e
    rw [key b h2] at hb
    rw [← e]; exact ap.a b hb
/-- a second room stands beside the first -/
theorem Ap.new {C : RC} {C1 : RC} {r : Addr} (R1 : RoomC A H r1 w1 C1 pl m n xs bs1 hf1) (R1' : RoomC A H' r1 w1 C1 pl m n xs bs1 hf1) (hr : H r = none) (R2 : RoomC A H' r w2 C pl m n xs bs2 hf2) (wf : ∀ b o, H b = some o → own (w2 b) = false) :
    ∃ w2', RoomC A H' r w2' C pl m n xs bs2 hf2 ∧ Ap w1 w2' ∧ ∀ b, own (w2' b) = own (w2 b) := by
  obtain ⟨w2', Rn, ho, hn⟩ := R2.norm
  refine ⟨w2', Rn, ⟨fun b hb => ?_, fun b hb => ?_⟩, ho⟩
  · obtain ⟨o, e, _⟩ := R1.ow b hb
    rw [ho]; exact wf b o e
  · rcases hn b hb with h | h | ⟨dx, l, h1, h2⟩
    · cases e : own (w1 b) with
      | false => rfl
      | true =>
        obtain ⟨o, e2, _⟩ := R1.ow b (fun z => by rw [z] at e; cases e)
        rw [ho, wf b o e2] at h
        cases h
    · obtain ⟨_, _, _, _, a3, _⟩ := R1.plan
      rw [h, a3]; rfl
    · obtain ⟨dx', l', a1, _, _, a4⟩ := R1'.plan
      rw [h1] at a1
      have : l = l' := by
        have e := Option.some.inj a1
        injection e with _ _ e3
        exact planF_inj e3
      rw [h2, this, a4]; rfl
end
/-- Plan(drawn[0], drawn[1], list(drawn[2])) -/
theorem mk_plan (A : Ad) {σ : L2.St} {H : Hp} {Q : VK} {t ls : Addr} {m n : Int} {xs : List Int} (hσ : σ[1]? = some (some (.ref t))) (ht : H t = some (.tup [.int m, .int n, .ref ls])) (hls : H ls = some (.lst (xs.map V.int))) (b1 : 1 ≤ m) (b2 : m ≤ 40) (b3 : 1 ≤ n) (b4 : n ≤ 60) (b5 : okSizes (xs.map V.int) n = true)
    (q : ∀ H' pl dp l3, Same H H' → H' pl = some (.ins A.c_Plan dp (planF m n l3)) → H' l3 = some (.lst (xs.map V.int)) → H pl = none → Q (.ref pl) H') :
    (tMake A.c_Plan (sp_Plan_init A) [] E0 (tCons (tOp (rIxA A.K) (tVar 1) (tC (.int 0))) (tCons (tOp (rIxA A.K) (tVar 1) (tC (.int 1))) (tCons (tCB (rListA A.K) (tCons (tOp (rIxA A.K) (tVar 1) (tC (.int 2))) tNil)) tNil)))) σ H Q := by
  refine r_make ?_
  refine r_cons ?_
  refine r_op ?_
  refine r_var hσ ?_
  refine r_c ?_
  refine r_ixT (n := 0) (toT ht) rfl rfl ?_
  refine r_cons ?_
  refine r_op ?_
  refine r_var hσ ?_
  refine r_c ?_
  refine r_ixT (n := 1) (toT ht) rfl rfl ?_
  refine r_cons ?_
  refine r_cb ?_
  refine r_cons ?_
  refine r_op ?_
  refine r_var hσ ?_
  refine r_c ?_
  refine r_ixT (n := 2) (toT ht) rfl rfl ?_
  refine r_nil ?_
  refine r_listL (toL hls) fun l2 hl2 => ?_
  refine r_nil ?_
  intro pl dp hpl hdp ndp
  have s1 := same_new (o := .lst (xs.map V.int)) hl2
  have npl : l2 ≠ pl := ne_of_none upd_same hpl
  have ndl : l2 ≠ dp := ne_of_none upd_same hdp
  refine ⟨pl, dp, .int m, .int n, .ref l2, rfl, upd_same, rfl, rfl, .inl ⟨m, n, xs, l2, rfl, rfl, rfl, b1, b2, b3, b4, by rw [upd_ne npl, upd_ne ndl, upd_same], b5, fun H1 l3 _ e2 e3 bt => ⟨rfl, ?_⟩⟩⟩
  have s2 : Same H H1 := fun b o e => bt b o ((upd_ne (ne_of_none (s1 _ _ e) hpl)).trans ((upd_ne (ne_of_none (s1 _ _ e) hdp)).trans (s1 _ _ e))) (ne_of_none (s1 _ _ e) hpl)
  exact q H1 pl dp l3 s2 e2 e3 (none_same s1 hpl)
/-- Room(plan) -/
theorem mk_room1 (A : Ad) {σ : L2.St} {H : Hp} {Q : VK} {i : Nat} {pl dp l3 : Addr} {m n : Int} {xs : List Int} (hσ : σ[i]? = some (some (.ref pl))) (e2 : H pl = some (.ins A.c_Plan dp (planF m n l3))) (e3 : H l3 = some (.lst (xs.map V.int))) (b1 : 1 ≤ m) (b2 : m ≤ 40) (b3 : 1 ≤ n) (b4 : n ≤ 60) (b5 : okSizes (xs.map V.int) n = true)
    (q : ∀ H' r w, Same H H' → H r = none → Rm A H' r w pl m n xs (List.replicate m.toNat none) (fun _ => none) → (∀ b o, H b = some o → own (w b) = false) → Q (.ref r) H') :
    (tMake A.c_Room (sp_Room_init A) [] E0 (tCons (tVar i) tNil)) σ H Q := by
  refine r_make ?_
  refine r_cons ?_
  refine r_var hσ ?_
  refine r_nil ?_
  intro r dr hr hdr nrd
  have k2 : ∀ b o, H b = some o → upd (upd H dr (.own r)) r (.ins A.c_Room dr []) b = some o := fun b o e => (upd_ne (ne_of_none e hr)).trans ((upd_ne (ne_of_none e hdr)).trans e)
  refine ⟨r, dr, pl, m, n, xs, rfl, upd_same, ⟨⟨dp, l3, k2 _ _ e2, k2 _ _ e3⟩, b1, b2, b3, b4, b5⟩, fun H2 w bt2 wf R => ⟨rfl, ?_⟩⟩
  exact q H2 r w (fun b o e => bt2 b o (k2 _ _ e) (ne_of_none e hr)) hr R fun b o e => wf b o (k2 _ _ e) (ne_of_none e hr)
theorem r_forR2 {tA : TA} {g : TG} {tb : TS} {D : Ends} {σ : L2.St} {H : Hp} (h : tA σ H fun vs H1 => ∃ i j : Int, vs = [.int i, .int j] ∧ (-(2 ^ 62) ≤ i ∧ i < 2 ^ 62 ∧ -(2 ^ 62) ≤ j ∧ j < 2 ^ 62) ∧ ∃ W : Nat → Nat → L2.St → Hp → Prop, (∃ m, W 0 m σ H1) ∧ ∀ k m σ H, W k m σ H →
      ((Itr i (j - i).toNat).stop k H ∧ D.nx σ H) ∨ ((Itr i (j - i).toNat).go k H ∧ ∃ N : L2.St → Hp → Prop, (∀ σ' H', N σ' H' → ∃ m', m' < m ∧ W (k + 1) m' σ' H') ∧ ∀ x H', (Itr i (j - i).toNat).yld k H x H' → g x σ H' fun σ2 H2 => tb { D with nx := N, ct := N, bk := D.nx } σ2 H2)) : tFor (iRng2 tA) g tb D σ H := h
theorem find_first {x : Int} {zs : List Int} {z : Int} (h : x ≤ z) : (z :: zs).find? (fun s => decide (x ≤ s)) = some z := List.find?_cons_of_pos (decide_eq_true h)
theorem range_pos {k : Nat} (h : 0 < k) : List.range k = 0 :: (List.range (k - 1)).map Nat.succ := by
  obtain ⟨j, rfl⟩ : ∃ j, k = j + 1 := ⟨k - 1, by omega⟩
  rw [List.range_succ_eq_map]; rfl
theorem isSh_none {m : Int} {p : Nat} : isSh (List.replicate m.toNat none) p = false := by
  unfold isSh
  rw [List.getElem?_replicate]
  split
  · rename_i h
    split at h <;> cases h
  · rfl
theorem cands_none {m : Int} {s : Int} : cands (List.replicate m.toNat none) s = [] := by
  refine List.eq_nil_iff_forall_not_mem.mpr fun p hp => ?_
  have := (mem_cands.mp hp).1
  rw [isSh_none] at this
  cases this
theorem pageFor_none {m : Int} (h : 1 ≤ m) : pageFor (List.replicate m.toNat none) = some 0 := by
  unfold pageFor pileOf
  rw [List.length_replicate, range_pos (by omega), List.filter_cons_of_pos (by rw [isSh_none]; rfl)]
  rfl

theorem MS.refl {S : Addr → Prop} {H : Hp} : MS S H S H := fun _ _ h hs => ⟨h, hs⟩
theorem MS.trans {S S' S2 : Addr → Prop} {H H' H2 : Hp} (a : MS S H S' H') (b : MS S' H' S2 H2) : MS S H S2 H2 := fun c o h hs => by
  obtain ⟨e1, e2⟩ := a c o h hs
  exact b c o e1 e2
theorem MS.same {S : Addr → Prop} {H H' : Hp} (s : Same H H') : MS S H S H' := fun b o h hs => ⟨s b o h, hs⟩
theorem MS.upd {S S' : Addr → Prop} {H : Hp} {l : Addr} {o : HO} (hl : S l) (hs : ∀ b o, H b = some o → S' b → S b) : MS S H S' (L2.upd H l o) := fun b u h hn => ⟨(upd_ne (fun z => hn (by rw [z]; exact hl))).trans h, fun z => hn (hs b u h z)⟩
theorem MS.ext {S S' F : Addr → Prop} {H H1 H2 : Hp} (s : MS S H S H1) (hF : ∀ b, F b → H1 b = none) (hS : ∀ b, S' b → S b ∨ F b) (k : ∀ b o, H1 b = some o → ¬ S b → H2 b = some o) : MS S H S' H2 := fun b o h hs => by
  obtain ⟨e1, e3⟩ := s b o h hs
  have nf : ¬ F b := fun z => by rw [hF b z] at e1; cases e1
  exact ⟨k b o e1 e3, fun z => (hS b z).elim e3 nf⟩
theorem SStp.refl {S : Addr → Prop} {w : Addr → Ow} {H : Hp} : SStp S w H S w H := fun _ _ h _ hs _ => ⟨h, rfl, hs⟩
theorem SStp.trans {S S' S2 : Addr → Prop} {w w' w2 : Addr → Ow} {H H' H2 : Hp} (a : SStp S w H S' w' H') (b : SStp S' w' H' S2 w2 H2) : SStp S w H S2 w2 H2 := fun c o h hw hs ht => by
  obtain ⟨e1, e2, e3⟩ := a c o h hw hs ht
  obtain ⟨e4, e5, e6⟩ := b c o e1 (by rw [e2]; exact hw) e3 ht
  exact ⟨e4, e5.trans e2, e6⟩
theorem Stp.s {A : Ad} {S : Addr → Prop} {w w' : Addr → Ow} {H H' : Hp} (s : Stp A w H w' H') : SStp S w H S w' H' := fun b o h hw hs ht => by
  obtain ⟨e1, e2⟩ := s.fr b o h hw ht
  exact ⟨e1, e2, hs⟩
theorem SStp.same {S : Addr → Prop} {w : Addr → Ow} {H H' : Hp} (s : Same H H') : SStp S w H S w H' := fun b o h _ hs _ => ⟨s b o h, rfl, hs⟩
theorem MS.s {S S' : Addr → Prop} {w : Addr → Ow} {H H' : Hp} (s : MS S H S' H') : SStp S w H S' w H' := fun b o h _ hs _ => ⟨(s b o h hs).1, rfl, (s b o h hs).2⟩
theorem MS.or {S S' : Addr → Prop} {H H' : Hp} {lk : Addr} (s : MS S H S' H') : MS (fun b => S b ∨ b = lk) H (fun b => S' b ∨ b = lk) H' := fun b o h hs => by
  obtain ⟨e1, e2⟩ := s b o h fun z => hs (.inl z)
  exact ⟨e1, fun z => z.elim e2 fun z => hs (.inr z)⟩
theorem Pairs.z {w : Addr → Ow} {H : Hp} {ys : List V} {ts : List (Int × Int)} (h : Pairs w H ys ts) : Pairs w0 H ys ts := ⟨h.1, fun i y t h1 h2 => by
  obtain ⟨a, e1, e2, _⟩ := h.2 i y t h1 h2
  exact ⟨a, e1, e2, rfl⟩⟩
theorem Trip.z {w : Addr → Ow} {H : Hp} {ys : List V} {ts : List (Int × Int × Int)} (h : Trip w H ys ts) : Trip w0 H ys ts := ⟨h.1, fun i y t h1 h2 => by
  obtain ⟨a, e1, e2, _⟩ := h.2 i y t h1 h2
  exact ⟨a, e1, e2, rfl⟩⟩
section
variable {A : Ad} {H H' : Hp} {w w' : Addr → Ow} {ld : Addr} {ra ba : Nat → Addr} {bs : Bits}
theorem MD.plain (h : MD H w ld ra ba bs) {b : Addr} (hb : OnM ld ra ba bs b) : ∃ o, H b = some o ∧ plainO o = true ∧ w b = .no := by
  rcases hb with e | ⟨p, hp, e⟩
  · obtain ⟨kv, e1, _⟩ := h.dc
    exact ⟨_, by rw [e]; exact e1, rfl, by rw [e]; exact h.wd⟩
  · obtain ⟨r1, r2, r3, r4⟩ := h.rw p hp
    rcases e with e | e
    · exact ⟨_, by rw [e]; exact r1, rfl, by rw [e]; exact r2⟩
    · exact ⟨_, by rw [e]; exact r3, rfl, by rw [e]; exact r4⟩
theorem MD.keep (h : MD H w ld ra ba bs) (hw : ∀ b, OnM ld ra ba bs b → w' b = .no) (k : ∀ b o, OnM ld ra ba bs b → H b = some o → plainO o = true → H' b = some o) : MD H' w' ld ra ba bs := by
  obtain ⟨⟨kv, a1, a2⟩, b, c, d⟩ := h
  refine ⟨⟨kv, k _ _ (.inl rfl) a1 rfl, a2⟩, hw _ (.inl rfl), fun p hp => ?_, d⟩
  obtain ⟨r1, r2, r3, r4⟩ := c p hp
  exact ⟨k _ _ (.inr ⟨p, hp, .inl rfl⟩) r1 rfl, hw _ (.inr ⟨p, hp, .inl rfl⟩), k _ _ (.inr ⟨p, hp, .inr rfl⟩) r3 rfl, hw _ (.inr ⟨p, hp, .inr rfl⟩)⟩
theorem MD.sm (h : MD H w ld ra ba bs) (s : Same H H') : MD H' w ld ra ba bs := h.keep (fun b hb => by obtain ⟨_, _, _, e⟩ := h.plain hb; exact e) fun b o _ e _ => s b o e
theorem MD.stp (h : MD H w ld ra ba bs) (s : Stp A w H w' H') : MD H' w' ld ra ba bs := h.keep (fun b hb => by
    obtain ⟨o, e1, e2, e3⟩ := h.plain hb
    rw [(s.fr b o e1 (by rw [e3]; rfl) (plain_tbl e2)).2, e3]) fun b o hb e hp => by
    obtain ⟨o', e1, e2, e3⟩ := h.plain hb
    exact (s.fr b o e (by rw [e3]; rfl) (plain_tbl hp)).1
theorem MD.get (h : MD H w ld ra ba bs) : ∃ kv, H ld = some (.dK kv) ∧ (∀ p : Nat, isSh bs p = true → valV kv (.inl (p : Int)) = some (.ref (ra p))) ∧ ∀ p : Nat, isSh bs p = false → valV kv (.inl (p : Int)) = none := by
  obtain ⟨kv, a1, a2, a3, a4⟩ := h.dc
  refine ⟨kv, a1, a4, fun p hp => ?_⟩
  cases e : valV kv (.inl (p : Int)) with
  | none => rfl
  | some v =>
    obtain ⟨q, e1, e2⟩ := a3 _ (nd_keys.mp (by rw [e]; rfl))
    have : p = q := by have := Sum.inl.inj e1; omega
    rw [this, e2] at hp
    cases hp
/-- the pages, rising -/
theorem MD.keys (h : MD H w ld ra ba bs) : ∃ (kv : List (Key × V)) (ks : List Int), H ld = some (.dK kv) ∧ kv.map (·.1) = ks.map Sum.inl ∧ ks.Perm ((pagesOf bs).map fun p : Nat => (p : Int)) := by
  obtain ⟨kv, a1, a2, a3, a4⟩ := h.dc
  have kI : ∀ k ∈ kv.map (·.1), ∃ i, k = Sum.inl i := fun k hk => by
    obtain ⟨p, e, _⟩ := a3 k hk
    exact ⟨_, e⟩
  refine ⟨kv, keyInts kv, a1, keyInts_eq kI, (List.perm_ext_iff_of_nodup (nd_keyInts kI a2) ?_).mpr fun x => ?_⟩
  · exact (List.pairwise_map.mpr ((pages_nd bs).imp fun {a b} hab e => hab (by omega)))
  · constructor
    · intro hx
      rw [mem_keyInts kI] at hx
      rw [List.mem_map]
      obtain ⟨p, e, e2⟩ := a3 _ hx
      exact ⟨p, mem_pages.mpr e2, (Sum.inl.inj e).symm⟩
    · intro hx
      obtain ⟨p, hp, rfl⟩ := List.mem_map.mp hx
      rw [mem_keyInts kI]
      exact nd_keys.mp (by rw [a4 p (mem_pages.mp hp)]; rfl)
theorem sorted_pages {ys ks : List Int} (h1 : ys.Perm ks) (h2 : ys.Pairwise (· ≤ ·)) (h3 : ks.Perm ((pagesOf bs).map fun p : Nat => (p : Int))) : ys = (pagesOf bs).map fun p : Nat => (p : Int) := by
  have hp := h1.trans h3
  have hup : ((pagesOf bs).map fun p : Nat => (p : Int)).Pairwise (· ≤ ·) := List.pairwise_map.mpr ((pages_up bs).imp fun {a b} hab => by omega)
  exact List.Perm.eq_of_pairwise (fun a b _ _ h1 h2 => Int.le_antisymm h1 h2) h2 hup hp
theorem pages_few (hl : bs.length ≤ 40) : (pagesOf bs).length ≤ 40 := by
  unfold pagesOf
  exact Nat.le_trans (List.length_filter_le _ _) (by rw [List.length_range]; exact hl)
/-- a row becomes another -/
theorem MD.row (h : MD H w ld ra ba bs) {p : Nat} (hp : isSh bs p = true) {row : List Bool} : MD (upd H (ba p) (.lst (row.map V.bl))) w ld ra ba (bs.set p (some (szAt bs p, row))) := by
  have hlt := sh_lt hp
  obtain ⟨kv, a1, a2, a3, a4⟩ := h.dc
  obtain ⟨r1, r2, r3, r4⟩ := h.rw p hp
  have hsh : ∀ q, isSh (bs.set p (some (szAt bs p, row))) q = isSh bs q := fun q => by
    rw [isSh_set hlt]
    by_cases e : q = p
    · rw [if_pos e, e, hp]; rfl
    · rw [if_neg e]
  refine ⟨⟨kv, (upd_ne (ne_of a1 r3 (by intro z; cases z))).trans a1, a2, fun k hk => ?_, fun q hq => a4 q (by rw [← hsh]; exact hq)⟩, h.wd, fun q hq => ?_, fun q q' hq hq' => h.inj q q' (by rw [← hsh]; exact hq) (by rw [← hsh]; exact hq')⟩
  · obtain ⟨q, e1, e2⟩ := a3 k hk
    exact ⟨q, e1, by rw [hsh]; exact e2⟩
  · rw [hsh] at hq
    obtain ⟨q1, q2, q3, q4⟩ := h.rw q hq
    have hne : ra q ≠ ba p := fun z => by
      rw [z, r3] at q1
      have e := HO.lst.inj (Option.some.inj q1)
      have e0 := congrArg (fun l : List V => l[0]?) e
      rw [List.getElem?_map] at e0
      cases h0 : (rowAt bs p)[0]? with
      | none => rw [h0] at e0; cases e0
      | some b => rw [h0] at e0; cases e0
    rw [szAt_set hlt, rowAt_set hlt]
    by_cases e : q = p
    · rw [if_pos e, if_pos e, e]
      exact ⟨(upd_ne (by rw [e] at hne; exact hne)).trans r1, r2, upd_same, r4⟩
    · rw [if_neg e, if_neg e]
      exact ⟨(upd_ne hne).trans q1, q2, (upd_ne (fun z => e (h.inj q p hq hp z))).trans q3, q4⟩
/-- a page goes -/
theorem MD.pop (h : MD H w ld ra ba bs) {p : Nat} (hp : isSh bs p = true) : ∃ kv, H ld = some (.dK kv) ∧ valV kv (.inl (p : Int)) = some (.ref (ra p)) ∧ MD (upd H ld (.dK (dropK kv (.inl (p : Int))))) w ld ra ba (bs.set p none) := by
  obtain ⟨kv, a1, a2, a3, a4⟩ := h.dc
  have hsh : ∀ q, isSh (bs.set p none) q = true ↔ q ≠ p ∧ isSh bs q = true := fun q => isSh_drop
  refine ⟨kv, a1, a4 p hp, ⟨_, upd_same, nd_dropK a2, fun k hk => ?_, fun q hq => ?_⟩, h.wd, fun q hq => ?_, fun q q' hq hq' => h.inj q q' ((hsh q).mp hq).2 ((hsh q').mp hq').2⟩
  · rw [keys_drop] at hk
    obtain ⟨k1, k2⟩ := List.mem_filter.mp hk
    obtain ⟨q, e1, e2⟩ := a3 k k1
    refine ⟨q, e1, (hsh q).mpr ⟨fun z => ?_, e2⟩⟩
    have := of_decide_eq_true k2
    exact this (by rw [e1, z])
  · obtain ⟨h1, h2⟩ := (hsh q).mp hq
    rw [valV_drop, if_neg (fun z => h1 (by have := Sum.inl.inj z; omega))]
    exact a4 q h2
  · obtain ⟨h1, h2⟩ := (hsh q).mp hq
    obtain ⟨q1, q2, q3, q4⟩ := h.rw q h2
    rw [szAt_drop h1, rowAt_drop h1]
    exact ⟨(upd_ne (ne_of q1 a1 (by intro z; cases z))).trans q1, q2, (upd_ne (ne_of q3 a1 (by intro z; cases z))).trans q3, q4⟩
/-- a page comes -/
theorem MD.put (h : MD H w ld ra ba bs) {p : Nat} (hlt : p < bs.length) (hp : isSh bs p = false) {s : Int} {row : List Bool} {a b : Addr} (ha : H a = some (.lst [.int s, .ref b])) (hb : H b = some (.lst (row.map V.bl))) (wa : w a = .no) (wb : w b = .no) (hn : ∀ q, isSh bs q = true → ba q ≠ b) :
    ∃ kv, H ld = some (.dK kv) ∧ kv.length ≤ bs.length ∧ MD (upd H ld (.dK (putK kv (.inl (p : Int)) (.ref a)))) w ld (fun q => if q = p then a else ra q) (fun q => if q = p then b else ba q) (bs.set p (some (s, row))) := by
  obtain ⟨kv, a1, a2, a3, a4⟩ := h.dc
  have hsh : ∀ q, isSh (bs.set p (some (s, row))) q = true ↔ q = p ∨ isSh bs q = true := fun q => by
    rw [isSh_set hlt]
    by_cases e : q = p
    · rw [if_pos e]; exact ⟨fun _ => .inl e, fun _ => rfl⟩
    · rw [if_neg e]; exact ⟨fun z => .inr z, fun z => z.resolve_left e⟩
  have nal : a ≠ ld := ne_of ha a1 (by intro z; cases z)
  have nbl : b ≠ ld := ne_of hb a1 (by intro z; cases z)
  refine ⟨kv, a1, ?_, ⟨_, upd_same, nd_put a2, fun k hk => ?_, fun q hq => ?_⟩, h.wd, fun q hq => ?_, fun q q' hq hq' e => ?_⟩
  · have hsub : ∀ x ∈ kv.map (·.1), x ∈ (List.range bs.length).map fun q : Nat => (Sum.inl (q : Int) : Key) := fun x hx => by
      obtain ⟨q, rfl, e2⟩ := a3 x hx
      exact List.mem_map.mpr ⟨q, List.mem_range.mpr (sh_lt e2), rfl⟩
    have := a2.length_le_of_subset hsub
    rw [List.length_map, List.length_map, List.length_range] at this
    exact this
  · rcases mem_put.mp hk with e | e
    · exact ⟨p, e, (hsh p).mpr (.inl rfl)⟩
    · obtain ⟨q, e1, e2⟩ := a3 k e
      exact ⟨q, e1, (hsh q).mpr (.inr e2)⟩
  · show valV (putK kv (.inl (p : Int)) (.ref a)) (.inl (q : Int)) = some (.ref (if q = p then a else ra q))
    rw [valV_put]
    by_cases e : q = p
    · rw [if_pos (by rw [e]), if_pos e]
    · rw [if_neg (fun z => e (by have := Sum.inl.inj z; omega)), if_neg e]
      exact a4 q (((hsh q).mp hq).resolve_left e)
  · show upd H ld _ (if q = p then a else ra q) = some (.lst [.int (szAt (bs.set p (some (s, row))) q), .ref (if q = p then b else ba q)]) ∧ w (if q = p then a else ra q) = .no ∧ upd H ld _ (if q = p then b else ba q) = some (.lst ((rowAt (bs.set p (some (s, row))) q).map V.bl)) ∧ w (if q = p then b else ba q) = .no
    rw [szAt_set hlt, rowAt_set hlt]
    by_cases e : q = p
    · rw [if_pos e, if_pos e, if_pos e, if_pos e]
      exact ⟨(upd_ne nal).trans ha, wa, (upd_ne nbl).trans hb, wb⟩
    · rw [if_neg e, if_neg e, if_neg e, if_neg e]
      obtain ⟨q1, q2, q3, q4⟩ := h.rw q (((hsh q).mp hq).resolve_left e)
      exact ⟨(upd_ne (ne_of q1 a1 (by intro z; cases z))).trans q1, q2, (upd_ne (ne_of q3 a1 (by intro z; cases z))).trans q3, q4⟩
  · have e : (if q = p then b else ba q) = (if q' = p then b else ba q') := e
    by_cases e1 : q = p
    · by_cases e2 : q' = p
      · rw [e1, e2]
      · rw [if_pos e1, if_neg e2] at e
        exact absurd e.symm (hn q' (((hsh q').mp hq').resolve_left e2))
    · by_cases e2 : q' = p
      · rw [if_neg e1, if_pos e2] at e
        exact absurd e (hn q (((hsh q).mp hq).resolve_left e1))
      · rw [if_neg e1, if_neg e2] at e
        exact h.inj q q' (((hsh q).mp hq).resolve_left e1) (((hsh q').mp hq').resolve_left e2) e
theorem onM_row {p : Nat} {row : List Bool} (hp : isSh bs p = true) {b : Addr} (h : OnM ld ra ba (bs.set p (some (szAt bs p, row))) b) : OnM ld ra ba bs b := by
  rcases h with e | ⟨q, hq, e⟩
  · exact .inl e
  · refine .inr ⟨q, ?_, e⟩
    rw [isSh_set (sh_lt hp)] at hq
    by_cases z : q = p
    · rw [z]; exact hp
    · rw [if_neg z] at hq; exact hq
theorem onM_drop {p : Nat} {b : Addr} (h : OnM ld ra ba (bs.set p none) b) : OnM ld ra ba bs b := by
  rcases h with e | ⟨q, hq, e⟩
  · exact .inl e
  · exact .inr ⟨q, (isSh_drop.mp hq).2, e⟩
theorem tabs_ms {S S' : Addr → Prop} (s : MS S H S' H') (hS : ∀ b, S b → ∃ o, H b = some o ∧ plainO o = true) {P : Addr} {q : Str} (h : LamX.TabS H P q) : LamX.TabS H' P q := by
  have key : ∀ b o, H b = some o → plainO o = false → H' b = some o := fun b o e hp => (s b o e fun z => by
    obtain ⟨u, e1, e2⟩ := hS b z
    rw [e] at e1; cases e1
    rw [hp] at e2; cases e2).1
  obtain ⟨ps, t1, t2, t3⟩ := h
  refine ⟨ps, key _ _ t1 rfl, t2, fun pos cv hcv => ?_⟩
  obtain ⟨c2, u1, u2⟩ := t3 pos cv hcv
  exact ⟨c2, u1, key _ _ u2 rfl⟩
end
theorem Rm.ms {A : Ad} {H H' : Hp} {r : Addr} {w : Addr → Ow} {pl : Addr} {m n : Int} {xs : List Int} {bs : Bits} {hf : Held} {S S' : Addr → Prop} (h : Rm A H r w pl m n xs bs hf) (s : MS S H S' H') (hS : ∀ b, S b → w b = .no) : Rm A H' r w pl m n xs bs hf := h.keepH fun b o e _ hb => (s b o e fun z => hb (hS b z)).1
theorem best_unique {bs : Bits} {s : Int} {p q : Nat} (h1 : IsBest bs s p) (h2 : IsBest bs s q) : p = q := by
  have a := h1.2 q h2.1
  have b := h2.2 p h1.1
  omega
theorem ForSize.det {n : Int} {bs bs1 bs2 : Bits} {s : Int} {p q : Nat} (h1 : ForSize n bs s p bs1) (h2 : ForSize n bs s q bs2) : p = q ∧ bs1 = bs2 := by
  rcases h1 with ⟨a1, rfl⟩ | ⟨a1, a2, rfl⟩
  · rcases h2 with ⟨b1, rfl⟩ | ⟨b1, b2, rfl⟩
    · exact ⟨best_unique a1 b1, rfl⟩
    · have := a1.1; rw [b1] at this; cases this
  · rcases h2 with ⟨b1, rfl⟩ | ⟨b1, b2, rfl⟩
    · have := b1.1; rw [a1] at this; cases this
    · rw [a2] at b2; cases b2
      exact ⟨rfl, rfl⟩
theorem best_exists {bs : Bits} {s : Int} (h : cands bs s ≠ []) : ∃ p, IsBest bs s p := by
  suffices ∀ l : List Nat, l ≠ [] → ∃ p, p ∈ l ∧ ∀ q ∈ l, outAt bs q < outAt bs p ∨ (outAt bs q = outAt bs p ∧ p ≤ q) from this _ h
  intro l
  induction l with
  | nil => intro h; exact absurd rfl h
  | cons x l ih =>
    intro _
    by_cases e : l = []
    · subst e
      exact ⟨x, List.mem_cons_self, fun q hq => by rw [List.mem_singleton.mp hq]; omega⟩
    · obtain ⟨p, hp, hb⟩ := ih e
      by_cases c : outAt bs x < outAt bs p ∨ (outAt bs x = outAt bs p ∧ p ≤ x)
      · refine ⟨p, List.mem_cons_of_mem _ hp, fun q hq => ?_⟩
        rcases List.mem_cons.mp hq with e | e
        · rw [e]; exact c
        · exact hb q e
      · refine ⟨x, List.mem_cons_self, fun q hq => ?_⟩
        rcases List.mem_cons.mp hq with e | e
        · rw [e]; omega
        · have := hb q e; omega
/-- those of a told list of pages that a test lets through -/
def selF (P : Nat → Bool) : V → Option V
  | .int i => if P i.toNat = true then some (.int i) else none
  | _ => none
theorem selF_at (P : Nat → Bool) (p : Nat) : selF P (.int (p : Int)) = if P p = true then some (.int (p : Int)) else none := by
  show (if P ((p : Int).toNat) = true then _ else _) = _
  rw [Int.toNat_natCast]
theorem fm_sel (P : Nat → Bool) : ∀ l : List Nat, ((l.map fun p : Nat => (p : Int)).map V.int).filterMap (selF P) = ((l.filter P).map fun p : Nat => (p : Int)).map V.int
  | [] => rfl
  | p :: l => by
    rw [List.map_cons, List.map_cons, List.filterMap_cons, selF_at, List.filter_cons]
    by_cases e : P p = true
    · rw [if_pos e, if_pos e, List.map_cons, List.map_cons, ← fm_sel P l]
    · rw [if_neg e, if_neg e, fm_sel P l]
theorem pg_at {l : List Nat} {i : Nat} {x : V} (hx : ((l.map fun p : Nat => (p : Int)).map V.int)[i]? = some x) : ∃ p, l[i]? = some p ∧ x = V.int (p : Int) := by
  rw [List.getElem?_map, List.getElem?_map] at hx
  cases e : l[i]? with
  | none => rw [e] at hx; cases hx
  | some p => rw [e] at hx; exact ⟨p, rfl, (Option.some.inj hx).symm⟩

/-! ### gathering, thing by thing -/
theorem fill_snoc {n : Int} {R : List Nat} : ∀ (xs : List Int) (bs : Bits) (hf : Held) (x : Int) (g : Nat), R.find? (fun p => decide (false ∈ rowAt (fill n R xs bs hf).1 p)) = some g →
    fill n R (xs ++ [x]) bs hf = (takeAt (fill n R xs bs hf).1 g, mvH (fill n R xs bs hf).2.1 x ((g : Int) * n + (((rowAt (fill n R xs bs hf).1 g).idxOf false : Nat) : Int) * szAt (fill n R xs bs hf).1 g), (fill n R xs bs hf).2.2 ++ [(x, (g : Int) * n + (((rowAt (fill n R xs bs hf).1 g).idxOf false : Nat) : Int) * szAt (fill n R xs bs hf).1 g)])
  | [], bs, hf, x, g, h => by
    have h : R.find? (fun p => decide (false ∈ rowAt bs p)) = some g := h
    show fill n R [x] bs hf = _
    rw [fill_cons h]
    rfl
  | x0 :: xs, bs, hf, x, g, h => by
    cases e0 : R.find? (fun p => decide (false ∈ rowAt bs p)) with
    | none =>
      rw [fill_stuck e0] at h
      have h : R.find? (fun p => decide (false ∈ rowAt bs p)) = some g := h
      rw [e0] at h; cases h
    | some g0 =>
      rw [fill_cons e0] at h ⊢
      rw [List.cons_append, fill_cons e0]
      have ih := fill_snoc xs _ _ x g h
      rw [ih]
      rfl
theorem fill_keep {n : Int} {R : List Nat} : ∀ (xs : List Int) (bs : Bits) (hf : Held), (fill n R xs bs hf).1.length = bs.length ∧ ∀ q, isSh (fill n R xs bs hf).1 q = isSh bs q ∧ szAt (fill n R xs bs hf).1 q = szAt bs q ∧ (q ∉ R → rowAt (fill n R xs bs hf).1 q = rowAt bs q)
  | [], bs, hf => ⟨rfl, fun q => ⟨rfl, rfl, fun _ => rfl⟩⟩
  | x0 :: xs, bs, hf => by
    cases e0 : R.find? (fun p => decide (false ∈ rowAt bs p)) with
    | none => rw [fill_stuck e0]; exact ⟨rfl, fun q => ⟨rfl, rfl, fun _ => rfl⟩⟩
    | some g0 =>
      rw [fill_cons e0]
      have hg := of_decide_eq_true (List.find?_some (p := fun p => decide (false ∈ rowAt bs p)) e0)
      have hm := List.mem_of_find?_eq_some e0
      have hs := sh_row hg
      obtain ⟨i1, i2⟩ := fill_keep (n := n) (R := R) xs (takeAt bs g0) (mvH hf x0 ((g0 : Int) * n + (((rowAt bs g0).idxOf false : Nat) : Int) * szAt bs g0))
      refine ⟨i1.trans (by unfold takeAt; rw [List.length_set]), fun q => ?_⟩
      obtain ⟨a, b, c⟩ := i2 q
      refine ⟨a.trans (isSh_take hs), b.trans (szAt_take hs), fun hq => (c hq).trans ?_⟩
      rw [rowAt_take hs, if_neg (fun z => hq (by rw [z]; exact hm))]
theorem fill_free {n : Int} {R : List Nat} (hn : R.Nodup) : ∀ (xs : List Int) (bs : Bits) (hf : Held), xs.length ≤ freeSum bs R → freeSum (fill n R xs bs hf).1 R + xs.length = freeSum bs R
  | [], _, _, _ => rfl
  | x0 :: xs, bs, hf, h => by
    rw [List.length_cons] at h ⊢
    obtain ⟨g0, e0, hm, hg⟩ := find_free (bs := bs) (ps := R) (by omega)
    rw [fill_cons e0]
    have h1 := freeSum_take hg hn hm
    have ih := fill_free (n := n) hn xs (takeAt bs g0) (mvH hf x0 ((g0 : Int) * n + (((rowAt bs g0).idxOf false : Nat) : Int) * szAt bs g0)) (by omega)
    show freeSum (fill n R xs _ _).1 R + _ = _
    omega
theorem drops_get : ∀ {ps : List Nat} {bs : Bits} {q : Nat}, (dropPages bs ps)[q]? = if q ∈ ps then (if q < bs.length then some none else none) else bs[q]?
  | [], bs, q => by rw [if_neg (fun h => by cases h)]; rfl
  | p :: ps, bs, q => by
    show (dropPages (bs.set p none) ps)[q]? = _
    rw [drops_get, List.length_set]
    by_cases h1 : q ∈ ps
    · rw [if_pos h1, if_pos (List.mem_cons_of_mem _ h1)]
    · rw [if_neg h1]
      by_cases h2 : p = q
      · subst h2
        rw [if_pos List.mem_cons_self]
        by_cases h3 : p < bs.length
        · rw [List.getElem?_set_self h3, if_pos h3]
        · rw [if_neg h3, List.getElem?_eq_none (by rw [List.length_set]; omega)]
      · rw [List.getElem?_set_ne h2, if_neg (fun z => (List.mem_cons.mp z).elim (fun e => h2 e.symm) h1)]
theorem drops_perm {ps qs : List Nat} {bs : Bits} (h : ∀ q, q ∈ ps ↔ q ∈ qs) : dropPages bs ps = dropPages bs qs := List.ext_getElem? fun q => by
  rw [drops_get, drops_get]
  by_cases e : q ∈ ps
  · rw [if_pos e, if_pos ((h q).mp e)]
  · rw [if_neg e, if_neg (fun z => e ((h q).mpr z))]
theorem drops_take {ps : List Nat} {bs : Bits} {g : Nat} (hg : g ∉ ps) (hs : isSh bs g = true) : (dropPages bs ps).set g (some (szAt (dropPages bs ps) g, (rowAt (dropPages bs ps) g).set ((rowAt (dropPages bs ps) g).idxOf false) true)) = dropPages (takeAt bs g) ps := by
  obtain ⟨e1, e2⟩ := drops_at (bs := bs) hg
  rw [e1, e2]
  have hl := sh_lt hs
  refine List.ext_getElem? fun q => ?_
  rw [drops_get]
  by_cases e : g = q
  · subst e
    rw [List.getElem?_set_self (by rw [drops_len]; exact hl), if_neg hg]
    unfold takeAt
    rw [List.getElem?_set_self hl]
  · rw [List.getElem?_set_ne e, drops_get]
    unfold takeAt
    rw [List.length_set, List.getElem?_set_ne e]
def mapF (g : Nat → Int) : V → Option V
  | .int i => some (.int (g i.toNat))
  | _ => none
theorem mapF_at (g : Nat → Int) (p : Nat) : mapF g (.int (p : Int)) = some (.int (g p)) := by
  show some (V.int (g ((p : Int).toNat))) = _
  rw [Int.toNat_natCast]
theorem fm_map (g : Nat → Int) : ∀ l : List Nat, ((l.map fun p : Nat => (p : Int)).map V.int).filterMap (mapF g) = (l.map g).map V.int
  | [] => rfl
  | p :: l => by rw [List.map_cons, List.map_cons, List.filterMap_cons, mapF_at, List.map_cons, List.map_cons, ← fm_map g l]
theorem r_sortPl {K : PySem.W.Frag} {w : Addr → Ow} {H : Hp} {Q : VK} {l : Addr} {ys : List V} {ts us : List (Int × Int)} (hl : H l = some (.lst ys)) (h : Pairs w H ys ts) (hp : ts.Perm us) (hu : us.Pairwise fun a b => SrtO.lexB b a = false)
    (q : ∀ p ys', H p = none → Pairs w (upd H p (.lst ys')) ys' us → Q (.ref p) (upd H p (.lst ys'))) : rSortedA K [.ref l] H Q := by
  refine r_sortP (kdOf H) (toL hl) (fun x hx => ?_) fun ys' p s1 s2 hpn => ?_
  · obtain ⟨i, hi⟩ := List.mem_iff_getElem?.mp hx
    have hil : i < ts.length := by rw [← h.1]; exact (List.getElem?_eq_some_iff.mp hi).1
    obtain ⟨a, rfl, e2, _⟩ := h.2 i x _ hi (List.getElem?_eq_getElem hil)
    exact ⟨a, rfl, by rw [kdOf_at e2]; exact e2⟩
  · have hperm : (ys'.map (kdOf H)).Perm us := (s2.perm.map _).trans (by rw [pairs_kd h]; exact hp)
    have he : ys'.map (kdOf H) = us := by
      refine List.Perm.eq_of_pairwise (le := fun a b : Int × Int => SrtO.lexB b a = false) (fun a b _ _ h1 h2 => ?_) (List.pairwise_map.mpr (s1.imp fun {a b} h => h)) hu hperm
      obtain ⟨a1, a2⟩ := a
      obtain ⟨b1, b2⟩ := b
      have g1 := lexB_ff h1
      have g2 := lexB_ff h2
      have : a1 = b1 := by omega
      have : a2 = b2 := by omega
      simp [*]
    refine q p ys' hpn ⟨by rw [← he, List.length_map], fun i y t h1 h2 => ?_⟩
    obtain ⟨j, hj⟩ := List.mem_iff_getElem?.mp (s2.perm.mem_iff.mp (List.mem_of_getElem? h1))
    have hjl : j < ts.length := by rw [← h.1]; exact (List.getElem?_eq_some_iff.mp hj).1
    obtain ⟨a, rfl, e2, e3⟩ := h.2 j y _ hj (List.getElem?_eq_getElem hjl)
    rw [← he, List.getElem?_map, h1] at h2
    have h3 : kdOf H (.ref a) = t := Option.some.inj h2
    rw [kdOf_at e2] at h3
    subst h3
    exact ⟨a, rfl, (upd_ne (ne_of_none e2 hpn)).trans e2, e3⟩
theorem rank_lex {bs : Bits} {s : Int} {rk : List Nat} (h : IsRank bs s rk) : (rk.map fun p : Nat => (-((outAt bs p : Nat) : Int), (p : Int))).Pairwise fun a b => SrtO.lexB b a = false := by
  refine List.pairwise_map.mpr (h.2.imp fun {a b} hab => ?_)
  unfold SrtO.lexB
  by_cases e : (-((outAt bs b : Nat) : Int)) = -((outAt bs a : Nat) : Int)
  · rw [if_pos e]; exact decide_eq_false (by show ¬ (b : Int) < (a : Int); omega)
  · rw [if_neg e]; exact decide_eq_false (by show ¬ (-((outAt bs b : Nat) : Int)) < -((outAt bs a : Nat) : Int); omega)
theorem Pairs.take {w : Addr → Ow} {H : Hp} {ys : List V} {ts : List (Int × Int)} (h : Pairs w H ys ts) (k : Nat) : Pairs w H (ys.take k) (ts.take k) := by
  refine ⟨by rw [List.length_take, List.length_take, h.1], fun i y t h1 h2 => ?_⟩
  rw [List.getElem?_take] at h1 h2
  by_cases e : i < k
  · rw [if_pos e] at h1 h2; exact h.2 i y t h1 h2
  · rw [if_neg e] at h1; cases h1
theorem taken_take : ∀ (l : List Bool) (k j : Nat), (takenFrom k (l.take j)).length ≤ (takenFrom k l).length
  | [], k, j => by rw [List.take_nil]; exact Nat.le_refl _
  | c :: l, k, 0 => by rw [List.take_zero]; exact Nat.zero_le _
  | c :: l, k, j + 1 => by
    have ih := taken_take l (k + 1) j
    rw [List.take_succ_cons]
    unfold takenFrom
    cases c
    · exact ih
    · show (takenFrom (k + 1) (l.take j)).length + 1 ≤ (takenFrom (k + 1) l).length + 1
      omega
theorem Pairs.updO {w : Addr → Ow} {H : Hp} {ys : List V} {ts : List (Int × Int)} (h : Pairs w H ys ts) {l : Addr} {u o : HO} (hl : H l = some u) (hp : plainO u = true) : Pairs w (L2.upd H l o) ys ts := ⟨h.1, fun i y t h1 h2 => by
  obtain ⟨a, e1, e2, e3⟩ := h.2 i y t h1 h2
  exact ⟨a, e1, (upd_ne (ne_of e2 hl (by intro z; rw [← z] at hp; cases hp))).trans e2, e3⟩⟩

section
variable (A : Ad) (na : NA A)
include na

theorem pure_l_fullest (vs : List V) (H : Hp) (Q : VK) (E : XK) (h : sp_l_fullest A vs H Q E) : t_l_fullest A E { nx := fun _ H' => Q .non H', rt := Q } (start ["_law_model", "_law_size", "_law_best", "_law_page", "_law_row"] vs) H := by
  obtain ⟨ld, w, ra, ba, bs, s, rfl, M, hl, q0, q⟩ := h
  obtain ⟨kv, ks, hkv, hks, hkp⟩ := M.keys
  unfold t_l_fullest
  walk_at "rd"
  refine r_sortD hkv hks fun ys p0 hperm hsrt hp0 => ?_
  obtain rfl := sorted_pages hperm hsrt hkp
  have sP := same_new (o := .lst (((pagesOf bs).map fun p : Nat => (p : Int)).map V.int)) hp0
  have hpl := upd_same (H := H) (a := p0) (o := .lst (((pagesOf bs).map fun p : Nat => (p : Int)).map V.int))
  have M1 := M.sm sP
  generalize upd H p0 (.lst (((pagesOf bs).map fun p : Nat => (p : Int)).map V.int)) = H1 at sP hpl M1
  obtain ⟨kv1, hkv1, hv, _⟩ := M1.get
  refine ⟨p0, rfl, ⟨_, toL hpl⟩, for_list (K := A.K) (a := p0) (xs := ((pagesOf bs).map fun p : Nat => (p : Int)).map V.int) (fun i σ H' => ∃ (b : Int) (v3 v4 : Option V), σ = [some (.ref ld), some (.int s), some (.int b), v3, v4] ∧ H' = H1 ∧ ((b = -1 ∧ ∀ p ∈ (pagesOf bs).take i, p ∉ cands bs s) ∨ ∃ p : Nat, b = (p : Int) ∧ p ∈ cands bs s ∧ p ∈ (pagesOf bs).take i ∧ ∀ q ∈ (pagesOf bs).take i, q ∈ cands bs s → outAt bs q < outAt bs p ∨ (outAt bs q = outAt bs p ∧ p ≤ q)))
    ⟨-1, none, none, rfl, rfl, .inl ⟨rfl, fun p hp => by rw [List.take_zero] at hp; cases hp⟩⟩ (fun i σ H' _ ⟨_, _, _, _, e, _⟩ => by rw [e]; exact toL hpl) ?_ ?_⟩
  · rintro i x σ Hi hx ⟨b, v3, v4, rfl, rfl, hb⟩
    obtain ⟨p, hpi, rfl⟩ : ∃ p, (pagesOf bs)[i]? = some p ∧ x = V.int (p : Int) := by
      rw [List.getElem?_map, List.getElem?_map] at hx
      cases e : (pagesOf bs)[i]? with
      | none => rw [e] at hx; cases hx
      | some p => rw [e] at hx; exact ⟨p, rfl, (Option.some.inj hx).symm⟩
    have hsp := mem_pages.mp (List.mem_of_getElem? hpi)
    obtain ⟨r1, _, r3, _⟩ := M1.rw p hsp
    have etk := drop_snoc hpi
    rw [etk]
    walk_at "rd"
    refine r_dgetI hkv1 (hv p hsp) ?_
    walk_at "rd"
    refine r_ixL (n := 0) (toL r1) rfl rfl ?_
    walk_at "rd"
    have keep : p ∉ cands bs s → ((b = -1 ∧ ∀ q ∈ (pagesOf bs).take i ++ [p], q ∉ cands bs s) ∨ ∃ p' : Nat, b = (p' : Int) ∧ p' ∈ cands bs s ∧ p' ∈ (pagesOf bs).take i ++ [p] ∧ ∀ q ∈ (pagesOf bs).take i ++ [p], q ∈ cands bs s → outAt bs q < outAt bs p' ∨ (outAt bs q = outAt bs p' ∧ p' ≤ q)) := fun hn => by
      rcases hb with ⟨e, h1⟩ | ⟨p', e, h1, h2, h3⟩
      · refine .inl ⟨e, fun q hq => ?_⟩
        rcases List.mem_append.mp hq with hq | hq
        · exact h1 q hq
        · rw [List.mem_singleton.mp hq]; exact hn
      · refine .inr ⟨p', e, h1, List.mem_append_left _ h2, fun q hq hc => ?_⟩
        rcases List.mem_append.mp hq with hq | hq
        · exact h3 q hq hc
        · rw [List.mem_singleton.mp hq] at hc; exact absurd hc hn
    refine r_ifd (fun h1 => ?_) (fun h1 => ?_)
    · walk_at "rd"
      refine r_ixL (n := 1) (toL r1) rfl rfl ?_
      refine r_inB (toL r3) ?_
      walk_at "rd"
      refine r_ifd (fun h2 => ?_) (fun h2 => ?_)
      · have hc : p ∈ cands bs s := mem_cands.mpr ⟨hsp, h1, h2⟩
        walk_at "rd"
        refine r_ifd (fun h3 => ?_) (fun h3 => ?_)
        · walk_at "rd"
          refine ⟨_, _, _, rfl, rfl, .inr ⟨p, rfl, hc, List.mem_append_right _ List.mem_cons_self, fun q hq hqc => ?_⟩⟩
          rcases List.mem_append.mp hq with hq | hq
          · rcases hb with ⟨_, h4⟩ | ⟨p', e, _⟩
            · exact absurd hqc (h4 q hq)
            · omega
          · rw [List.mem_singleton.mp hq]; omega
        · obtain ⟨p', rfl, hc', hp', hbest⟩ : ∃ p' : Nat, b = (p' : Int) ∧ p' ∈ cands bs s ∧ p' ∈ (pagesOf bs).take i ∧ ∀ q ∈ (pagesOf bs).take i, q ∈ cands bs s → outAt bs q < outAt bs p' ∨ (outAt bs q = outAt bs p' ∧ p' ≤ q) := by
            rcases hb with ⟨e, _⟩ | hb
            · omega
            · exact hb
          have hsp' := (mem_cands.mp hc').1
          obtain ⟨r1', _, r3', _⟩ := M1.rw p' hsp'
          have hlt : p' < p := by
            obtain ⟨j, hj⟩ := List.mem_iff_getElem?.mp hp'
            rw [List.getElem?_take] at hj
            by_cases e : j < i
            · rw [if_pos e] at hj
              obtain ⟨j1, j2⟩ := List.getElem?_eq_some_iff.mp hj
              obtain ⟨i1, i2⟩ := List.getElem?_eq_some_iff.mp hpi
              have := (List.pairwise_iff_getElem.mp (pages_up bs)) j i j1 i1 e
              rw [j2, i2] at this
              exact this
            · rw [if_neg e] at hj; cases hj
          walk_at "rd"
          refine r_ixL (n := 1) (toL r1) rfl rfl ?_
          refine ⟨ty_list (toL r3), ?_⟩
          walk_at "rd"
          refine r_cntB (toL r3) ?_
          walk_at "rd"
          refine r_dgetI hkv1 (hv p' hsp') ?_
          walk_at "rd"
          refine r_ixL (n := 1) (toL r1') rfl rfl ?_
          refine ⟨ty_list (toL r3'), ?_⟩
          walk_at "rd"
          refine r_cntB (toL r3') ?_
          walk_at "rd"
          refine r_ifd (fun h4 => ?_) (fun h4 => ?_)
          · have h4 : outAt bs p' < outAt bs p := by unfold outAt; omega
            walk_at "rd"
            refine ⟨_, _, _, rfl, rfl, .inr ⟨p, rfl, hc, List.mem_append_right _ List.mem_cons_self, fun q hq hqc => ?_⟩⟩
            rcases List.mem_append.mp hq with hq | hq
            · have := hbest q hq hqc
              omega
            · rw [List.mem_singleton.mp hq]; omega
          · have h4 : ¬ outAt bs p' < outAt bs p := by unfold outAt; omega
            walk_at "rd"
            refine ⟨_, _, _, rfl, rfl, .inr ⟨p', rfl, hc', List.mem_append_left _ hp', fun q hq hqc => ?_⟩⟩
            rcases List.mem_append.mp hq with hq | hq
            · exact hbest q hq hqc
            · rw [List.mem_singleton.mp hq]; omega
      · walk_at "rd"
        exact ⟨_, _, _, rfl, rfl, keep fun hc => h2 (mem_cands.mp hc).2.2⟩
    · walk_at "rd"
      exact ⟨_, _, _, rfl, rfl, keep fun hc => h1 (mem_cands.mp hc).2.1⟩
  · rintro σ Hi ⟨b, v3, v4, rfl, rfl, hb⟩
    rw [List.length_map, List.length_map, List.take_length] at hb
    walk_at "rd"
    rcases hb with ⟨rfl, h1⟩ | ⟨p, rfl, h1, h2, h3⟩
    · exact q0 (List.eq_nil_iff_forall_not_mem.mpr fun p hp => h1 p (mem_pages.mpr (mem_cands.mp hp).1) hp) _ sP
    · exact q p ⟨h1, fun q hq => h3 q (mem_pages.mpr (mem_cands.mp hq).1) hq⟩ _ sP
theorem pure_l_fresh (vs : List V) (H : Hp) (Q : VK) (E : XK) (h : sp_l_fresh A vs H Q E) : t_l_fresh A E { nx := fun _ H' => Q .non H', rt := Q } (start ["_law_model", "_law_pages", "_law_bare", "_law_empty", "_law_page"] vs) H := by
  obtain ⟨ld, w, ra, ba, bs, m, rfl, M, hl, m0, m40, q0, q⟩ := h
  obtain ⟨kv, hkv, hv, hvn⟩ := M.get
  unfold t_l_fresh
  walk_at "rd"
  refine ⟨m, rfl, by omega, by omega, fun D hD => lc_fmR (lo := 0) (n := m.toNat) (fun i => if isSh bs i = true then none else some (.int (i : Int))) hD (Nat.le_trans (m := 40) (by omega) (by decide)) (fun i H3 Ny Nn hi sx hy hno => ?_) fun H3 s3 hH3 => ?_⟩
  · walk_at "rd"
    refine ⟨rfl, ?_⟩
    walk_at "rd"
    rw [show (0 : Int) + (i : Int) = (i : Int) by omega]
    refine r_dinI (sx _ _ hkv) ?_
    by_cases e : isSh bs i = true
    · rw [hv i e]
      simp only [Option.isSome_some, Bool.not_true]
      walk_at "rd"
      exact hno _ (Same.refl _) (if_pos e)
    · rw [hvn i (sh_false e)]
      simp only [Option.isSome_none, Bool.not_false]
      walk_at "rd"
      exact hy _ _ (Same.refl _) (if_neg e)
  have ebare : (List.range m.toNat).filterMap (fun i => if isSh bs i = true then none else some (V.int (i : Int))) = ((pileOf bs).map fun p : Nat => (p : Int)).map V.int := by
    unfold pileOf
    rw [hl, List.map_map]
    generalize List.range m.toNat = l
    induction l with
    | nil => rfl
    | cons p l ih =>
      rw [List.filterMap_cons, List.filter_cons]
      by_cases e : isSh bs p = true
      · rw [if_pos e, e]; exact ih
      · rw [if_neg e, sh_false e]
        show _ :: _ = _
        rw [ih]; rfl
  rw [ebare] at hH3
  obtain ⟨kv3, ks, hkv3, hks, hkp⟩ := (M.sm s3).keys
  walk_at "rd"
  refine r_sortD hkv3 hks fun ys p0 hperm hsrt hp0 => ?_
  obtain rfl := sorted_pages hperm hsrt hkp
  have sP := s3.trans (same_new (o := .lst (((pagesOf bs).map fun p : Nat => (p : Int)).map V.int)) hp0)
  have hpl := upd_same (H := H3) (a := p0) (o := .lst (((pagesOf bs).map fun p : Nat => (p : Int)).map V.int))
  have hD4 := (same_new (o := .lst (((pagesOf bs).map fun p : Nat => (p : Int)).map V.int)) hp0) _ _ hH3
  generalize upd H3 p0 (.lst (((pagesOf bs).map fun p : Nat => (p : Int)).map V.int)) = H4 at sP hpl hD4
  have M4 := M.sm sP
  obtain ⟨kv4, hkv4, hv4, hvn4⟩ := M4.get
  have hpg40 : (pagesOf bs).length ≤ 40 := pages_few (by omega)
  refine ⟨p0, rfl, ⟨_, toL hpl⟩, fun D2 hD2 => lc_fm (xs := ((pagesOf bs).map fun p : Nat => (p : Int)).map V.int) (selF fun p => decide (outAt bs p = 0)) hD2 (toL hpl) (Nat.le_trans (m := 40) (by rw [List.length_map, List.length_map]; exact hpg40) (by decide)) (fun i x H5 Ny Nn hx sx hy hno => ?_) fun H5 s5 hH5 => ?_⟩
  · obtain ⟨p, hpi, rfl⟩ : ∃ p, (pagesOf bs)[i]? = some p ∧ x = V.int (p : Int) := by
      rw [List.getElem?_map, List.getElem?_map] at hx
      cases e : (pagesOf bs)[i]? with
      | none => rw [e] at hx; cases hx
      | some p => rw [e] at hx; exact ⟨p, rfl, (Option.some.inj hx).symm⟩
    have hsp := mem_pages.mp (List.mem_of_getElem? hpi)
    obtain ⟨r1, _, r3, _⟩ := M4.rw p hsp
    walk_at "rd"
    refine ⟨rfl, ?_⟩
    walk_at "rd"
    refine r_dgetI (sx _ _ hkv4) (hv4 p hsp) ?_
    walk_at "rd"
    refine r_ixL (n := 1) (toL (sx _ _ r1)) rfl rfl ?_
    refine r_ninB (toL (sx _ _ r3)) ?_
    walk_at "rd"
    refine r_ifnd (fun h1 => ?_) (fun h1 => ?_)
    · have h0 : outAt bs p = 0 := by unfold outAt; exact List.count_eq_zero.mpr h1
      walk_at "rd"
      exact hy _ _ (Same.refl _) ((selF_at _ p).trans (if_pos (decide_eq_true h0)))
    · have h0 : outAt bs p ≠ 0 := fun z => by unfold outAt at z; exact List.count_eq_zero.mp z h1
      exact hno _ (Same.refl _) ((selF_at _ p).trans (if_neg (by rw [decide_eq_false h0]; exact Bool.false_ne_true)))
  have eempty : (((pagesOf bs).map fun p : Nat => (p : Int)).map V.int).filterMap (selF fun p => decide (outAt bs p = 0)) = ((unused bs).map fun p : Nat => (p : Int)).map V.int := fm_sel (fun p => decide (outAt bs p = 0)) (pagesOf bs)
  rw [eempty] at hH5
  have s45 := sP.trans s5
  have hD5 := s5 _ _ hD4
  have M5 := M.sm s45
  walk_at "rd"
  refine ⟨Nat.zero_le _, fun e1 he1 => ?_⟩
  have sE := same_new (o := .lst []) he1
  refine r_neL (ns := (pileOf bs).map fun p : Nat => (p : Int)) (ms := []) (toL (sE _ _ hD5)) (toL upd_same) ?_
  walk_at "rd"
  have s6 := s45.trans sE
  refine r_ifnd (fun hne => ?_) (fun hemp => ?_)
  · cases hp : pileOf bs with
    | nil => rw [hp] at hne; exact absurd rfl hne
    | cons p l =>
    have hpf : pageFor bs = some p := by unfold pageFor; rw [hp]; rfl
    have hns : isSh bs p = false := (mem_pile.mp (by rw [hp]; exact List.mem_cons_self)).2
    have hset : bs.set p none = bs := by
      refine List.ext_getElem? fun j => ?_
      by_cases e : p = j
      · subst e
        have hlt := (mem_pile.mp (show p ∈ pileOf bs by rw [hp]; exact List.mem_cons_self)).1
        rw [List.getElem?_set_self hlt]
        unfold isSh at hns
        cases e2 : bs[p]? with
        | none => rw [List.getElem?_eq_none_iff] at e2; omega
        | some o =>
          cases o with
          | none => rfl
          | some t => rw [e2] at hns; cases hns
      · rw [List.getElem?_set_ne e]
    rw [hp] at hD5
    walk_at "rd"
    refine r_ixL (n := 0) (toL (sE _ _ hD5)) rfl rfl ?_
    have := q p hpf (upd H5 e1 (.lst []))
    rw [hset] at this
    exact this (MS.same s6) (fun b hb => none_same s6 hb) (M.sm s6)
  · have hpn : pileOf bs = [] := List.map_eq_nil_iff.mp hemp
    walk_at "rd"
    refine ⟨Nat.zero_le _, fun e2 he2 => ?_⟩
    have sE2 := same_new (o := .lst []) he2
    have s7 := s6.trans sE2
    refine r_neL (ns := (unused bs).map fun p : Nat => (p : Int)) (ms := []) (toL ((sE.trans sE2) _ _ hH5)) (toL upd_same) ?_
    walk_at "rd"
    refine r_ifnd (fun hne => ?_) (fun hemp2 => ?_)
    · cases hp : unused bs with
      | nil => rw [hp] at hne; exact absurd rfl hne
      | cons p l =>
      have hpf : pageFor bs = some p := by unfold pageFor; rw [hpn, hp]; rfl
      have hsp : isSh bs p = true := (mem_unused.mp (by rw [hp]; exact List.mem_cons_self)).1
      have hH7 := (sE.trans sE2) _ _ hH5
      rw [hp] at hH7
      have M7 := M.sm s7
      have hDl : D2 ≠ ld := by
        obtain ⟨kv7, e7, _⟩ := M7.get
        exact ne_of hH7 e7 (by intro z; cases z)
      obtain ⟨kv8, hkv8, hval8, M8⟩ := M7.pop hsp
      walk_at "rd"
      refine ⟨ld, rfl, .inl ⟨kv8, .inl hkv8⟩, ?_⟩
      walk_at "rd"
      refine r_ixL (n := 0) (toL hH7) rfl rfl ?_
      refine ⟨kv8, .inl (p : Int), _, hkv8, rfl, hval8, ?_⟩
      walk_at "rd"
      refine r_ixL (n := 0) (toL ((upd_ne hDl).trans hH7)) rfl rfl ?_
      exact q p hpf _ (MS.trans (MS.same s7) (MS.upd (.inl rfl) fun b _ _ h => onM_drop h)) (fun b hb => none_same s7 (by
        by_cases e : b = ld
        · rw [e, upd_same] at hb; cases hb
        · rw [upd_ne e] at hb; exact hb)) M8
    · have hun : unused bs = [] := List.map_eq_nil_iff.mp hemp2
      have hpf : pageFor bs = none := by unfold pageFor; rw [hpn, hun]; rfl
      walk_at "rd"
      exact q0 hpf _ s7

omit na in
theorem lc_kf {σ : L2.St} {d : Addr} {o : Obj} {kvs : List (Key × V)} {ns : List Int} {g : TG} {tt : TT} {te : TE} {vs : List Nat} {H1 : Hp} {D : Addr} {Qd : Hp → Prop} (f : Int → Option V) (hD : H1 D = none) (hk : kvs.map (·.1) = ns.map Sum.inl) (hs : H1 d = some (.frz o (.dK kvs))) (hz : ns.length ≤ sizeLine)
    (step : ∀ (i : Nat) x H (Ny : V → Hp → Prop) (Nn : Hp → Prop), ns[i]? = some x → Same H1 H → (∀ y H4, Same H H4 → f x = some y → Ny y H4) → (∀ H3, Same H H3 → f x = none → Nn H3) →
      g (.int x) (wipe σ vs) H fun σ2 H2 => wipe σ2 vs = wipe σ vs ∧ tt σ2 H2 fun b H3 => if b = true then te σ2 H3 Ny else Nn H3)
    (hd : ∀ H', Same H1 H' → H' D = some (.lst (ns.filterMap f)) → Qd H') :
    ∃ W : Nat → Nat → Hp → Prop, (∃ m, W 0 m (upd H1 D (.lst []))) ∧ ∀ i m H, W i m H →
      ((Itk d o kvs).stop i H ∧ Qd H) ∨ ((Itk d o kvs).go i H ∧ ∃ Nx : Hp → Prop, (∀ H', Nx H' → ∃ m', m' < m ∧ W (i + 1) m' H') ∧ ∀ x H', (Itk d o kvs).yld i H x H' → g x (wipe σ vs) H' fun σ2 H2 => wipe σ2 vs = wipe σ vs ∧ tt σ2 H2 fun b H3 =>
        if b = true then te σ2 H3 fun y H4 => ∃ acc, H4 D = some (.lst acc) ∧ acc.length < sizeLine ∧ Nx (upd H4 D (.lst (acc ++ [y]))) else Nx H3) := by
  have hkl : kvs.length = ns.length := by have := congrArg List.length hk; simpa using this
  refine ⟨fun i m H => i ≤ ns.length ∧ m = ns.length - i ∧ Same H1 H ∧ H D = some (.lst ((ns.take i).filterMap f)), ⟨_, Nat.zero_le _, rfl, same_new hD, upd_same⟩, fun i m H ⟨hi, hm, s, hl⟩ => ?_⟩
  by_cases e : i = ns.length
  · refine .inl ⟨⟨s _ _ hs, by omega⟩, hd H s ?_⟩
    rw [e, List.take_length] at hl
    exact hl
  · have hi2 : i < ns.length := by omega
    refine .inr ⟨⟨s _ _ hs, by omega⟩, fun H' => ∃ m', m' < m ∧ (i + 1 ≤ ns.length ∧ m' = ns.length - (i + 1) ∧ Same H1 H' ∧ H' D = some (.lst ((ns.take (i + 1)).filterMap f))), fun H' h => h, fun x H' ⟨e1, k, v, e2, e3⟩ => ?_⟩
    subst e1
    have e4 : (kvs.map (·.1))[i]? = some k := by rw [List.getElem?_map, e2]; rfl
    rw [hk, List.getElem?_map, List.getElem?_eq_getElem hi2] at e4
    have e5 : k = Sum.inl ns[i] := (Option.some.inj e4).symm
    subst e5
    subst e3
    have hp : ns[i]? = some ns[i] := List.getElem?_eq_getElem hi2
    have et : ns.take (i + 1) = ns.take i ++ [ns[i]] := drop_snoc hp
    refine step i ns[i] H' _ _ hp s (fun y H4 s4 hf => ⟨_, s4 _ _ hl, ?_, ns.length - (i + 1), by omega, by omega, rfl, fun b u eb => ?_, ?_⟩) (fun H3 s3 hf => ⟨ns.length - (i + 1), by omega, by omega, rfl, s.trans s3, ?_⟩)
    · have := List.length_filterMap_le f (ns.take i)
      rw [List.length_take] at this
      omega
    · rw [upd_ne (ne_of_none eb hD)]
      exact s4 _ _ (s _ _ eb)
    · rw [upd_same, et, List.filterMap_append]
      simp [hf]
    · rw [s3 _ _ hl, et, List.filterMap_append]
      simp [hf]
theorem pure_l_wished (vs : List V) (H : Hp) (Q : VK) (E : XK) (h : sp_l_wished A vs H Q E) : t_l_wished A E { nx := fun _ H' => Q .non H', rt := Q } (start ["_law_model", "_law_drawn", "_law_wish", "_law_size", "_law_page", "_law_slot"] vs) H := by
  obtain ⟨ld, t, ls, w, ra, ba, bs, m, n, xs, x, rfl, M, hok, m1, m40, n60, wfr, ⟨ht, nt⟩, ⟨hls, nls⟩, q2, q⟩ := h
  have hn1 := hok.n1
  have hlen := hok.wf.len
  unfold t_l_wished
  walk_at "rd"
  refine r_ixT (n := 2) (toT ht) rfl rfl ?_
  walk_at "rd"
  refine ⟨ls, xs, x, rfl, toL hls, ?_⟩
  walk_at "rd"
  cases hf : xs.find? (fun s => decide (x ≤ s)) with
  | none =>
    have e : sizeBy xs x = 0 := by unfold sizeBy; rw [hf]; rfl
    rw [e, decide_eq_true rfl]
    walk_at "rd"
    exact q2 hf _ (Same.refl _)
  | some s =>
  have es : sizeBy xs x = s := by unfold sizeBy; rw [hf]; rfl
  have hsx : s ∈ xs := List.mem_of_find?_eq_some hf
  obtain ⟨s1, s2⟩ := hok.sz s hsx
  obtain ⟨q1, q⟩ := q s hf
  rw [es]
  refine r_ifd (fun h0 => by omega) (fun _ => ?_)
  have tail : ∀ (p : Nat) (bs1 : Bits) (H1 : Hp) (ra1 ba1 : Nat → Addr), ForSize n bs s p bs1 → MD H1 w ld ra1 ba1 bs1 → MS (OnM ld ra ba bs) H (OnM ld ra1 ba1 bs1) H1 →
      (tSeq (tAsg (tBM A.K "list" (rIndexA A.K) (tOp (rIxA A.K) (tDGet (tVar 0) (tVar 4)) (tC (.int 1))) (tCons (tC (.bl false)) tNil)) (gName 5))
  (tSeq (tAsg (tC (.bl true)) (gSub (tOp (rIxA A.K) (tDGet (tVar 0) (tVar 4)) (tC (.int 1))) (tVar 5) rSetL))
  (tRet (tOp rAddA (tOp rMulA (tVar 4) (tOp (rIxA A.K) (tVar 1) (tC (.int 1)))) (tOp rMulA (tVar 5) (tVar 3)))))) { nx := fun _ H' => Q .non H', rt := Q } [some (.ref ld), some (.ref t), some (.int x), some (.int s), some (.int (p : Int)), none] H1 := fun p bs1 H1 ra1 ba1 fs M1 ms => by
    obtain ⟨ok1, hf1, sz1⟩ := fs.room hok hsx
    have hsp := sh_row hf1
    obtain ⟨kv, hkv, hv, _⟩ := M1.get
    obtain ⟨r1, _, r3, _⟩ := M1.rw p hsp
    have ht1 := (ms t _ ht nt).1
    have hlt := List.idxOf_lt_length_of_mem hf1
    have hnt : ba1 p ≠ t := fun z => by rw [z, ht1] at r3; cases r3
    walk_at "rd"
    refine r_dgetI hkv (hv p hsp) ?_
    walk_at "rd"
    refine r_ixL (n := 1) (toL r1) rfl rfl ?_
    refine ⟨ty_list (toL r3), ?_⟩
    walk_at "rd"
    refine r_indexB (toL r3) hf1 ?_
    walk_at "rd"
    refine r_dgetI hkv (hv p hsp) ?_
    walk_at "rd"
    refine r_ixL (n := 1) (toL r1) rfl rfl ?_
    walk_at "rd"
    refine r_setL r3 rfl (by rw [List.length_map]; exact hlt) ?_
    rw [show (List.map V.bl (rowAt bs1 p)).set ((rowAt bs1 p).idxOf false) (V.bl true) = ((rowAt bs1 p).set ((rowAt bs1 p).idxOf false) true).map V.bl from List.map_set.symm]
    have M2 := M1.row hsp (row := (rowAt bs1 p).set ((rowAt bs1 p).idxOf false) true)
    have ms2 : MS (OnM ld ra ba bs) H (OnM ld ra1 ba1 (takeAt bs1 p)) (upd H1 (ba1 p) (.lst (((rowAt bs1 p).set ((rowAt bs1 p).idxOf false) true).map V.bl))) := MS.trans ms (MS.upd (.inr ⟨p, hsp, .inr rfl⟩) fun b _ _ h => onM_row hsp h)
    walk_at "rd"
    refine r_ixT (n := 1) (toT ((upd_ne (fun z => hnt z.symm)).trans ht1)) rfl rfl ?_
    refine r_mul (.inr (by omega)) ?_
    walk_at "rd"
    refine r_mul (.inr (by omega)) ?_
    walk_at "rd"
    exact q p bs1 fs _ ra1 ba1 ms2 M2
  walk_at "rd"
  refine ⟨ld, w, ra, ba, bs, s, rfl, M, by omega, fun hc H1 hs1 => ?_, fun p hb H1 hs1 => ?_⟩
  · walk_at "rd"
    refine r_ifd (fun _ => ?_) (fun hno => absurd (by decide) hno)
    walk_at "rd"
    refine r_ixT (n := 0) (toT (hs1 _ _ ht)) rfl rfl ?_
    walk_at "rd"
    have M1 := M.sm hs1
    refine ⟨ld, w, ra, ba, bs, m, rfl, M1, hlen, by omega, m40, fun hpn H2 hs2 => ?_, fun p hpf H2 ms hnv M2 => ?_⟩
    · walk_at "rd"
      refine r_ifd (fun _ => ?_) (fun hno => absurd (by decide) hno)
      walk_at "rd"
      exact q1 hc hpn _ (hs1.trans hs2)
    · obtain ⟨hplt, _⟩ := pageFor_at hpf
      have hpl2 : p < (bs.set p none).length := by rw [List.length_set]; exact hplt
      have hns : isSh (bs.set p none) p = false := by rw [isSh_set hplt, if_pos rfl]; rfl
      have ht2 := (ms t _ (hs1 _ _ ht) nt).1
      walk_at "rd"
      refine r_ifd (fun hlt => by omega) (fun _ => ?_)
      walk_at "rd"
      refine ⟨by show 1 ≤ sizeLine; decide, fun e0 he0 => ?_⟩
      have sE := same_new (o := .lst [.bl false]) he0
      walk_at "rd"
      refine r_ixT (n := 1) (toT (sE _ _ ht2)) rfl rfl ?_
      walk_at "rd"
      have hd0 : 0 ≤ n / s := Int.ediv_nonneg (by omega) (by omega)
      have hd1 : n / s ≤ 60 := Int.le_trans (Int.ediv_le_self _ (by omega)) n60
      refine r_rep upd_same hd0 (by omega) (by show 1 * (n / s).toNat ≤ sizeLine; exact Nat.le_trans (m := 60) (by omega) (by decide)) fun b0 hb0 => ?_
      rw [flat_rep]
      have erep : List.replicate (n / s).toNat (V.bl false) = (List.replicate (n / s).toNat false).map V.bl := List.map_replicate.symm
      rw [erep]
      have sB := sE.trans (same_new (o := .lst ((List.replicate (n / s).toNat false).map V.bl)) hb0)
      have hbv := upd_same (H := upd H2 e0 (.lst [.bl false])) (a := b0) (o := .lst ((List.replicate (n / s).toNat false).map V.bl))
      have hb2 : H2 b0 = none := none_same sE hb0
      generalize upd (upd H2 e0 (.lst [.bl false])) b0 (.lst ((List.replicate (n / s).toNat false).map V.bl)) = H3 at sB hbv
      walk_at "rd"
      refine ⟨by show 2 ≤ sizeLine; decide, fun a0 ha0 => ?_⟩
      have sA := sB.trans (same_new (o := .lst [.int s, .ref b0]) ha0)
      have hav := upd_same (H := H3) (a := a0) (o := .lst [.int s, .ref b0])
      have hbv4 := (same_new (o := .lst [.int s, .ref b0]) ha0) _ _ hbv
      have ha2 : H2 a0 = none := none_same sB ha0
      generalize upd H3 a0 (.lst [.int s, .ref b0]) = H4 at sA hav hbv4
      have hnone : ∀ c, H2 c = none → w c = .no := fun c hc2 => wfr c (none_same hs1 (hnv c hc2))
      obtain ⟨kv, hkv, hkl, M4⟩ := (M2.sm sA).put hpl2 hns (s := s) (row := List.replicate (n / s).toNat false) (a := a0) (b := b0) hav hbv4 (hnone a0 ha2) (hnone b0 hb2) (fun q' hq' e => by
        obtain ⟨_, _, r3, _⟩ := M2.rw q' hq'
        rw [e, hb2] at r3; cases r3)
      walk_at "rd"
      refine r_dputI hkv (Nat.lt_of_le_of_lt (m := 40) (by rw [List.length_set] at hkl; omega) (by decide)) ?_
      rw [List.set_set] at M4
      refine r_nx ?_
      refine tail p (newShelf n bs p s) _ _ _ (.inr ⟨hc, hpf, rfl⟩) M4 (MS.trans (MS.same hs1) (MS.trans ms (MS.ext (F := fun b => b = a0 ∨ b = b0) MS.refl (fun b hb => ?_) (fun b hb => ?_) fun b o e hn => (upd_ne (fun z => hn (.inl z))).trans (sA _ _ e))))
      · rcases hb with e | e
        · rw [e]; exact ha2
        · rw [e]; exact hb2
      · rcases hb with e | ⟨q', hq', e⟩
        · exact .inl (.inl e)
        · have e : b = (if q' = p then a0 else ra q') ∨ b = (if q' = p then b0 else ba q') := e
          by_cases z : q' = p
          · rw [if_pos z, if_pos z] at e; exact .inr e
          · rw [if_neg z, if_neg z] at e
            refine .inl (.inr ⟨q', ?_, e⟩)
            unfold newShelf at hq'
            rw [isSh_set hplt, if_neg z] at hq'
            exact isSh_drop.mpr ⟨z, hq'⟩
  · have hc := hb.1
    refine r_name ?_
    refine r_nx ?_
    refine r_seq ?_
    walk_at "rd"
    refine r_ifd (fun hlt => by omega) (fun _ => ?_)
    refine r_next ?_
    refine r_nx ?_
    exact tail p bs H1 ra ba (.inl ⟨hb, rfl⟩) (M.sm hs1) (MS.same hs1)
theorem pure_l_left (vs : List V) (H : Hp) (Q : VK) (E : XK) (h : sp_l_left A vs H Q E) : t_l_left A E { nx := fun _ H' => Q .non H', rt := Q } (start ["_law_model", "_law_drawn", "_law_size", "_law_left_here", "_law_page"] vs) H := by
  obtain ⟨ld, t, ls, w, ra, ba, bs, m, n, xs, s, rfl, M, o, m0, m40, n60, hs, ht, q⟩ := h
  have hn1 := o.n1
  obtain ⟨hs1, hs2⟩ := o.sz s hs
  have hlen := o.wf.len
  have hd0 : 0 ≤ n / s := Int.ediv_nonneg (by omega) (by omega)
  have hk : ((n / s).toNat : Int) = n / s := Int.toNat_of_nonneg hd0
  obtain ⟨kv, hkv, hv, hvn⟩ := M.get
  unfold t_l_left
  walk_at "rd"
  refine r_ixT (n := 0) (toT ht) rfl rfl ?_
  walk_at "rd"
  refine ⟨m, rfl, by omega, by omega, for_range (lo := 0) (n := m.toNat) (fun i σ H' => ∃ v4 : Option V, σ = [some (.ref ld), some (.ref t), some (.int s), some (.int ((((List.range i).map (capAt n bs s)).sum : Nat) : Int)), v4] ∧ H' = H)
    ⟨none, rfl, rfl⟩ ?_ ?_⟩
  · rintro i σ Hi hi ⟨v4, rfl, rfl⟩
    have hib : i < bs.length := by omega
    have esum : ((List.range (i + 1)).map (capAt n bs s)).sum = ((List.range i).map (capAt n bs s)).sum + capAt n bs s i := by rw [List.range_succ, List.map_append, List.sum_append]; simp
    have full : ∀ v4 : Option V, capAt n bs s i = (n / s).toNat → [some (V.ref ld), some (.ref t), some (.int s), some (.int (((((List.range i).map (capAt n bs s)).sum : Nat) : Int) + n / s)), v4] = [some (V.ref ld), some (.ref t), some (.int s), some (.int ((((List.range (i + 1)).map (capAt n bs s)).sum : Nat) : Int)), v4] := fun v4 e => by
      rw [esum, e, Int.natCast_add, hk]
    walk_at "rd"
    rw [show (0 : Int) + (i : Int) = (i : Int) by omega]
    refine r_dinI hkv ?_
    by_cases hsh : isSh bs i = true
    · obtain ⟨r1, _, r3, _⟩ := M.rw i hsh
      rw [hv i hsh]
      simp only [Option.isSome_some, Bool.not_true]
      walk_at "rd"
      refine r_dgetI hkv (hv i hsh) ?_
      walk_at "rd"
      refine r_ixL (n := 1) (toL r1) rfl rfl ?_
      refine r_ninB (toL r3) ?_
      walk_at "rd"
      refine r_ifnd (fun h1 => ?_) (fun h1 => ?_)
      · have h0 : outAt bs i = 0 := by unfold outAt; exact List.count_eq_zero.mpr h1
        have ecap : capAt n bs s i = (n / s).toNat := by
          unfold capAt
          rw [if_pos hsh]
          by_cases d : szAt bs i = s
          · rw [if_pos d]
            have h3 := two_counts (rowAt bs i)
            have h4 := (o.wf.ok i hsh).2
            rw [d] at h4
            unfold outAt at h0
            omega
          · rw [if_neg d, if_pos h0]
        walk_at "rd"
        refine r_ixT (n := 1) (toT ht) rfl rfl ?_
        walk_at "rd"
        exact ⟨_, full _ ecap, rfl⟩
      · have h0 : outAt bs i ≠ 0 := fun z => by unfold outAt at z; exact List.count_eq_zero.mp z h1
        walk_at "rd"
        refine r_dgetI hkv (hv i hsh) ?_
        walk_at "rd"
        refine r_ixL (n := 0) (toL r1) rfl rfl ?_
        walk_at "rd"
        refine r_ifd (fun h2 => ?_) (fun h2 => ?_)
        · walk_at "rd"
          refine r_dgetI hkv (hv i hsh) ?_
          walk_at "rd"
          refine r_ixL (n := 1) (toL r1) rfl rfl ?_
          refine ⟨ty_list (toL r3), ?_⟩
          walk_at "rd"
          refine r_cntB (toL r3) ?_
          walk_at "rd"
          refine ⟨some (.int (i : Int)), ?_, rfl⟩
          have ecap : capAt n bs s i = (rowAt bs i).count false := by unfold capAt; rw [if_pos hsh, if_pos h2]
          rw [esum, ecap, Int.natCast_add]
          rfl
        · walk_at "rd"
          refine ⟨some (.int (i : Int)), ?_, rfl⟩
          have ecap : capAt n bs s i = 0 := by unfold capAt; rw [if_pos hsh, if_neg h2, if_neg h0]
          rw [esum, ecap, Nat.add_zero]
          rfl
    · rw [hvn i (sh_false hsh)]
      refine ⟨true, rfl, ?_⟩
      refine r_ifT ?_
      walk_at "rd"
      refine r_ixT (n := 1) (toT ht) rfl rfl ?_
      walk_at "rd"
      exact ⟨_, full _ (by unfold capAt; rw [if_neg hsh]), rfl⟩
  · rintro σ Hi ⟨v4, rfl, rfl⟩
    walk_at "rd"
    have e : ((List.range m.toNat).map (capAt n bs s)).sum = capSum n bs s := by unfold capSum; rw [hlen]
    rw [e]
    exact q
theorem pure_l_told (vs : List V) (H : Hp) (Q : VK) (E : XK) (h : sp_l_told A vs H Q E) : t_l_told A E { nx := fun _ H' => Q .non H', rt := Q } (start ["_law_room", "_law_model", "_law_drawn", "_law_wish", "_law_size", "_law_found"] vs) H := by
  obtain ⟨r, ld, t, ls, w, w2, C, ra, ba, pl, m, n, xs, bs, hf, x, rfl, R, M, ht, hls, x1, q⟩ := h
  obtain ⟨dr, hr, _⟩ := R.ob
  unfold t_l_told
  walk_at "rd"
  refine r_ixT (n := 2) (toT ht) rfl rfl ?_
  walk_at "rd"
  refine ⟨ls, xs, x, rfl, toL hls, ?_⟩
  walk_at "rd"
  refine r_recv hr (rf_no _ _ _ (by decide +kernel) (by decide +kernel) (by decide +kernel)) ?_
  walk_at "rd"
  refine ⟨r, w, C, pl, m, n, xs, bs, hf, .int x, rfl, R, rfl, fun hno => ?_, fun i e h1 => ?_⟩
  · exfalso
    rcases hno with hno | ⟨i, e, hi⟩
    · cases hno
    · cases e; omega
  cases e
  refine ⟨fun hnone => ?_, fun s hs H' sH => ?_⟩
  · refine ⟨true, na.ex_TooLarge_TooLarge, fun _ a ha => ?_, fun e => Bool.noConfusion e⟩
    walk_at "rd"
    have e : sizeBy xs x = 0 := by unfold sizeBy; rw [hnone]; rfl
    rw [e, decide_eq_true (rfl : (0 : Int) = 0)]
    exact q _ (Same.refl _)
  · have es : sizeBy xs x = s := by unfold sizeBy; rw [hs]; rfl
    have hsx := List.mem_of_find?_eq_some hs
    obtain ⟨hs1, hs2⟩ := R.okk.sz s hsx
    rw [roomFor_cap (Int.ediv_nonneg (by have := R.pb; omega) (by omega)), es]
    walk_at "rd"
    rw [decide_eq_true (show (0 : Int) < s by omega)]
    walk_at "rd"
    refine wh_I ?_
    walk_at "rd"
    refine ⟨ld, t, ls, w2, ra, ba, bs, m, n, xs, s, rfl, M.sm sH, R.okk, by have := R.pb; omega, by have := R.pb; omega, by have := R.pb; omega, hsx, sH _ _ ht, ?_⟩
    walk_at "rd"
    rw [decide_eq_true rfl]
    exact q _ sH
theorem pure_l_got (vs : List V) (H : Hp) (Q : VK) (E : XK) (h : sp_l_got A vs H Q E) : t_l_got A E { nx := fun _ H' => Q .non H', rt := Q } (start ["_law_room", "_law_wish"] vs) H := by
  obtain ⟨r, w, pl, m, n, xs, bs, hf, x, rfl, R, x1, q2, q⟩ := h
  obtain ⟨dr, ds, dh, hr⟩ := R.ob
  unfold t_l_got
  walk_at "rd"
  refine r_recv hr (rf_no _ _ _ (by decide +kernel) (by decide +kernel) (by decide +kernel)) ?_
  walk_at "rd"
  refine ⟨r, w, pl, m, n, xs, bs, hf, .int x, rfl, R, rfl, fun hno => ?_, fun i e h1 => ?_⟩
  · exfalso
    rcases hno with hno | ⟨i, e, hi⟩
    · cases hno
    · cases e; omega
  cases e
  refine ⟨fun hnone => ?_, fun s hs => ⟨fun h2 h3 H1 s1 => ?_, fun p bs' H1 w1 fs s1 R1 => ?_⟩⟩
  · refine ⟨false, na.ex_TooLarge_NoRoom, (fun e => Bool.noConfusion e), fun _ => ⟨true, na.ex_TooLarge_TooLarge, fun _ a ha => ?_, (fun e => Bool.noConfusion e)⟩⟩
    walk_at "rd"
    exact q2 hnone _ (Same.refl _)
  · refine ⟨true, na.ex_NoRoom_NoRoom, fun _ a ha => ?_, fun e => Bool.noConfusion e⟩
    walk_at "rd"
    exact (q s hs).1 h2 h3 H1 s1
  · exact (q s hs).2 p bs' H1 w1 fs s1 R1

omit na in
theorem taken_snoc : ∀ (l : List Bool) (k : Nat) (b : Bool), takenFrom k (l ++ [b]) = takenFrom k l ++ if b = true then [((k + l.length : Nat) : Int)] else []
  | [], k, b => by cases b <;> rfl
  | c :: l, k, b => by
    have ih := taken_snoc l (k + 1) b
    rw [List.cons_append]
    unfold takenFrom
    rw [ih, show k + 1 + l.length = k + (c :: l).length by rw [List.length_cons]; omega]
    cases c <;> rfl
omit na in
theorem taken_len : ∀ (l : List Bool) (k : Nat), (takenFrom k l).length ≤ l.length
  | [], _ => Nat.le_refl _
  | c :: l, k => by
    have ih := taken_len l (k + 1)
    unfold takenFrom
    cases c
    · show (takenFrom (k + 1) l).length ≤ l.length + 1
      omega
    · show (takenFrom (k + 1) l).length + 1 ≤ l.length + 1
      omega
omit na in
theorem pairs_snoc0 {H : Hp} {ys : List V} {ts : List (Int × Int)} (h : Pairs w0 H ys ts) {D a : Addr} {x y : Int} (hD : H D = some (.lst ys)) (ha : H a = none) : Pairs w0 (upd (upd H a (.tup [.int x, .int y])) D (.lst (ys ++ [.ref a]))) (ys ++ [.ref a]) (ts ++ [(x, y)]) := by
  have s := same_new (o := .tup [.int x, .int y]) ha
  exact Pairs.upd (o := ys) (Pairs.snoc (h.sm s) upd_same rfl) (s _ _ hD)
theorem pure_l_places (vs : List V) (H : Hp) (Q : VK) (E : XK) (h : sp_l_places A vs H Q E) : t_l_places A E { nx := fun _ H' => Q .non H', rt := Q } (start ["_law_model", "_law_length", "_law_found", "_law_page", "_law_row", "_law_slot"] vs) H := by
  obtain ⟨ld, w, ra, ba, bs, m, n, xs, rfl, M, hok, m40, n60, q⟩ := h
  have hn1 := hok.n1
  have hlen := hok.wf.len
  unfold t_l_places
  walk_at "rd"
  refine ⟨Nat.zero_le _, fun D hD => ?_⟩
  have sD := same_new (o := .lst []) hD
  have hDv := upd_same (H := H) (a := D) (o := .lst [])
  generalize upd H D (.lst []) = H1 at sD hDv
  obtain ⟨kv, ks, hkv, hks, hkp⟩ := (M.sm sD).keys
  walk_at "rd"
  refine r_sortD hkv hks fun ys p0 hperm hsrt hp0 => ?_
  obtain rfl := sorted_pages hperm hsrt hkp
  have sP := same_new (o := .lst (((pagesOf bs).map fun p : Nat => (p : Int)).map V.int)) hp0
  have hpl := upd_same (H := H1) (a := p0) (o := .lst (((pagesOf bs).map fun p : Nat => (p : Int)).map V.int))
  have hDv2 := sP _ _ hDv
  have hpD : p0 ≠ D := fun z => by rw [z, hDv] at hp0; cases hp0
  have sA := sD.trans sP
  generalize upd H1 p0 (.lst (((pagesOf bs).map fun p : Nat => (p : Int)).map V.int)) = H2 at sP hpl hDv2 sA
  have hpg : (pagesOf bs).length ≤ 40 := pages_few (by omega)
  refine ⟨p0, rfl, ⟨_, toL hpl⟩, for_list (K := A.K) (a := p0) (xs := ((pagesOf bs).map fun p : Nat => (p : Int)).map V.int) (fun i σ H' => ∃ (v3 v4 v5 : Option V) (ys : List V), σ = [some (.ref ld), some (.int n), some (.ref D), v3, v4, v5] ∧ Same H H' ∧ H' p0 = some (.lst (((pagesOf bs).map fun p : Nat => (p : Int)).map V.int)) ∧ H' D = some (.lst ys) ∧ ys.length ≤ 60 * i ∧ Pairs w0 H' ys (((pagesOf bs).take i).flatMap fun p => (placesAt n bs p).map fun x => (x, szAt bs p)))
    ⟨none, none, none, [], rfl, sA, hpl, hDv2, Nat.zero_le _, by rw [List.take_zero]; exact Pairs.nil⟩ (fun i σ H' _ ⟨_, _, _, _, _, _, e, _⟩ => toL e) ?_ ?_⟩
  · rintro i x σ Hi hx ⟨v3, v4, v5, ys, rfl, si, hpi0, hDi, hyl, hPi⟩
    obtain ⟨p, hpi, rfl⟩ := pg_at hx
    have hi40 : i < 40 := by have := (List.getElem?_eq_some_iff.mp hpi).1; omega
    have hsp := mem_pages.mp (List.mem_of_getElem? hpi)
    have hrl : (rowAt bs p).length ≤ 60 := by
      rw [(hok.wf.ok p hsp).2]
      exact slots_le (hok.size hsp).1 hn1 n60
    have Mi := M.sm si
    obtain ⟨kvi, hkvi, hvi, _⟩ := Mi.get
    obtain ⟨r1, _, r3, _⟩ := Mi.rw p hsp
    obtain ⟨r10, _, r30, _⟩ := M.rw p hsp
    rw [drop_snoc hpi, List.flatMap_append]
    generalize hbase : ((pagesOf bs).take i).flatMap (fun p => (placesAt n bs p).map fun x => (x, szAt bs p)) = base at hPi
    have hsz := (hok.size hsp)
    walk_at "rd"
    refine r_dgetI hkvi (hvi p hsp) ?_
    walk_at "rd"
    refine r_ixL (n := 1) (toL r1) rfl rfl ?_
    walk_at "rd"
    refine r_lenL (toL r3) ?_
    rw [List.length_map]
    walk_at "rd"
    refine ⟨_, rfl, by omega, by omega, for_range (fun j σ H' => ∃ (v5 : Option V) (ys : List V), σ = [some (.ref ld), some (.int n), some (.ref D), some (.int (p : Int)), some (.ref (ra p)), v5] ∧ Same H H' ∧ H' p0 = some (.lst (((pagesOf bs).map fun p : Nat => (p : Int)).map V.int)) ∧ H' D = some (.lst ys) ∧ ys.length ≤ 60 * i + j ∧ Pairs w0 H' ys (base ++ (takenFrom 0 ((rowAt bs p).take j)).map fun k => ((p : Int) * n + k * szAt bs p, szAt bs p)))
      ⟨_, ys, rfl, si, hpi0, hDi, hyl, by rw [List.take_zero]; show Pairs w0 Hi ys (base ++ []); rw [List.append_nil]; exact hPi⟩ ?_ ?_⟩
    · rintro j σ Hj hj ⟨v5, ys, rfl, sj, hpj, hDj, hyj, hPj⟩
      have hjl : j < (rowAt bs p).length := by omega
      have hrj := List.getElem?_eq_getElem hjl
      have q1 := sj _ _ r10
      have q3 := sj _ _ r30
      rw [drop_snoc hrj, taken_snoc, List.length_take, Nat.min_eq_left (by omega), List.map_append, ← List.append_assoc]
      generalize (rowAt bs p)[j] = bb at hrj
      walk_at "rd"
      refine r_ixL (n := 1) (toL q1) rfl rfl ?_
      walk_at "rd"
      refine r_ixL (n := j) (toL q3) (by omega) (bl_at hrj) ?_
      walk_at "rd"
      refine r_ifb (fun hb => ?_) (fun hb => ?_)
      · subst hb
        walk_at "rd"
        refine ⟨ty_list (toL hDj), ?_⟩
        walk_at "rd"
        refine r_mul (.inr (by omega)) ?_
        walk_at "rd"
        refine r_ixL (n := 0) (toL q1) rfl rfl ?_
        refine r_mul (.inr (by omega)) ?_
        walk_at "rd"
        refine r_ixL (n := 0) (toL q1) rfl rfl ?_
        walk_at "rd"
        refine ⟨by show 2 ≤ sizeLine; decide, fun a ha => ?_⟩
        have sa := same_new (o := .tup [.int ((p : Int) * n + (0 + (j : Int)) * szAt bs p), .int (szAt bs p)]) ha
        walk_at "rd"
        refine r_append (sa _ _ hDj) (Nat.lt_of_le_of_lt (m := 2400) (by omega) (by decide)) ?_
        walk_at "rd"
        refine ⟨_, _, rfl, fun b o e => (upd_ne (ne_of_none e hD)).trans (sa _ _ (sj _ _ e)), (upd_ne hpD).trans (sa _ _ hpj), upd_same, by rw [List.length_append, List.length_singleton]; omega, ?_⟩
        have := pairs_snoc0 (x := (p : Int) * n + (0 + (j : Int)) * szAt bs p) (y := szAt bs p) hPj hDj ha
        rw [show (0 : Int) + (j : Int) = ((0 + j : Nat) : Int) by omega] at this ⊢
        exact this
      · subst hb
        walk_at "rd"
        refine ⟨_, ys, rfl, sj, hpj, hDj, by omega, ?_⟩
        show Pairs w0 Hj ys (_ ++ [])
        rw [List.append_nil]
        exact hPj
    · rintro σ Hj ⟨v5, ys, rfl, sj, hpj, hDj, hyj, hPj⟩
      rw [List.take_of_length_le (by omega)] at hPj
      walk_at "rd"
      refine ⟨_, _, _, ys, rfl, sj, hpj, hDj, by omega, ?_⟩
      have e : [p].flatMap (fun p => (placesAt n bs p).map fun x => (x, szAt bs p)) = (takenFrom 0 (rowAt bs p)).map fun k => ((p : Int) * n + k * szAt bs p, szAt bs p) := by
        rw [List.flatMap_cons, List.flatMap_nil, List.append_nil]
        unfold placesAt
        rw [List.map_map]
        rfl
      rw [e]
      exact hPj
  · rintro σ Hi ⟨v3, v4, v5, ys, rfl, si, hpi0, hDi, hyl, hPi⟩
    rw [List.length_map, List.length_map, List.take_length] at hPi
    walk_at "rd"
    exact q Hi D ys si hD hDi hPi
theorem pure_l_given (vs : List V) (H : Hp) (Q : VK) (E : XK) (h : sp_l_given A vs H Q E) : t_l_given A E { nx := fun _ H' => Q .non H', rt := Q } (start ["_law_model", "_law_length", "_law_place", "_law_page", "_law_row", "_law_empty", "_law_one"] vs) H := by
  obtain ⟨ld, w, ra, ba, bs, m, n, xs, p, k, rfl, M, hok, m40, n60, hk, q⟩ := h
  have hn1 := hok.n1
  have hlen := hok.wf.len
  have hsp := sh_at hk
  have hkl := row_lt hk
  have hlt := sh_lt hsp
  obtain ⟨hz1, hz2⟩ := hok.size hsp
  obtain ⟨hp1, hp2⟩ := hok.page hsp hkl
  obtain ⟨kv, hkv, hv, _⟩ := M.get
  obtain ⟨r1, _, r3, _⟩ := M.rw p hsp
  unfold t_l_given
  walk_at "rd"
  rw [hp1]
  refine r_dgetI hkv (hv p hsp) ?_
  walk_at "rd"
  refine r_ixL (n := 1) (toL r1) rfl rfl ?_
  walk_at "rd"
  rw [hp2]
  refine r_ixL (n := 0) (toL r1) rfl rfl ?_
  refine r_div (by omega) (by omega) ?_
  rw [Int.mul_ediv_cancel _ (by omega)]
  walk_at "rd"
  refine r_setL r3 rfl (by rw [List.length_map]; exact hkl) ?_
  rw [show (List.map V.bl (rowAt bs p)).set k (V.bl false) = ((rowAt bs p).set k false).map V.bl from List.map_set.symm]
  have M2 : MD (upd H (ba p) (.lst (((rowAt bs p).set k false).map V.bl))) w ld ra ba (giveAt bs p k) := M.row hsp
  have ms2 : MS (OnM ld ra ba bs) H (OnM ld ra ba (giveAt bs p k)) (upd H (ba p) (.lst (((rowAt bs p).set k false).map V.bl))) := MS.upd (.inr ⟨p, hsp, .inr rfl⟩) fun b _ _ h => onM_row hsp h
  generalize upd H (ba p) (.lst (((rowAt bs p).set k false).map V.bl)) = H2 at M2 ms2
  have hsh : ∀ q, isSh (giveAt bs p k) q = isSh bs q := fun q => by
    unfold giveAt
    rw [isSh_set hlt]
    by_cases e : q = p
    · rw [if_pos e, e, hsp]; rfl
    · rw [if_neg e]
  have hsp2 : isSh (giveAt bs p k) p = true := by rw [hsh]; exact hsp
  have hszp : szAt (giveAt bs p k) p = szAt bs p := by unfold giveAt; rw [szAt_set hlt, if_pos rfl]
  have hlen2 : (giveAt bs p k).length = m.toNat := by unfold giveAt; rw [List.length_set]; exact hlen
  obtain ⟨kv2, ks, hkv2, hks, hkp⟩ := M2.keys
  obtain ⟨kv2', hkv2', hv2, _⟩ := M2.get
  rw [hkv2] at hkv2'; cases hkv2'
  have hks40 : ks.length ≤ 40 := by
    rw [hkp.length_eq, List.length_map]
    exact pages_few (by omega)
  walk_at "rd"
  refine ⟨ld, _, hkv2, trivial, fun od => ?_⟩
  have hfz : upd H2 ld (.frz od (.dK kv2)) ld = some (.frz od (.dK kv2)) := upd_same
  have hne : ∀ {b o}, H2 b = some (.lst o) → upd H2 ld (.frz od (.dK kv2)) b = some (.lst o) := fun h => (upd_ne (ne_of h hkv2 (by intro z; cases z))).trans h
  refine r_asg ?_
  refine ⟨.ref ld, rfl, ld, od, rfl, .inl ⟨kv2, hfz, fun D hD => lc_kf (ns := ks) (fun x => if (szAt (giveAt bs p k) x.toNat = szAt bs p ∧ outAt (giveAt bs p k) x.toNat = 0) then some (.int x) else none) hD hks hfz (Nat.le_trans (m := 40) hks40 (by decide)) (fun i x H3 Ny Nn hx sx hy hno => ?_) fun H3 s3 hH3 => ?_⟩⟩
  · obtain ⟨pq, hpq, rfl⟩ := List.mem_map.mp (hkp.mem_iff.mp (List.mem_of_getElem? hx))
    have hsq := mem_pages.mp hpq
    obtain ⟨t1, _, t3, _⟩ := M2.rw pq hsq
    obtain ⟨u1, _, u3, _⟩ := M2.rw p hsp2
    have g1 := sx _ _ (hne t1)
    have g3 := sx _ _ (hne t3)
    have g0 := sx _ _ (hne u1)
    walk_at "rd"
    refine ⟨rfl, ?_⟩
    walk_at "rd"
    refine r_dgetF (sx _ _ hfz) (hv2 pq hsq) ?_
    walk_at "rd"
    refine r_ixL (n := 0) (toL g1) rfl rfl ?_
    walk_at "rd"
    refine r_ixL (n := 0) (toL g0) rfl rfl ?_
    rw [hszp]
    walk_at "rd"
    refine r_ifd (fun h1 => ?_) (fun h1 => ?_)
    · walk_at "rd"
      refine r_dgetF (sx _ _ hfz) (hv2 pq hsq) ?_
      walk_at "rd"
      refine r_ixL (n := 1) (toL g1) rfl rfl ?_
      refine r_ninB (toL g3) ?_
      walk_at "rd"
      refine r_ifnd (fun h2 => ?_) (fun h2 => ?_)
      · have h0 : outAt (giveAt bs p k) pq = 0 := by unfold outAt; exact List.count_eq_zero.mpr h2
        walk_at "rd"
        exact hy _ _ (Same.refl _) (if_pos (by rw [Int.toNat_natCast]; exact ⟨h1, h0⟩))
      · have h0 : outAt (giveAt bs p k) pq ≠ 0 := fun z => by unfold outAt at z; exact List.count_eq_zero.mp z h2
        exact hno _ (Same.refl _) (if_neg (by rw [Int.toNat_natCast]; exact fun z => h0 z.2))
    · walk_at "rd"
      exact hno _ (Same.refl _) (if_neg (by rw [Int.toNat_natCast]; exact fun z => h1 z.1))
  have hcnt : (ks.filterMap fun x => if (szAt (giveAt bs p k) x.toNat = szAt bs p ∧ outAt (giveAt bs p k) x.toNat = 0) then some (V.int x) else none).length = ((unused (giveAt bs p k)).filter fun q => decide (szAt (giveAt bs p k) q = szAt (giveAt bs p k) p)).length := by
    rw [(hkp.filterMap _).length_eq, hszp]
    unfold unused
    generalize pagesOf (giveAt bs p k) = l
    induction l with
    | nil => rfl
    | cons c l ih =>
      rw [List.map_cons, List.filterMap_cons, List.filter_cons, Int.toNat_natCast]
      by_cases e1 : outAt (giveAt bs p k) c = 0
      · rw [if_pos (decide_eq_true e1), List.filter_cons]
        by_cases e2 : szAt (giveAt bs p k) c = szAt bs p
        · rw [if_pos ⟨e2, e1⟩, if_pos (decide_eq_true e2), List.length_cons, List.length_cons, ← ih]
        · rw [if_neg (fun z => e2 z.1), if_neg (by rw [decide_eq_false e2]; exact Bool.false_ne_true), ← ih]
      · rw [if_neg (fun z => e1 z.2), if_neg (by rw [decide_eq_false e1]; exact Bool.false_ne_true), ← ih]
  have s4 := same_frz hkv2 s3
  have hDne : D ≠ ld := fun z => by rw [z, s3 _ _ hfz] at hH3; cases hH3
  have hD4 : upd H3 ld (.dK kv2) D = some (.lst (ks.filterMap fun x => if (szAt (giveAt bs p k) x.toNat = szAt bs p ∧ outAt (giveAt bs p k) x.toNat = 0) then some (V.int x) else none)) := (upd_ne hDne).trans hH3
  refine r_name ?_
  refine ⟨s3 _ _ hfz, ?_⟩
  generalize upd H3 ld (.dK kv2) = H4 at s4 hD4
  have M4 := M2.sm s4
  have ms4 := MS.trans ms2 (MS.same s4)
  obtain ⟨u1, _, u3, _⟩ := M4.rw p hsp2
  refine r_nx ?_
  walk_at "rd"
  refine r_ixL (n := 1) (toL u1) rfl rfl ?_
  refine r_ninB (toL u3) ?_
  walk_at "rd"
  refine r_ifnd (fun h1 => ?_) (fun h1 => ?_)
  · have h0 : outAt (giveAt bs p k) p = 0 := by unfold outAt; exact List.count_eq_zero.mpr h1
    walk_at "rd"
    refine r_lenL (toL hD4) ?_
    rw [hcnt]
    walk_at "rd"
    refine r_ifd (fun h2 => ?_) (fun h2 => ?_)
    · have est : giveSt bs p k = (giveAt bs p k).set p none := by unfold giveSt; rw [if_pos ⟨h0, by omega⟩]
      rw [est] at q
      obtain ⟨kv5, hkv5, hval5, M5⟩ := M4.pop hsp2
      walk_at "rd"
      refine ⟨ld, rfl, .inl ⟨kv5, .inl hkv5⟩, ?_⟩
      walk_at "rd"
      refine ⟨kv5, .inl (p : Int), _, hkv5, rfl, hval5, ?_⟩
      walk_at "rd"
      exact q _ (MS.trans ms4 (MS.upd (.inl rfl) fun b _ _ h => onM_drop h)) M5
    · have est : giveSt bs p k = giveAt bs p k := by unfold giveSt; rw [if_neg (fun z => h2 (by omega))]
      rw [est] at q
      walk_at "rd"
      exact q _ ms4 M4
  · have h0 : outAt (giveAt bs p k) p ≠ 0 := fun z => by unfold outAt at z; exact List.count_eq_zero.mp z h1
    have est : giveSt bs p k = giveAt bs p k := by unfold giveSt; rw [if_neg (fun z => h0 z.1)]
    rw [est] at q
    walk_at "rd"
    exact q _ ms4 M4

theorem pure_l_gathered_by (vs : List V) (H : Hp) (Q : VK) (E : XK) (h : sp_l_gathered_by A vs H Q E) : t_l_gathered_by A E { nx := fun _ H' => Q .non H', rt := Q } (start ["_law_model", "_law_length", "_law_size", "_law_page", "_law_pages", "_law_slots", "_law_needed", "_law_ranked", "_law_stay", "_law_moves", "_law_slot", "_law_goal", "_law_there", "_law_pair", "_law_one"] vs) H := by
  obtain ⟨ld, w, ra, ba, bs, m, n, xs, hf, s, rk, rfl, M, hok, hcon, m40, n60, hsx, hrk, q⟩ := h
  have hn1 := hok.n1
  have hlen := hok.wf.len
  obtain ⟨hs1, hs2⟩ := hok.sz s hsx
  have F := gath_facts hok hcon hsx hrk
  have hpg : (pagesOf bs).length ≤ 40 := pages_few (by omega)
  have hof : (ofSize bs s).length ≤ 40 := Nat.le_trans (List.length_filter_le _ _) hpg
  have hper : 1 ≤ n / s := (Int.le_ediv_iff_mul_le (by omega)).mpr (by omega)
  have hper60 : n / s ≤ 60 := Int.le_trans (Int.ediv_le_self _ (by omega)) n60
  have hrklen : rk.length = (ofSize bs s).length := hrk.1.length_eq
  have hofs : ∀ p ∈ ofSize bs s, isSh bs p = true ∧ szAt bs p = s := fun p hp => by
    obtain ⟨h1, h2⟩ := List.mem_filter.mp hp
    exact ⟨mem_pages.mp h1, of_decide_eq_true h2⟩
  obtain ⟨kv, ks, hkv, hks, hkp⟩ := M.keys
  unfold t_l_gathered_by
  walk_at "rd"
  refine r_sortD hkv hks fun ys p0 hperm hsrt hp0 => ?_
  obtain rfl := sorted_pages hperm hsrt hkp
  have s1 := same_new (o := .lst (((pagesOf bs).map fun p : Nat => (p : Int)).map V.int)) hp0
  have hpl := upd_same (H := H) (a := p0) (o := .lst (((pagesOf bs).map fun p : Nat => (p : Int)).map V.int))
  generalize upd H p0 (.lst (((pagesOf bs).map fun p : Nat => (p : Int)).map V.int)) = H1 at s1 hpl
  have M1 := M.sm s1
  obtain ⟨kv1, hkv1, hv1, _⟩ := M1.get
  refine ⟨p0, rfl, ⟨_, toL hpl⟩, fun D4 hD4 => lc_fm (xs := ((pagesOf bs).map fun p : Nat => (p : Int)).map V.int) (selF fun p => decide (szAt bs p = s)) hD4 (toL hpl) (Nat.le_trans (m := 40) (by rw [List.length_map, List.length_map]; exact hpg) (by decide)) (fun i x H5 Ny Nn hx sx hy hno => ?_) fun H2 s2 hH2 => ?_⟩
  · obtain ⟨p, hpi, rfl⟩ := pg_at hx
    have hsp := mem_pages.mp (List.mem_of_getElem? hpi)
    obtain ⟨r1, _, r3, _⟩ := M1.rw p hsp
    walk_at "rd"
    refine ⟨rfl, ?_⟩
    walk_at "rd"
    refine r_dgetI (sx _ _ hkv1) (hv1 p hsp) ?_
    walk_at "rd"
    refine r_ixL (n := 0) (toL (sx _ _ r1)) rfl rfl ?_
    walk_at "rd"
    refine r_ifd (fun h1 => ?_) (fun h1 => ?_)
    · walk_at "rd"
      exact hy _ _ (Same.refl _) ((selF_at _ p).trans (if_pos (decide_eq_true h1)))
    · exact hno _ (Same.refl _) ((selF_at _ p).trans (if_neg (by rw [decide_eq_false h1]; exact Bool.false_ne_true)))
  have e4 : (((pagesOf bs).map fun p : Nat => (p : Int)).map V.int).filterMap (selF fun p => decide (szAt bs p = s)) = ((ofSize bs s).map fun p : Nat => (p : Int)).map V.int := fm_sel _ _
  rw [e4] at hH2
  have s12 := s1.trans s2
  have M2 := M.sm s12
  obtain ⟨kv2, hkv2, hv2, _⟩ := M2.get
  have nD4 : H D4 = none := none_same s1 hD4
  have cnt : ∀ {σ : L2.St} {H3 : Hp} {p : Nat} {Q' : VK}, p ∈ ofSize bs s → Same H2 H3 → σ[0]? = some (some (.ref ld)) → σ[3]? = some (some (.int (p : Int))) → Q' (.int ((outAt bs p : Nat) : Int)) H3 → tBM A.K "list" (rCntB A.K) (tOp (rIxA A.K) (tDGet (tVar 0) (tVar 3)) (tC (.int 1))) (tCons (tC (.bl true)) tNil) σ H3 Q' := fun {σ H3 p Q'} hp sx g0 g3 q' => by
    have hsp := (hofs p hp).1
    obtain ⟨r1, _, r3, _⟩ := M2.rw p hsp
    refine r_bm ?_
    refine r_op ?_
    refine r_dget ?_
    refine r_var g0 ?_
    refine r_var g3 ?_
    refine r_dgetI (sx _ _ hkv2) (hv2 p hsp) ?_
    refine r_c ?_
    refine r_ixL (n := 1) (toL (sx _ _ r1)) rfl rfl ?_
    refine ⟨ty_list (toL (sx _ _ r3)), ?_⟩
    refine r_cons ?_
    refine r_c ?_
    refine r_nil ?_
    exact r_cntB (toL (sx _ _ r3)) q'
  walk_at "rd"
  refine ⟨D4, rfl, ⟨_, toL hH2⟩, fun D5 hD5 => lc_fm (xs := ((ofSize bs s).map fun p : Nat => (p : Int)).map V.int) (mapF fun p => ((outAt bs p : Nat) : Int)) hD5 (toL hH2) (Nat.le_trans (m := 40) (by rw [List.length_map, List.length_map]; exact hof) (by decide)) (fun i x H5 Ny Nn hx sx hy hno => ?_) fun H3 s3 hH3 => ?_⟩
  · obtain ⟨p, hpi, rfl⟩ := pg_at hx
    refine r_name ?_
    refine ⟨rfl, ?_⟩
    refine r_yes ?_
    refine r_ifT ?_
    exact cnt (List.mem_of_getElem? hpi) sx rfl rfl (hy _ _ (Same.refl _) (mapF_at _ p))
  rw [fm_map] at hH3
  refine ⟨D5, (ofSize bs s).map fun p => ((outAt bs p : Nat) : Int), rfl, toL hH3, ?_⟩
  have esum : ((ofSize bs s).map fun p => ((outAt bs p : Nat) : Int)).sum = ((outSum bs (ofSize bs s) : Nat) : Int) := isum_map _ _
  rw [esum]
  walk_at "rd"
  rw [F.eq]
  have s13 := s12.trans s3
  have hD4_3 := s3 _ _ hH2
  refine ⟨D4, rfl, ⟨_, toL hD4_3⟩, fun D6 hD6 => lc_rel (xs := ((ofSize bs s).map fun p : Nat => (p : Int)).map V.int) (fun x y H' => ∃ t, y = .ref t ∧ ∃ p : Nat, x = .int (p : Int) ∧ H' t = some (.tup [.int (-((outAt bs p : Nat) : Int)), .int (p : Int)])) (fun x y Ha Hb ⟨t, e1, p, e2, e3⟩ sab => ⟨t, e1, p, e2, sab _ _ e3⟩) (fun x y Ha acc ys ⟨t, e1, p, e2, e3⟩ hd => ⟨t, e1, p, e2, (upd_ne (ne_of e3 hd (by intro z; cases z))).trans e3⟩) hD6 (toL hD4_3) (Nat.le_trans (m := 40) (by rw [List.length_map, List.length_map]; exact hof) (by decide)) (fun i x H5 Ny hx sx hy => ?_) fun H4 ys6 s4 hH4 hyl hR => ?_⟩
  · obtain ⟨p, hpi, rfl⟩ := pg_at hx
    refine r_name ?_
    refine ⟨rfl, ?_⟩
    refine r_tup ?_
    refine r_cons ?_
    refine r_un ?_
    refine cnt (List.mem_of_getElem? hpi) (s3.trans sx) rfl rfl ?_
    refine r_neg ?_
    refine r_cons ?_
    refine r_var rfl ?_
    refine r_nil ?_
    refine ⟨by show 2 ≤ sizeLine; decide, fun t ht => ?_⟩
    exact hy _ _ (same_new ht) ⟨t, rfl, p, rfl, upd_same⟩
  have P6 : Pairs w0 H4 ys6 ((ofSize bs s).map fun p : Nat => (-((outAt bs p : Nat) : Int), (p : Int))) := by
    refine ⟨by rw [hyl, List.length_map, List.length_map, List.length_map], fun i y t h1 h2 => ?_⟩
    rw [List.getElem?_map] at h2
    cases e : (ofSize bs s)[i]? with
    | none => rw [e] at h2; cases h2
    | some p =>
      rw [e] at h2; cases h2
      obtain ⟨t, e1, p', e2, e3⟩ := hR i (.int (p : Int)) y (by rw [List.getElem?_map, List.getElem?_map, e]; rfl) h1
      have : p = p' := by have := V.int.inj e2; omega
      subst this
      exact ⟨t, e1, e3, rfl⟩
  walk_at "rd"
  refine r_sortPl hH4 P6 (hrk.1.symm.map _) (rank_lex hrk) fun p7 ys7 hp7 P7 => ?_
  have s5 := same_new (o := .lst ys7) hp7
  have hp7v := upd_same (H := H4) (a := p7) (o := .lst ys7)
  generalize upd H4 p7 (.lst ys7) = H5 at s5 hp7v P7
  walk_at "rd"
  refine ⟨p7, ys7, rfl, toL hp7v, fun D7 hD7 => ?_⟩
  rw [cut_takeA]
  have s6 := same_new (o := .lst (ys7.take (needed n bs s))) hD7
  have hD7v := upd_same (H := H5) (a := D7) (o := .lst (ys7.take (needed n bs s)))
  have P8 := (P7.take (needed n bs s)).sm s6
  rw [← List.map_take] at P8
  generalize upd H5 D7 (.lst (ys7.take (needed n bs s))) = H6 at s6 hD7v P8
  have s16 := s13.trans (s4.trans (s5.trans s6))
  walk_at "rd"
  refine ⟨D7, rfl, ⟨_, toL hD7v⟩, fun D8 hD8 => lc_prs (ts := (rk.take (needed n bs s)).map fun p : Nat => (-((outAt bs p : Nat) : Int), (p : Int))) (fun _ t => some (.int t.2)) hD8 hD7v P8 (Nat.le_trans (m := 40) (by rw [P8.1, List.length_map, List.length_take]; omega) (by decide)) (fun j b t H3' Ny Nn ht sx hb hy hno => ?_) fun H7 s7 hH7 => ?_⟩
  · walk_at "rd"
    refine ⟨rfl, ?_⟩
    walk_at "rd"
    refine r_ixT (n := 1) (toT hb) rfl rfl ?_
    exact hy _ _ (Same.refl _) rfl
  rw [zip_fm (fun t : Int × Int => some (V.int t.2)) P8.1] at hH7
  have e8 : ((rk.take (needed n bs s)).map fun p : Nat => (-((outAt bs p : Nat) : Int), (p : Int))).filterMap (fun t : Int × Int => some (V.int t.2)) = ((rk.take (needed n bs s)).map fun p : Nat => (p : Int)).map V.int := by
    rw [List.filterMap_eq_map', List.map_map, List.map_map]
    rfl
  rw [e8] at hH7
  refine r_sortI (ns := (rk.take (needed n bs s)).map fun p : Nat => (p : Int)) (toL hH7) fun ns' D9 hp9 hs9 hD9 => ?_
  have hrise : (rise bs (rk.take (needed n bs s))).Perm (rk.take (needed n bs s)) := F.st
  have en : ns' = (rise bs (rk.take (needed n bs s))).map fun p : Nat => (p : Int) :=
    List.Perm.eq_of_pairwise (fun a b _ _ h1 h2 => Int.le_antisymm h1 h2) hs9 (List.pairwise_map.mpr ((rise_up bs _).imp fun {a b} hab => by omega)) (hp9.trans (hrise.symm.map _))
  subst en
  have s8 := same_new (o := .lst (((rise bs (rk.take (needed n bs s))).map fun p : Nat => (p : Int)).map V.int)) hD9
  have hD9v := upd_same (H := H7) (a := D9) (o := .lst (((rise bs (rk.take (needed n bs s))).map fun p : Nat => (p : Int)).map V.int))
  have nD9 : H D9 = none := none_same (s16.trans s7) hD9
  generalize upd H7 D9 (.lst (((rise bs (rk.take (needed n bs s))).map fun p : Nat => (p : Int)).map V.int)) = H8 at s8 hD9v
  have s18 := s16.trans (s7.trans s8)
  walk_at "rd"
  refine ⟨Nat.zero_le _, fun Dm hDm => ?_⟩
  have s9 := same_new (o := .lst []) hDm
  have hDmv := upd_same (H := H8) (a := Dm) (o := .lst [])
  have nDm : H Dm = none := none_same s18 hDm
  have n9m : D9 ≠ Dm := fun z => by rw [← z, hD9v] at hDm; cases hDm
  generalize upd H8 Dm (.lst []) = H9 at s9 hDmv
  have s19 := s18.trans s9
  have hD4_9 := (s3.trans (s4.trans (s5.trans (s6.trans (s7.trans (s8.trans s9)))))) _ _ hH2
  have hD9_9 := s9 _ _ hD9v
  walk_at "rd"
  refine ⟨D4, rfl, ⟨_, toL hD4_9⟩, fun Dl hDl => lc_fm (xs := ((ofSize bs s).map fun p : Nat => (p : Int)).map V.int) (selF fun p => decide (p ∉ rk.take (needed n bs s))) hDl (toL hD4_9) (Nat.le_trans (m := 40) (by rw [List.length_map, List.length_map]; exact hof) (by decide)) (fun i x H5' Ny Nn hx sx hy hno => ?_) fun HA sA hHA => ?_⟩
  · obtain ⟨p, hpi, rfl⟩ := pg_at hx
    have hsp := (hofs p (List.mem_of_getElem? hpi)).1
    have emem : ((p : Int) ∈ (rise bs (rk.take (needed n bs s))).map fun p : Nat => (p : Int)) ↔ p ∈ rk.take (needed n bs s) := by
      rw [List.mem_map]
      constructor
      · rintro ⟨p', h1, h2⟩
        have : p' = p := by omega
        rw [← this]; exact (mem_rise.mp h1).2
      · intro h1; exact ⟨p, mem_rise.mpr ⟨hsp, h1⟩, rfl⟩
    walk_at "rd"
    refine ⟨rfl, ?_⟩
    walk_at "rd"
    refine r_ninI (ns := (rise bs (rk.take (needed n bs s))).map fun p : Nat => (p : Int)) (toL (sx _ _ hD9_9)) ?_
    walk_at "rd"
    refine r_ifnd (fun h1 => ?_) (fun h1 => ?_)
    · have h2 : p ∉ rk.take (needed n bs s) := fun z => h1 (emem.mpr z)
      walk_at "rd"
      exact hy _ _ (Same.refl _) ((selF_at _ p).trans (if_pos (decide_eq_true h2)))
    · have h2 : ¬ (p ∉ rk.take (needed n bs s)) := fun z => z (emem.mp h1)
      exact hno _ (Same.refl _) ((selF_at _ p).trans (if_neg (by rw [decide_eq_false h2]; exact Bool.false_ne_true)))
  have hsplit := List.take_append_drop (needed n bs s) rk
  have hdis : ∀ p, p ∈ rk → (p ∉ rk.take (needed n bs s) ↔ p ∈ rk.drop (needed n bs s)) := fun p hp => by
    rw [← hsplit] at hp
    have hnd := F.nd
    rw [← hsplit, List.nodup_append] at hnd
    constructor
    · intro h1; exact (List.mem_append.mp hp).resolve_left h1
    · intro h1 h2; exact hnd.2.2 p h2 p h1 rfl
  have eL : (ofSize bs s).filter (fun p => decide (p ∉ rk.take (needed n bs s))) = rise bs (rk.drop (needed n bs s)) := by
    unfold ofSize rise
    rw [List.filter_filter]
    refine List.filter_congr fun p hp => ?_
    by_cases e1 : p ∈ rk.drop (needed n bs s)
    · have hp2 : p ∈ rk := List.mem_of_mem_drop e1
      have e2 := (hdis p hp2).mpr e1
      have e3 := (F.shs p hp2).2
      rw [decide_eq_true e1, decide_eq_true e2, decide_eq_true e3]; rfl
    · rw [decide_eq_false e1]
      by_cases e3 : szAt bs p = s
      · have hp2 : p ∈ rk := hrk.1.mem_iff.mpr (List.mem_filter.mpr ⟨hp, decide_eq_true e3⟩)
        have e2 : ¬ (p ∉ rk.take (needed n bs s)) := fun z => e1 ((hdis p hp2).mp z)
        rw [decide_eq_false e2]; rfl
      · rw [decide_eq_false e3, Bool.and_false]
  rw [fm_sel, eL] at hHA
  have s1A := s19.trans sA
  have nDl : H Dl = none := none_same s19 hDl
  have nlm : Dl ≠ Dm := fun z => by rw [z, hDmv] at hDl; cases hDl
  have nl9 : Dl ≠ D9 := fun z => by rw [z, hD9_9] at hDl; cases hDl
  have hDm_A := sA _ _ hDmv
  have hD9_A := sA _ _ hD9_9
  generalize hL : rise bs (rk.drop (needed n bs s)) = L at hHA
  generalize hRR : rise bs (rk.take (needed n bs s)) = R at hD9_A
  have hLm : ∀ p ∈ L, isSh bs p = true ∧ szAt bs p = s ∧ p ∉ R := fun p hp => by
    rw [← hL] at hp
    obtain ⟨h1, h2⟩ := mem_rise.mp hp
    have h3 := List.mem_of_mem_drop h2
    exact ⟨h1, (F.shs p h3).2, fun z => by rw [← hRR] at z; exact (hdis p h3).mpr h2 (mem_rise.mp z).2⟩
  have hRm : ∀ p ∈ R, isSh bs p = true ∧ szAt bs p = s ∧ p ∉ L := fun p hp => by
    refine ⟨?_, ?_, fun z => (hLm p z).2.2 hp⟩
    · rw [← hRR] at hp; exact (mem_rise.mp hp).1
    · rw [← hRR] at hp; exact (F.shs p (List.mem_of_mem_take (mem_rise.mp hp).2)).2
  have hRn : R.Nodup := by rw [← hRR]; exact ((rise_up bs _).imp fun h => Nat.ne_of_lt h)
  have hLlen : L.length ≤ 40 := by rw [← hL]; exact Nat.le_trans (List.length_filter_le _ _) hpg
  have hroom : (L.flatMap fun p => placesAt n bs p).length ≤ freeSum bs R := by
    have := F.pl
    rw [hRR] at this
    unfold placesOn at this
    rw [hL] at this
    exact this
  have hRow : ∀ p, isSh bs p = true → szAt bs p = s → (rowAt bs p).length = (n / s).toNat := fun p h1 h2 => by rw [(hok.wf.ok p h1).2, h2]
  have hba : ∀ p, isSh bs p = true → ba p ≠ Dm ∧ ba p ≠ D9 ∧ ba p ≠ Dl := fun p hp => by
    obtain ⟨_, _, r3, _⟩ := M.rw p hp
    exact ⟨fun z => (by rw [z, nDm] at r3; cases r3), fun z => (by rw [z, nD9] at r3; cases r3), fun z => (by rw [z, nDl] at r3; cases r3)⟩
  have hldn : ld ≠ Dm ∧ ld ≠ D9 ∧ ld ≠ Dl := ⟨fun z => (by rw [z, nDm] at hkv; cases hkv), fun z => (by rw [z, nD9] at hkv; cases hkv), fun z => (by rw [z, nDl] at hkv; cases hkv)⟩
  refine ⟨Dl, rfl, ⟨_, toL hHA⟩, for_list (K := A.K) (a := Dl) (xs := (L.map fun p : Nat => (p : Int)).map V.int) (fun i σ H' => ∃ (v3 v10 v11 v12 v13 v14 : Option V) (ms : List V), σ = [some (.ref ld), some (.int n), some (.int s), v3, some (.ref D4), some (.int (n / s)), some (.int ((needed n bs s : Nat) : Int)), some (.ref D7), some (.ref D9), some (.ref Dm), v10, v11, v12, v13, v14] ∧ MS (OnM ld ra ba bs) H (OnM ld ra ba (dropPages (fill n R ((L.take i).flatMap fun p => placesAt n bs p) bs hf).1 (L.take i))) H' ∧ MD H' w ld ra ba (dropPages (fill n R ((L.take i).flatMap fun p => placesAt n bs p) bs hf).1 (L.take i)) ∧ H' Dl = some (.lst ((L.map fun p : Nat => (p : Int)).map V.int)) ∧ H' D9 = some (.lst ((R.map fun p : Nat => (p : Int)).map V.int)) ∧ H' Dm = some (.lst ms) ∧ Pairs w0 H' ms (fill n R ((L.take i).flatMap fun p => placesAt n bs p) bs hf).2.2 ∧ ms.length ≤ 60 * i)
    ⟨_, none, none, none, none, none, [], rfl, MS.same s1A, M.sm s1A, hHA, hD9_A, hDm_A, Pairs.nil, Nat.zero_le _⟩ (fun i σ H' _ ⟨_, _, _, _, _, _, _, _, _, _, e, _⟩ => toL e) ?_ ?_⟩
  · rintro i x σ Hi hx ⟨v3, v10, v11, v12, v13, v14, ms, rfl, Si, Mi, hli, h9i, hmi, Pi, hml⟩
    obtain ⟨p, hpi, rfl⟩ := pg_at hx
    have hpL := List.mem_of_getElem? hpi
    have hi40 : i < 40 := by have := (List.getElem?_eq_some_iff.mp hpi).1; omega
    obtain ⟨hsp, hzp, hpR⟩ := hLm p hpL
    have hrl := hRow p hsp hzp
    have hpt : p ∉ L.take i := fun z => by
      have hnd : L.Nodup := by rw [← hL]; exact ((rise_up bs _).imp fun h => Nat.ne_of_lt h)
      rw [← List.take_append_drop i L, drop_cons hpi, List.nodup_append] at hnd
      exact hnd.2.2 p z p List.mem_cons_self rfl
    have eone : [p].flatMap (fun p => placesAt n bs p) = placesAt n bs p := by rw [List.flatMap_cons, List.flatMap_nil, List.append_nil]
    rw [drop_snoc hpi, List.flatMap_append, eone]
    have htot : ((L.take i).flatMap fun p => placesAt n bs p).length + (placesAt n bs p).length ≤ freeSum bs R := by
      have e : L.flatMap (fun p => placesAt n bs p) = ((L.take i).flatMap fun p => placesAt n bs p) ++ (placesAt n bs p ++ (L.drop (i + 1)).flatMap fun p => placesAt n bs p) := by
        conv => lhs; rw [← List.take_append_drop i L, drop_cons hpi]
        rw [List.flatMap_append, List.flatMap_cons]
      rw [e, List.length_append, List.length_append] at hroom
      omega
    generalize (L.take i).flatMap (fun p => placesAt n bs p) = base at Si Mi Pi htot
    have hpa : placesAt n bs p = (takenFrom 0 (rowAt bs p)).map fun k => (p : Int) * n + k * szAt bs p := rfl
    have hsub : ∀ q, q ∈ L.take i → q ∈ L := fun q hq => List.mem_of_mem_take hq
    walk_at "rd"
    refine ⟨_, rfl, by omega, by omega, for_range (fun j σ H' => ∃ (v10 v11 v12 v13 v14 : Option V) (ms : List V), σ = [some (.ref ld), some (.int n), some (.int s), some (.int (p : Int)), some (.ref D4), some (.int (n / s)), some (.int ((needed n bs s : Nat) : Int)), some (.ref D7), some (.ref D9), some (.ref Dm), v10, v11, v12, v13, v14] ∧ MS (OnM ld ra ba bs) H (OnM ld ra ba (dropPages (fill n R (base ++ (takenFrom 0 ((rowAt bs p).take j)).map fun k => (p : Int) * n + k * szAt bs p) bs hf).1 (L.take i))) H' ∧ MD H' w ld ra ba (dropPages (fill n R (base ++ (takenFrom 0 ((rowAt bs p).take j)).map fun k => (p : Int) * n + k * szAt bs p) bs hf).1 (L.take i)) ∧ H' Dl = some (.lst ((L.map fun p : Nat => (p : Int)).map V.int)) ∧ H' D9 = some (.lst ((R.map fun p : Nat => (p : Int)).map V.int)) ∧ H' Dm = some (.lst ms) ∧ Pairs w0 H' ms (fill n R (base ++ (takenFrom 0 ((rowAt bs p).take j)).map fun k => (p : Int) * n + k * szAt bs p) bs hf).2.2 ∧ ms.length ≤ 60 * i + j)
      ⟨_, _, _, _, _, ms, rfl, by
        rw [List.take_zero]
        show MS _ _ (OnM ld ra ba (dropPages (fill n R (base ++ []) bs hf).1 (L.take i))) _
        rw [List.append_nil]; exact Si, by
        rw [List.take_zero]
        show MD _ _ _ _ _ (dropPages (fill n R (base ++ []) bs hf).1 (L.take i))
        rw [List.append_nil]; exact Mi, hli, h9i, hmi, by
        rw [List.take_zero]
        show Pairs w0 _ _ (fill n R (base ++ []) bs hf).2.2
        rw [List.append_nil]; exact Pi, by omega⟩ ?_ ?_⟩
    · rintro j σ Hj hj ⟨v10, v11, v12, v13, v14, ms, rfl, Sj, Mj, hlj, h9j, hmj, Pj, hmlj⟩
      have hjl : j < (rowAt bs p).length := by omega
      have hrj := List.getElem?_eq_getElem hjl
      have hK := fill_keep (n := n) (R := R) (base ++ (takenFrom 0 ((rowAt bs p).take j)).map fun k => (p : Int) * n + k * szAt bs p) bs hf
      have hFr := fill_free (n := n) hRn (base ++ (takenFrom 0 ((rowAt bs p).take j)).map fun k => (p : Int) * n + k * szAt bs p) bs hf
      have hSn := fill_snoc (n := n) (R := R) (base ++ (takenFrom 0 ((rowAt bs p).take j)).map fun k => (p : Int) * n + k * szAt bs p) bs hf ((p : Int) * n + ((0 + j : Nat) : Int) * szAt bs p)
      have hlt1 := taken_take (rowAt bs p) 0 (j + 1)
      rw [drop_snoc hrj, taken_snoc, List.length_take, Nat.min_eq_left (by omega), List.length_append] at hlt1
      rw [drop_snoc hrj, taken_snoc, List.length_take, Nat.min_eq_left (by omega), List.map_append, ← List.append_assoc]
      rw [hpa, List.length_map] at htot
      rw [List.length_append, List.length_map] at hFr
      generalize (rowAt bs p)[j] = bb at hrj hlt1
      generalize hxs : (base ++ (takenFrom 0 ((rowAt bs p).take j)).map fun k => (p : Int) * n + k * szAt bs p) = xs0 at Sj Mj Pj hK hFr hSn
      generalize hB : (fill n R xs0 bs hf).1 = B at Sj Mj hK hFr hSn
      have hcur : ∀ q, q ∉ L.take i → isSh bs q = true → isSh (dropPages B (L.take i)) q = true ∧ szAt (dropPages B (L.take i)) q = szAt bs q ∧ rowAt (dropPages B (L.take i)) q = rowAt B q := fun q hq hs => by
        obtain ⟨d1, d2⟩ := drops_at (bs := B) hq
        exact ⟨drops_sh.mpr ⟨hq, by rw [(hK.2 q).1]; exact hs⟩, d1.trans (hK.2 q).2.1, d2⟩
      obtain ⟨c1, c2, c3⟩ := hcur p hpt hsp
      rw [(hK.2 p).2.2 hpR] at c3
      obtain ⟨kvj, hkvj, hvj, _⟩ := Mj.get
      obtain ⟨r1, _, r3, _⟩ := Mj.rw p c1
      rw [c3] at r3
      walk_at "rd"
      refine r_dgetI hkvj (hvj p c1) ?_
      walk_at "rd"
      refine r_ixL (n := 1) (toL r1) rfl rfl ?_
      walk_at "rd"
      refine r_ixL (n := j) (toL r3) (by omega) (bl_at hrj) ?_
      walk_at "rd"
      refine r_ifb (fun hb => ?_) (fun hb => ?_)
      · subst hb
        have hlt1 : (takenFrom 0 ((rowAt bs p).take j)).length + 1 ≤ (takenFrom 0 (rowAt bs p)).length := hlt1
        have hfr := hFr (by omega)
        obtain ⟨g, eg, hgR, hgf⟩ := find_free (bs := B) (ps := R) (by omega)
        obtain ⟨hgs, hgz, hgL⟩ := hRm g hgR
        have hsn := hSn g eg
        obtain ⟨g1, g2, g3⟩ := hcur g (fun z => hgL (hsub g z)) hgs
        have hR40 : R.length ≤ 40 := by rw [← hRR]; exact Nat.le_trans (List.length_filter_le _ _) hpg
        walk_at "rd"
        refine ⟨D9, rfl, ⟨_, toL h9j⟩, fun De hDe => lc_fm (xs := (R.map fun p : Nat => (p : Int)).map V.int) (selF fun q => decide (false ∈ rowAt B q)) hDe (toL h9j) (Nat.le_trans (m := 40) (by rw [List.length_map, List.length_map]; exact hR40) (by decide)) (fun i' x' H5 Ny Nn hx' sx hy hno => ?_) fun Hk sk hHk => ?_⟩
        · obtain ⟨q', hq', rfl⟩ := pg_at hx'
          obtain ⟨u1, u2, u3⟩ := hRm q' (List.mem_of_getElem? hq')
          obtain ⟨k1, k2, k3⟩ := hcur q' (fun z => u3 (hsub q' z)) u1
          obtain ⟨t1, _, t3, _⟩ := Mj.rw q' k1
          rw [k3] at t3
          walk_at "rd"
          refine ⟨rfl, ?_⟩
          walk_at "rd"
          refine r_dgetI (sx _ _ hkvj) (hvj q' k1) ?_
          walk_at "rd"
          refine r_ixL (n := 1) (toL (sx _ _ t1)) rfl rfl ?_
          refine r_inB (toL (sx _ _ t3)) ?_
          walk_at "rd"
          refine r_ifd (fun h1 => ?_) (fun h1 => ?_)
          · walk_at "rd"
            exact hy _ _ (Same.refl _) ((selF_at _ q').trans (if_pos (decide_eq_true h1)))
          · exact hno _ (Same.refl _) ((selF_at _ q').trans (if_neg (by rw [decide_eq_false h1]; exact Bool.false_ne_true)))
        rw [fm_sel] at hHk
        have hhd : ((R.filter fun q => decide (false ∈ rowAt B q)).map fun p : Nat => (p : Int))[0]? = some (g : Int) := by
          rw [List.getElem?_map, filt_head _ R eg]; rfl
        have Mk := Mj.sm sk
        obtain ⟨kvk, hkvk, hvk, _⟩ := Mk.get
        obtain ⟨t1, _, t3, _⟩ := Mk.rw g g1
        have t3' := t3
        rw [g3] at t3
        have hil := List.idxOf_lt_length_of_mem hgf
        walk_at "rd"
        refine r_ixL (n := 0) (toL hHk) rfl (int_at hhd) ?_
        walk_at "rd"
        refine r_dgetI hkvk (hvk g g1) ?_
        walk_at "rd"
        refine r_ixL (n := 1) (toL t1) rfl rfl ?_
        refine ⟨ty_list (toL t3), ?_⟩
        walk_at "rd"
        refine r_indexB (toL t3) hgf ?_
        walk_at "rd"
        refine r_dgetI hkvk (hvk g g1) ?_
        walk_at "rd"
        refine r_ixL (n := 1) (toL t1) rfl rfl ?_
        walk_at "rd"
        refine r_setL t3 rfl (by rw [List.length_map]; exact hil) ?_
        rw [show (List.map V.bl (rowAt B g)).set ((rowAt B g).idxOf false) (V.bl true) = ((rowAt B g).set ((rowAt B g).idxOf false) true).map V.bl from List.map_set.symm]
        have M5 := Mk.row g1 (row := (rowAt B g).set ((rowAt B g).idxOf false) true)
        have hBg : isSh B g = true := by rw [(hK.2 g).1]; exact hgs
        have eset : (dropPages B (L.take i)).set g (some (szAt (dropPages B (L.take i)) g, (rowAt B g).set ((rowAt B g).idxOf false) true)) = dropPages (takeAt B g) (L.take i) := by
          have := drops_take (ps := L.take i) (bs := B) (g := g) (fun z => hgL (hsub g z)) hBg
          rw [g3] at this
          exact this
        have ms5 : MS (OnM ld ra ba (dropPages B (L.take i))) Hk (OnM ld ra ba ((dropPages B (L.take i)).set g (some (szAt (dropPages B (L.take i)) g, (rowAt B g).set ((rowAt B g).idxOf false) true)))) (upd Hk (ba g) (.lst (((rowAt B g).set ((rowAt B g).idxOf false) true).map V.bl))) := MS.upd (.inr ⟨g, g1, .inr rfl⟩) fun b _ _ h => onM_row g1 h
        rw [eset] at M5 ms5
        obtain ⟨nb1, nb2, nb3⟩ := hba g hgs
        have hm5 := (upd_ne (o := .lst (((rowAt B g).set ((rowAt B g).idxOf false) true).map V.bl)) (fun z => nb1 z.symm)).trans (sk _ _ hmj)
        have h95 := (upd_ne (o := .lst (((rowAt B g).set ((rowAt B g).idxOf false) true).map V.bl)) (fun z => nb2 z.symm)).trans (sk _ _ h9j)
        have hl5 := (upd_ne (o := .lst (((rowAt B g).set ((rowAt B g).idxOf false) true).map V.bl)) (fun z => nb3 z.symm)).trans (sk _ _ hlj)
        have P5 := Pairs.upd (xs := ((rowAt B g).set ((rowAt B g).idxOf false) true).map V.bl) (Pj.sm sk) t3
        generalize upd Hk (ba g) (.lst (((rowAt B g).set ((rowAt B g).idxOf false) true).map V.bl)) = H5 at M5 ms5 hm5 h95 hl5 P5
        walk_at "rd"
        refine ⟨ty_list (toL hm5), ?_⟩
        walk_at "rd"
        refine r_mul (.inr (by omega)) ?_
        walk_at "rd"
        refine r_mul (.inr (by omega)) ?_
        walk_at "rd"
        refine r_mul (.inr (by omega)) ?_
        walk_at "rd"
        refine r_mul (.inr (by omega)) ?_
        walk_at "rd"
        refine ⟨by show 2 ≤ sizeLine; decide, fun ta hta => ?_⟩
        have sa := same_new (o := .tup [.int ((p : Int) * n + (0 + (j : Int)) * s), .int ((g : Int) * n + (((rowAt B g).idxOf false : Nat) : Int) * s)]) hta
        walk_at "rd"
        refine r_append (sa _ _ hm5) (Nat.lt_of_le_of_lt (m := 2400) (by omega) (by decide)) ?_
        have PF := pairs_snoc0 (x := (p : Int) * n + (0 + (j : Int)) * s) (y := (g : Int) * n + (((rowAt B g).idxOf false : Nat) : Int) * s) P5 hm5 hta
        have eS : fill n R (xs0 ++ List.map (fun k => (p : Int) * n + k * szAt bs p) (if true = true then [((0 + j : Nat) : Int)] else [])) bs hf = (takeAt B g, mvH (fill n R xs0 bs hf).2.1 ((p : Int) * n + ((0 + j : Nat) : Int) * szAt bs p) ((g : Int) * n + (((rowAt B g).idxOf false : Nat) : Int) * szAt B g), (fill n R xs0 bs hf).2.2 ++ [((p : Int) * n + ((0 + j : Nat) : Int) * szAt bs p, (g : Int) * n + (((rowAt B g).idxOf false : Nat) : Int) * szAt B g)]) := hsn
        have hzB : szAt B g = s := by rw [(hK.2 g).2.1]; exact hgz
        have e0j : (0 : Int) + (j : Int) = ((0 + j : Nat) : Int) := by omega
        refine ⟨_, _, _, _, _, _, rfl, ?_, ?_, (upd_ne nlm).trans (sa _ _ hl5), (upd_ne n9m).trans (sa _ _ h95), upd_same, ?_, by rw [List.length_append, List.length_singleton]; omega⟩
        · rw [eS]
          have mH5 := MS.trans Sj (MS.trans (MS.same sk) ms5)
          exact fun b o hb hn => by
            obtain ⟨e1, e2⟩ := mH5 b o hb hn
            exact ⟨(upd_ne (ne_of_none hb nDm)).trans (sa _ _ e1), e2⟩
        · rw [eS]
          refine (M5.sm sa).keep (fun b hb => ?_) (fun b o hb e hp => ?_)
          · obtain ⟨_, _, _, e⟩ := M5.plain hb; exact e
          · refine (upd_ne fun z => ?_).trans e
            have hon : OnM ld ra ba bs b := by
              rcases hb with e | ⟨q', hq', e⟩
              · exact .inl e
              · refine .inr ⟨q', ?_, e⟩
                have h2 := (drops_sh.mp hq').2
                rw [isSh_take hBg, (hK.2 q').1] at h2
                exact h2
            obtain ⟨o', e', _⟩ := M.plain hon
            rw [z, nDm] at e'; cases e'
        · rw [eS, hzB, hzp, ← e0j]
          exact PF
      · subst hb
        walk_at "rd"
        show ∃ (v10 v11 v12 v13 v14 : Option V) (ms : List V), _
        refine ⟨_, _, _, _, _, ms, rfl, ?_, ?_, hlj, h9j, hmj, ?_, by omega⟩
        · show MS _ _ (OnM ld ra ba (dropPages (fill n R (xs0 ++ []) bs hf).1 (L.take i))) _
          rw [List.append_nil, hB]; exact Sj
        · show MD _ _ _ _ _ (dropPages (fill n R (xs0 ++ []) bs hf).1 (L.take i))
          rw [List.append_nil, hB]; exact Mj
        · show Pairs w0 _ _ (fill n R (xs0 ++ []) bs hf).2.2
          rw [List.append_nil]; exact Pj
    · rintro σ Hj ⟨v10, v11, v12, v13, v14, ms, rfl, Sj, Mj, hlj, h9j, hmj, Pj, hmlj⟩
      rw [List.take_of_length_le (by omega), ← hpa] at Sj Mj Pj
      have hK := fill_keep (n := n) (R := R) (base ++ placesAt n bs p) bs hf
      have c1 : isSh (dropPages (fill n R (base ++ placesAt n bs p) bs hf).1 (L.take i)) p = true := drops_sh.mpr ⟨hpt, by rw [(hK.2 p).1]; exact hsp⟩
      obtain ⟨kv5, hkv5, hval5, M5⟩ := Mj.pop c1
      walk_at "rd"
      refine ⟨ld, rfl, .inl ⟨kv5, .inl hkv5⟩, ?_⟩
      walk_at "rd"
      refine ⟨kv5, .inl (p : Int), _, hkv5, rfl, hval5, ?_⟩
      walk_at "rd"
      have ms5 : MS (OnM ld ra ba (dropPages (fill n R (base ++ placesAt n bs p) bs hf).1 (L.take i))) Hj (OnM ld ra ba ((dropPages (fill n R (base ++ placesAt n bs p) bs hf).1 (L.take i)).set p none)) (upd Hj ld (.dK (dropK kv5 (.inl (p : Int))))) := MS.upd (.inl rfl) fun b _ _ h => onM_drop h
      rw [← drops_snoc] at M5 ms5
      refine ⟨_, _, _, _, _, _, ms, rfl, MS.trans Sj ms5, M5, (upd_ne (fun z => hldn.2.2 z.symm)).trans hlj, (upd_ne (fun z => hldn.2.1 z.symm)).trans h9j, (upd_ne (fun z => hldn.1 z.symm)).trans hmj, Pj.updO hkv5 rfl, by omega⟩
  · rintro σ Hi ⟨v3, v10, v11, v12, v13, v14, ms, rfl, Si, Mi, hli, h9i, hmi, Pi, hml⟩
    rw [List.length_map, List.length_map, List.take_length] at Si Mi Pi
    have hg : gath n bs hf s rk = (dropPages (fill n R (L.flatMap fun p => placesAt n bs p) bs hf).1 L, (fill n R (L.flatMap fun p => placesAt n bs p) bs hf).2.1, (fill n R (L.flatMap fun p => placesAt n bs p) bs hf).2.2) := by
      unfold gath placesOn
      rw [hL, hRR]
      have : dropPages (fill n R (L.flatMap fun p => placesAt n bs p) bs hf).1 (rk.drop (needed n bs s)) = dropPages (fill n R (L.flatMap fun p => placesAt n bs p) bs hf).1 L := drops_perm fun q' => by
        rw [← hL]
        exact ⟨fun h => mem_rise.mpr ⟨(F.shs q' (List.mem_of_mem_drop h)).1, h⟩, fun h => (mem_rise.mp h).2⟩
      show (dropPages _ _, _, _) = _
      rw [this]
    rw [hg] at q
    walk_at "rd"
    exact q Hi Dm ms Si hmi Pi Mi

omit na in
theorem onS_ms {lk ld : Addr} {ra ba ra' ba' : Nat → Addr} {bs bs' : Bits} {H H' : Hp} (s : MS (OnM ld ra ba bs) H (OnM ld ra' ba' bs') H') : MS (OnS lk ld ra ba bs) H (OnS lk ld ra' ba' bs') H' := MS.or s
omit na in
theorem MW.sm {A : Ad} {H H' : Hp} {r : Addr} {w : Addr → Ow} {pl : Addr} {m n : Int} {xs : List Int} {bs : Bits} {hf : Held} {ld : Addr} {ra ba : Nat → Addr} (h : MW A H r w pl m n xs bs hf ld ra ba) (s : Same H H') : MW A H' r w pl m n xs bs hf ld ra ba := ⟨h.rm.sm s, h.tab.ext s, h.md.sm s⟩
omit na in
theorem MW.ms {A : Ad} {H H' : Hp} {r : Addr} {w : Addr → Ow} {pl : Addr} {m n : Int} {xs : List Int} {bs bs0 bs' : Bits} {hf : Held} {ld : Addr} {ra ba ra' ba' : Nat → Addr} (hr : Rm A H r w pl m n xs bs hf) (ht : LamX.TabS H A.lamP A.lamQ) (hm : MD H w ld ra ba bs0) (s : MS (OnM ld ra ba bs0) H (OnM ld ra' ba' bs') H') (hm' : MD H' w ld ra' ba' bs) : MW A H' r w pl m n xs bs hf ld ra' ba' :=
  ⟨hr.ms s fun b hb => by obtain ⟨_, _, _, e⟩ := hm.plain hb; exact e, tabs_ms s (fun b hb => by obtain ⟨o, e1, e2, _⟩ := hm.plain hb; exact ⟨o, e1, e2⟩) ht, hm'⟩
omit na in
theorem Pairs.ms {H H' : Hp} {S S' : Addr → Prop} {ys : List V} {ts : List (Int × Int)} (h : Pairs w0 H ys ts) (s : MS S H S' H') (hS : ∀ b, S b → ∃ o, H b = some o ∧ plainO o = true) : Pairs w0 H' ys ts := ⟨h.1, fun i y t h1 h2 => by
  obtain ⟨a, e1, e2, e3⟩ := h.2 i y t h1 h2
  refine ⟨a, e1, (s a _ e2 fun z => ?_).1, e3⟩
  obtain ⟨o, e4, e5⟩ := hS a z
  rw [e2] at e4; cases e4; cases e5⟩
omit na in
theorem MD.pl {H : Hp} {w : Addr → Ow} {ld : Addr} {ra ba : Nat → Addr} {bs : Bits} (h : MD H w ld ra ba bs) : ∀ b, OnM ld ra ba bs b → ∃ o, H b = some o ∧ plainO o = true := fun b hb => by
  obtain ⟨o, e1, e2, _⟩ := h.plain hb
  exact ⟨o, e1, e2⟩
theorem wish_turn {r ld t ls lk : Addr} {w : Addr → Ow} {ra ba : Nat → Addr} {bs bs2 : Bits} {m n c mo kk z : Int} {xs : List Int} {v7 v9 v10 v11 v12 v13 : Option V} {H : Hp} {D : Ends} (M : MD H w ld ra ba bs) (hok : Ok m n xs bs) (m1 : 1 ≤ m) (m40 : m ≤ 40) (n60 : n ≤ 60) (wfr : ∀ b, H b = none → w b = .no) (ht : H t = some (.tup [.int m, .int n, .ref ls])) (nt : ¬ OnM ld ra ba bs t) (hls : H ls = some (.lst (xs.map V.int))) (nls : ¬ OnM ld ra ba bs ls)
    (hz : (xs.find? (fun s => decide (1 + mo % n ≤ s)) = none ∧ z = -2 ∧ bs2 = bs) ∨ ∃ s, xs.find? (fun s => decide (1 + mo % n ≤ s)) = some s ∧ ((cands bs s = [] ∧ pageFor bs = none ∧ z = -1 ∧ bs2 = bs) ∨ ∃ p bs1, ForSize n bs s p bs1 ∧ z = (p : Int) * n + (((rowAt bs1 p).idxOf false : Nat) : Int) * s ∧ bs2 = takeAt bs1 p))
    (cont : ∀ H3 ra' ba', MS (OnM ld ra ba bs) H (OnM ld ra' ba' bs2) H3 → MD H3 w ld ra' ba' bs2 → D.nx [some (.ref r), some (.ref ld), some (.ref t), some (.ref lk), some (.int c), some (.int mo), some (.int kk), v7, some (.int z), v9, v10, v11, v12, v13] H3) :
    (tIfS (tOr (tNot (tB (tCall (sp_l_whole A) [] E0 (tCons (tVar 8) tNil)))) (tTest (tOp (rNeA A.K) (tVar 8) (tCall (sp_l_wished A) [] E0 (tCons (tVar 1) (tCons (tVar 2) (tCons (tOp rAddA (tC (.int 1)) (tOp rModI (tVar 5) (tOp (rIxA A.K) (tVar 2) (tC (.int 1))))) tNil)))))))
        (tRet (tC (.bl false)))
        tNext) D [some (.ref r), some (.ref ld), some (.ref t), some (.ref lk), some (.int c), some (.int mo), some (.int kk), v7, some (.int z), v9, v10, v11, v12, v13] H := by
  have hn1 := hok.n1
  walk_at "rd"
  refine wh_I ?_
  walk_at "rd"
  refine r_ixT (n := 1) (toT ht) rfl rfl ?_
  walk_at "rd"
  try refine r_mod (by omega) ?_
  walk_at "rd"
  refine ⟨ld, t, ls, w, ra, ba, bs, m, n, xs, _, rfl, M, hok, m1, m40, n60, wfr, ⟨ht, nt⟩, ⟨hls, nls⟩, fun hn H3 s3 => ?_, fun s hs => ⟨fun h1 h2 H3 s3 => ?_, fun p bs1 fs H3 ra' ba' ms M3 => ?_⟩⟩
  · rcases hz with ⟨_, rfl, rfl⟩ | ⟨s', hs', _⟩
    · walk_at "rd"
      refine r_ifnd (fun hno => absurd rfl hno) (fun _ => ?_)
      refine r_next ?_
      exact cont H3 ra ba (MS.same s3) (M.sm s3)
    · rw [hn] at hs'; cases hs'
  · rcases hz with ⟨hn, _⟩ | ⟨s', hs', hz⟩
    · rw [hs] at hn; cases hn
    rw [hs] at hs'; cases hs'
    rcases hz with ⟨_, _, rfl, rfl⟩ | ⟨p, bs1, fs, _⟩
    · walk_at "rd"
      refine r_ifnd (fun hno => absurd rfl hno) (fun _ => ?_)
      refine r_next ?_
      exact cont H3 ra ba (MS.same s3) (M.sm s3)
    · rcases fs with ⟨f1, _⟩ | ⟨_, f2, _⟩
      · have := f1.1; rw [h1] at this; cases this
      · rw [h2] at f2; cases f2
  · rcases hz with ⟨hn, _⟩ | ⟨s', hs', hz⟩
    · rw [hs] at hn; cases hn
    rw [hs] at hs'; cases hs'
    rcases hz with ⟨h1, h2, _⟩ | ⟨p', bs1', fs', rfl, rfl⟩
    · rcases fs with ⟨f1, _⟩ | ⟨_, f2, _⟩
      · have := f1.1; rw [h1] at this; cases this
      · rw [h2] at f2; cases f2
    · obtain ⟨rfl, rfl⟩ := fs.det fs'
      walk_at "rd"
      refine r_ifnd (fun hno => absurd rfl hno) (fun _ => ?_)
      refine r_next ?_
      exact cont H3 ra' ba' ms M3
theorem pure_l_deed (vs : List V) (H : Hp) (Q : VK) (E : XK) (h : sp_l_deed A vs H Q E) : t_l_deed A E { nx := fun _ H' => Q .non H', rt := Q } (start ["_law_room", "_law_model", "_law_drawn", "_law_kept", "_law_cell", "_law_more", "_law_many", "_law_turn", "_law_found", "_law_places_here", "_law_place", "_law_size", "_law_page", "_law_empty"] vs) H := by
  obtain ⟨r, ld, t, ls, lk, w, pl, m, n, xs, bs, hf, ra, ba, ks, c, rfl, W, hlk, wlk, nlk, kln, ⟨ht, ft⟩, ⟨hls, fls⟩, q⟩ := h
  obtain ⟨dx, ds, dh, hr⟩ := W.rm.ob
  obtain ⟨hok, hcon⟩ := W.rm.ok
  obtain ⟨b1, b2, b3, b4, b5⟩ := W.rm.pb
  have hxl : xs ≠ [] := fun e => by rw [e] at b5; cases b5
  have hxp : 0 < xs.length := List.length_pos_iff.mpr hxl
  have hx8 := okSizes_len b5
  have hlen := hok.wf.len
  unfold t_l_deed
  walk_at "rd"
  refine r_ifd (fun h1 => ?_) (fun h1 => ?_)
  · walk_at "rd"
    refine r_join (fun σ' H' => ∃ k : Nat, σ' = [some (.ref r), some (.ref ld), some (.ref t), some (.ref lk), some (.int c), some (.int (c / 9)), some (.int (k : Int)), none, none, none, none, none, none, none] ∧ H' = H ∧ k ≤ 6) ?_ (fun R main => ?_)
    rotate_left
    · refine r_ifd (fun h2 => ?_) (fun h2 => ?_)
      · walk_at "rd"
        refine main _ _ ⟨(1 + c / 9 / 2 % 6).toNat, ?_, rfl, by omega⟩
        rw [Int.toNat_of_nonneg (by omega)]
        rfl
      · walk_at "rd"
        exact main _ _ ⟨1, rfl, rfl, by decide⟩
    rintro σ' H' ⟨k, rfl, rfl, hk⟩
    walk_at "rd"
    refine ⟨_, rfl, by omega, by omega, for_range (fun i σ H2 => ∃ (v7 v8 : Option V) (w' : Addr → Ow) (bs' : Bits) (hf' : Held) (ra' ba' : Nat → Addr), σ = [some (.ref r), some (.ref ld), some (.ref t), some (.ref lk), some (.int c), some (.int (c / 9)), some (.int (k : Int)), v7, v8, none, none, none, none, none] ∧ SStp (OnS lk ld ra ba bs) w H' (OnS lk ld ra' ba' bs') w' H2 ∧ MW A H2 r w' pl m n xs bs' hf' ld ra' ba' ∧ H2 lk = some (.lst ks) ∧ w' lk = .no ∧ ¬ OnM ld ra' ba' bs' lk) ⟨none, none, w, bs, hf, ra, ba, rfl, SStp.refl, W, hlk, wlk, nlk⟩ ?_ ?_⟩
    · rintro i σ Hi hi ⟨v7, v8, wi, bi, hfi, rai, bai, rfl, si, Wi, hlki, wlki, nlki⟩
      obtain ⟨hti, wti, sti⟩ := si t _ ht ft.1 ft.2 nofun
      obtain ⟨hlsi, wlsi, slsi⟩ := si ls _ hls fls.1 fls.2 nofun
      have h0 := Int.emod_nonneg (c / 9) (by omega : n ≠ 0)
      have hokI := Wi.rm.ok.1
      have nti : ¬ OnM ld rai bai bi t := fun z => sti (.inl z)
      have nlsi : ¬ OnM ld rai bai bi ls := fun z => slsi (.inl z)
      walk_at "rd"
      refine r_ixT (n := 1) (toT hti) rfl rfl ?_
      walk_at "rd"
      try refine r_mod (by omega) ?_
      walk_at "rd"
      refine ⟨r, wi, pl, m, n, xs, bi, hfi, _, rfl, Wi.rm, by omega, fun hno H2 s2 => ?_, fun s hs => ⟨fun g1 g2 H2 s2 => ?_, fun p bs1 H2 w2 fs s2 R2 => ?_⟩⟩
      · refine r_name ?_
        refine r_nx ?_
        refine wish_turn A na (M := Wi.md.sm s2) (hok := hokI) (bs2 := bi) b1 b2 b4 (fun b hb => (Wi.rm.sm s2).free hb) (s2 _ _ hti) nti (s2 _ _ hlsi) nlsi (.inl ⟨hno, rfl, rfl⟩) fun H3 ra' ba' ms M3 => ?_
        have W2 := Wi.sm s2
        exact ⟨_, _, wi, bi, hfi, ra', ba', rfl, SStp.trans si (SStp.trans (SStp.same s2) (onS_ms ms).s), MW.ms W2.rm W2.tab W2.md ms M3, (ms lk _ (s2 _ _ hlki) nlki).1, wlki, (ms lk _ (s2 _ _ hlki) nlki).2⟩
      · refine r_name ?_
        refine r_nx ?_
        refine wish_turn A na (M := Wi.md.sm s2) (hok := hokI) (bs2 := bi) b1 b2 b4 (fun b hb => (Wi.rm.sm s2).free hb) (s2 _ _ hti) nti (s2 _ _ hlsi) nlsi (.inr ⟨s, hs, .inl ⟨g1, g2, rfl, rfl⟩⟩) fun H3 ra' ba' ms M3 => ?_
        have W2 := Wi.sm s2
        exact ⟨_, _, wi, bi, hfi, ra', ba', rfl, SStp.trans si (SStp.trans (SStp.same s2) (onS_ms ms).s), MW.ms W2.rm W2.tab W2.md ms M3, (ms lk _ (s2 _ _ hlki) nlki).1, wlki, (ms lk _ (s2 _ _ hlki) nlki).2⟩
      · obtain ⟨ht2, wt2⟩ := s2.at hti (by rw [wti]; exact ft.1) (.inr ⟨_, rfl⟩)
        obtain ⟨hls2, wls2⟩ := s2.at hlsi (by rw [wlsi]; exact fls.1) (.inl rfl)
        obtain ⟨hlk2, wlk2⟩ := s2.at hlki (by rw [wlki]; rfl) (.inl rfl)
        refine r_name ?_
        refine r_nx ?_
        refine wish_turn A na (M := Wi.md.stp s2) (hok := hokI) (bs2 := takeAt bs1 p) b1 b2 b4 (fun b hb => R2.free hb) ht2 nti hls2 nlsi (.inr ⟨s, hs, .inr ⟨p, bs1, fs, rfl, rfl⟩⟩) fun H3 ra' ba' ms M3 => ?_
        exact ⟨_, _, w2, _, _, ra', ba', rfl, SStp.trans si (SStp.trans s2.s (onS_ms ms).s), MW.ms R2 (s2.tb Wi.tab) (Wi.md.stp s2) ms M3, (ms lk _ hlk2 nlki).1, wlk2.trans wlki, (ms lk _ hlk2 nlki).2⟩
    · rintro σ Hi ⟨v7, v8, wi, bi, hfi, rai, bai, rfl, si, Wi, hlki, wlki, nlki⟩
      walk_at "rd"
      exact q Hi wi bi hfi rai bai ks si Wi hlki wlki nlki (.inl rfl)
  walk_at "rd"
  refine r_ifd (fun h6 => ?_) (fun h6 => ?_)
  · obtain ⟨C, R, _⟩ := W.rm
    walk_at "rd"
    refine r_ixT (n := 1) (toT ht) rfl rfl ?_
    walk_at "rd"
    try refine r_mod (by omega) ?_
    walk_at "rd"
    have h0 := Int.emod_nonneg (c / 9) (by omega : n ≠ 0)
    refine ⟨r, ld, t, ls, w, w, C, ra, ba, pl, m, n, xs, bs, hf, _, rfl, R, W.md, ht, hls, by omega, fun H' s' => ?_⟩
    exact q H' w bs hf ra ba ks (SStp.same s') (W.sm s') (s' _ _ hlk) wlk nlk (.inl rfl)
  walk_at "rd"
  refine r_ifnd (fun h7 => ?_) (fun h7 => ?_)
  · walk_at "rd"
    refine r_ixT (n := 1) (toT ht) rfl rfl ?_
    walk_at "rd"
    refine ⟨ld, w, ra, ba, bs, m, n, xs, rfl, W.md, hok, b2, b4, fun H1 D ys s1 hDn hD P => ?_⟩
    walk_at "rd"
    refine ⟨Nat.zero_le _, fun e he => ?_⟩
    have sE := same_new (o := .lst []) he
    refine r_eqPr (w := w0) (sE _ _ hD) (P.sm sE) upd_same Pairs.nil ?_
    have s2 := s1.trans sE
    have W2 := W.sm s2
    have hD2 := sE _ _ hD
    have P2 := P.sm sE
    have hlk2 := s2 _ _ hlk
    have ht2 := s2 _ _ ht
    generalize upd H1 e (.lst []) = H2 at s2 W2 hD2 P2 hlk2 ht2
    walk_at "rd"
    refine r_ifd (fun hemp => ?_) (fun hne => ?_)
    · walk_at "rd"
      exact q H2 w bs hf ra ba ks (SStp.same s2) W2 hlk2 wlk nlk (.inl rfl)
    have hol : 0 < (thingsOf n bs).length := List.length_pos_iff.mpr hne
    walk_at "rd"
    refine r_lenL (toL hD2) ?_
    rw [P2.1]
    walk_at "rd"
    try refine r_mod (by omega) ?_
    have m1 := Int.emod_nonneg (c / 9) (by omega : ((thingsOf n bs).length : Int) ≠ 0)
    have m2 := Int.emod_lt_of_pos (c / 9) (by omega : 0 < ((thingsOf n bs).length : Int))
    generalize c / 9 % ((thingsOf n bs).length : Int) = ki at m1 m2
    obtain ⟨k, rfl⟩ : ∃ k : Nat, ki = k := ⟨ki.toNat, by omega⟩
    have hko : k < (thingsOf n bs).length := by omega
    have hke := List.getElem?_eq_getElem hko
    have hmem := List.getElem_mem hko
    obtain ⟨a, hya, ha, _⟩ := P2.at hke
    generalize (thingsOf n bs)[k] = u at hmem ha
    obtain ⟨px, pz⟩ := u
    obtain ⟨p, j, hj, hpx, hpz⟩ := mem_things.mp hmem
    obtain ⟨d, hd, hdl⟩ := (hcon px pz).mpr hmem
    have hz1 := (hok.size (sh_at hj)).1
    have hpz1 : 1 ≤ pz := by omega
    obtain ⟨dr2, ds2, dh2, hr2⟩ := W2.rm.ob
    walk_at "rd"
    refine r_ixL (toL hD2) rfl hya ?_
    walk_at "rd"
    refine r_gtup (toT ha) rfl ?_
    walk_at "rd"
    refine r_ifd (fun h8 => ?_) (fun h8 => ?_)
    · walk_at "rd"
      refine r_recv hr2 (rf_no _ _ _ (by decide +kernel) (by decide +kernel) (by decide +kernel)) ?_
      walk_at "rd"
      try refine r_mod (by omega) ?_
      walk_at "rd"
      have n1 := Int.emod_nonneg (c / 9) (by omega : pz ≠ 0)
      have n2 := Int.emod_lt_of_pos (c / 9) (by omega : 0 < pz)
      generalize hst : c / 9 % pz = st at n1 n2
      refine ⟨r, w, pl, m, n, xs, bs, hf, px, st, _, rfl, W2.rm, fun hno => ?_, fun d' hd' => ⟨fun hoob => ?_, fun k' hk' hkl H3 s3 R3 => ?_⟩⟩
      · rw [hd] at hno; cases hno
      · rw [hd] at hd'; cases hd'; exfalso; omega
      rw [hd] at hd'; cases hd'
      obtain ⟨C3, RC3, _⟩ := id R3
      obtain ⟨dr3, hr3, _⟩ := RC3.ob
      walk_at "rd"
      refine r_recv hr3 (rf_no _ _ _ (by decide +kernel) (by decide +kernel) (by decide +kernel)) ?_
      walk_at "rd"
      try refine r_mod (by omega) ?_
      walk_at "rd"
      rw [hst]
      refine ⟨r, w, C3, pl, m, n, xs, bs, _, px, st, rfl, RC3, fun hno => ?_, fun d2 hd2 => ⟨fun hoob => ?_, fun k2 hk2 v hv => ?_⟩⟩
      · rw [if_pos rfl] at hno; cases hno
      · rw [if_pos rfl] at hd2; cases hd2; rw [List.length_set] at hoob; exfalso; omega
      rw [if_pos rfl] at hd2; cases hd2
      obtain rfl : k2 = k' := by omega
      rw [List.getElem?_set_self hkl] at hv; cases hv
      walk_at "rd"
      rw [decide_eq_true rfl]
      obtain ⟨hlk3, wlk3⟩ := s3.at hlk2 (by rw [wlk]; rfl) (.inl rfl)
      exact q H3 w bs _ ra ba ks (SStp.trans (SStp.same s2) s3.s) ⟨R3, s3.tb W2.tab, W2.md.stp s3⟩ hlk3 wlk nlk (.inl rfl)
    · walk_at "rd"
      refine r_ixT (n := 1) (toT ht2) rfl rfl ?_
      walk_at "rd"
      rw [hpx]
      refine ⟨ld, w, ra, ba, bs, m, n, xs, p, j, rfl, W2.md, hok, b2, b4, hj, fun H3 ms M3 => ?_⟩
      have R3 := W2.rm.ms ms fun b hb => by obtain ⟨_, _, _, e⟩ := W2.md.plain hb; exact e
      have T3 := tabs_ms ms W2.md.pl W2.tab
      obtain ⟨dr3, ds3, dh3, hr3⟩ := R3.ob
      have hlk3 := (ms lk _ hlk2 nlk).1
      have nlk3 := (ms lk _ hlk2 nlk).2
      walk_at "rd"
      refine r_recv hr3 (rf_no _ _ _ (by decide +kernel) (by decide +kernel) (by decide +kernel)) ?_
      walk_at "rd"
      rw [hpx] at hd
      refine ⟨r, w, pl, m, n, xs, bs, hf, _, rfl, R3, fun hno => ?_, fun _ p' j' hj' hxe' H4 s4 R4 => ?_⟩
      · rw [hd] at hno; cases hno
      obtain ⟨rfl, rfl⟩ := hok.inj (sh_at hj) (row_lt hj) (sh_at hj') (row_lt hj') hxe'
      walk_at "rd"
      rw [decide_eq_true rfl]
      obtain ⟨hlk4, wlk4⟩ := s4.at hlk3 (by rw [wlk]; rfl) (.inl rfl)
      exact q H4 w _ _ ra ba ks (SStp.trans (SStp.same s2) (SStp.trans (onS_ms ms).s s4.s)) ⟨R4, s4.tb T3, M3.stp s4⟩ hlk4 wlk nlk3 (.inl rfl)
  walk_at "rd"
  refine r_ifd (fun h3 => ?_) (fun h3 => ?_)
  · walk_at "rd"
    refine r_ixT (n := 2) (toT ht) rfl rfl ?_
    walk_at "rd"
    refine r_ixT (n := 2) (toT ht) rfl rfl ?_
    walk_at "rd"
    refine r_lenL (toL hls) ?_
    rw [List.length_map]
    walk_at "rd"
    try refine r_mod (by omega) ?_
    have m1 := Int.emod_nonneg (c / 9 / 3) (by omega : (xs.length : Int) ≠ 0)
    have m2 := Int.emod_lt_of_pos (c / 9 / 3) (by omega : 0 < (xs.length : Int))
    generalize c / 9 / 3 % (xs.length : Int) = ki at m1 m2
    obtain ⟨k, rfl⟩ : ∃ k : Nat, ki = k := ⟨ki.toNat, by omega⟩
    have hkx : k < xs.length := by omega
    walk_at "rd"
    refine r_ixL (toL hls) rfl (int_at (List.getElem?_eq_getElem hkx)) ?_
    have hsx := List.getElem_mem hkx
    generalize xs[k] = s at hsx
    walk_at "rd"
    refine r_recv hr (rf_no _ _ _ (by decide +kernel) (by decide +kernel) (by decide +kernel)) ?_
    walk_at "rd"
    refine ⟨r, w, pl, m, n, xs, bs, hf, .int s, rfl, W.rm, W.tab, rfl, fun hno => absurd hsx (hno s rfl), fun s' es _ rk hrk H1 w1 D ys s1 nwD wD hD hPm R1 => ?_⟩
    cases es
    obtain ⟨hlk1, wlk1⟩ := s1.at hlk (by rw [wlk]; rfl) (.inl rfl)
    obtain ⟨ht1, _⟩ := s1.at ht ft.1 (.inr ⟨_, rfl⟩)
    have wlk1' : w1 lk = .no := wlk1.trans wlk
    have M1 := W.md.stp s1
    have nDlk : D ≠ lk := (nwD.ne hlk (fun ps => nofun)).symm
    have nD : ¬ OnM ld ra ba bs D := fun z => by
      obtain ⟨o, e1, e2, _⟩ := W.md.plain z
      obtain ⟨ps, e3⟩ := nwD o e1
      rw [e3] at e2; cases e2
    walk_at "rd"
    refine ⟨ty_list (toL hlk1), ?_⟩
    walk_at "rd"
    refine r_listL (toL hD) fun L hL => ?_
    have sL := same_new (o := .lst ys) hL
    have hLv := upd_same (H := H1) (a := L) (o := .lst ys)
    have nL : ¬ OnM ld ra ba bs L := fun z => by
      obtain ⟨o, e1, _, _⟩ := M1.plain z
      rw [hL] at e1; cases e1
    have nLlk : L ≠ lk := fun z => by rw [z, hlk1] at hL; cases hL
    have wL : w1 L = .no := R1.free hL
    generalize upd H1 L (.lst ys) = H2 at sL hLv
    walk_at "rd"
    refine ⟨by show 2 ≤ sizeLine; decide, fun e he => ?_⟩
    have sE := same_new (o := .tup [.ref D, .ref L]) he
    have hev := upd_same (H := H2) (a := e) (o := .tup [.ref D, .ref L])
    have nE : ¬ OnM ld ra ba bs e := fun z => by
      obtain ⟨o, e1, _, _⟩ := (M1.sm sL).plain z
      rw [he] at e1; cases e1
    have nElk : e ≠ lk := fun z => by rw [z, sL _ _ hlk1] at he; cases he
    have s2 := sL.trans sE
    have hLv3 := sE _ _ hLv
    generalize upd H2 e (.tup [.ref D, .ref L]) = H3 at sE s2 hev hLv3
    walk_at "rd"
    refine r_append (s2 _ _ hlk1) (Nat.lt_of_le_of_lt kln (by decide)) ?_
    have M3 : MD (upd H3 lk (.lst (ks ++ [.ref e]))) w1 ld ra ba bs := (M1.sm s2).keep (fun b hb => by obtain ⟨_, _, _, e⟩ := M1.plain hb; exact e) fun b o hb e _ => (upd_ne (fun z => nlk (by rw [← z]; exact hb))).trans e
    have R3 := (R1.sm s2).chg (o := .lst (ks ++ [.ref e])) wlk1'
    have T3 := tabs_upd (o := .lst (ks ++ [.ref e])) ((s1.tb W.tab).ext s2) (s2 _ _ hlk1)
    have P3 := (hPm.z.sm s2).upd (xs := ks ++ [.ref e]) (s2 _ _ hlk1)
    have hD3 := (upd_ne (o := .lst (ks ++ [.ref e])) nDlk).trans (s2 _ _ hD)
    have hL3 := (upd_ne (o := .lst (ks ++ [.ref e])) nLlk).trans hLv3
    have hE3 := (upd_ne (o := .lst (ks ++ [.ref e])) nElk).trans hev
    have ht3 : upd H3 lk (.lst (ks ++ [.ref e])) t = some (.tup [.int m, .int n, .ref ls]) := (upd_ne (fun z => ft.2 (.inr z))).trans (s2 _ _ ht1)
    have hlk3 := upd_same (H := H3) (a := lk) (o := .lst (ks ++ [.ref e]))
    have S3 : SStp (OnS lk ld ra ba bs) w H (OnS lk ld ra ba bs) w1 (upd H3 lk (.lst (ks ++ [.ref e]))) := SStp.trans s1.s (SStp.trans (SStp.same s2) fun b u h _ hn _ => ⟨(upd_ne (fun z => hn (.inr z))).trans h, rfl, hn⟩)
    generalize upd H3 lk (.lst (ks ++ [.ref e])) = H4 at M3 R3 T3 P3 hD3 hL3 hE3 ht3 hlk3 S3
    walk_at "rd"
    refine r_ixT (n := 1) (toT ht3) rfl rfl ?_
    walk_at "rd"
    refine ⟨ld, w1, ra, ba, bs, m, n, xs, hf, s, rk, rfl, M3, hok, hcon, b2, b4, hsx, hrk, fun H5 D2 ys2 ms hD2 P2 M5 => ?_⟩
    have P5 := P3.ms ms M3.pl
    obtain ⟨hD5, nD5⟩ := ms D _ hD3 nD
    obtain ⟨hL5, nL5⟩ := ms L _ hL3 nL
    obtain ⟨hE5, _⟩ := ms e _ hE3 nE
    obtain ⟨hlk5, nlk5⟩ := ms lk _ hlk3 nlk
    refine r_eqPr (w := w0) hD5 P5 hD2 P2 ?_
    rw [decide_eq_true rfl]
    refine q H5 w1 _ _ ra ba (ks ++ [.ref e]) (SStp.trans S3 (onS_ms ms).s) (MW.ms R3 T3 M3 ms M5) hlk5 wlk1' nlk5 (.inr ⟨.ref e, rfl, e, D, L, _, rfl, hE5, .inl ⟨ys, _, hD5, P5, rfl⟩, .inl ⟨ys, _, hL5, P5, rfl⟩, ⟨fun o h hp _ _ => ?_, by rw [wD]; rfl, fun z => z.elim nD5 nDlk⟩, ⟨fun o h hp ho hs => ?_, by rw [wL]; rfl, fun z => z.elim nL5 nLlk⟩⟩)
    · obtain ⟨ps, e3⟩ := nwD o h
      rw [e3] at hp; cases hp
    · have := (s1.fr L o h ho (plain_tbl hp)).1
      rw [hL] at this; cases this
  · obtain ⟨kv, ks0, hkv, hks, hkp⟩ := W.md.keys
    walk_at "rd"
    refine r_sortD hkv hks fun ys p0 hperm hsrt hp0 => ?_
    obtain rfl := sorted_pages hperm hsrt hkp
    have sP := same_new (o := .lst (((pagesOf bs).map fun p : Nat => (p : Int)).map V.int)) hp0
    have hpl := upd_same (H := H) (a := p0) (o := .lst (((pagesOf bs).map fun p : Nat => (p : Int)).map V.int))
    generalize upd H p0 (.lst (((pagesOf bs).map fun p : Nat => (p : Int)).map V.int)) = H1 at sP hpl
    have M1 := W.md.sm sP
    obtain ⟨kv1, hkv1, hv1, _⟩ := M1.get
    have hpg : (pagesOf bs).length ≤ 40 := pages_few (by omega)
    refine ⟨p0, rfl, ⟨_, toL hpl⟩, fun D hD => lc_fm (xs := ((pagesOf bs).map fun p : Nat => (p : Int)).map V.int) (selF fun p => decide (outAt bs p = 0)) hD (toL hpl) (Nat.le_trans (m := 40) (by rw [List.length_map, List.length_map]; exact hpg) (by decide)) (fun i x H5 Ny Nn hx sx hy hno => ?_) fun H2 s2 hH2 => ?_⟩
    · obtain ⟨p, hpi, rfl⟩ := pg_at hx
      have hsp := mem_pages.mp (List.mem_of_getElem? hpi)
      obtain ⟨r1, _, r3, _⟩ := M1.rw p hsp
      walk_at "rd"
      refine ⟨rfl, ?_⟩
      walk_at "rd"
      refine r_dgetI (sx _ _ hkv1) (hv1 p hsp) ?_
      walk_at "rd"
      refine r_ixL (n := 1) (toL (sx _ _ r1)) rfl rfl ?_
      refine r_ninB (toL (sx _ _ r3)) ?_
      walk_at "rd"
      refine r_ifnd (fun g1 => ?_) (fun g1 => ?_)
      · have h0 : outAt bs p = 0 := by unfold outAt; exact List.count_eq_zero.mpr g1
        walk_at "rd"
        exact hy _ _ (Same.refl _) ((selF_at _ p).trans (if_pos (decide_eq_true h0)))
      · have h0 : outAt bs p ≠ 0 := fun z => by unfold outAt at z; exact List.count_eq_zero.mp z g1
        exact hno _ (Same.refl _) ((selF_at _ p).trans (if_neg (by rw [decide_eq_false h0]; exact Bool.false_ne_true)))
    have eu : (((pagesOf bs).map fun p : Nat => (p : Int)).map V.int).filterMap (selF fun p => decide (outAt bs p = 0)) = ((unused bs).map fun p : Nat => (p : Int)).map V.int := fm_sel _ _
    rw [eu] at hH2
    have s12 := sP.trans s2
    have hDld : D ≠ ld := fun z => by rw [z, hkv1] at hD; cases hD
    walk_at "rd"
    refine ⟨D, rfl, ⟨_, toL hH2⟩, for_list (K := A.K) (a := D) (xs := ((unused bs).map fun p : Nat => (p : Int)).map V.int) (fun i σ H' => ∃ v12 : Option V, σ = [some (.ref r), some (.ref ld), some (.ref t), some (.ref lk), some (.int c), some (.int (c / 9)), none, none, none, none, none, none, v12, some (.ref D)] ∧ MS (OnM ld ra ba bs) H (OnM ld ra ba (dropPages bs ((unused bs).take i))) H' ∧ MD H' w ld ra ba (dropPages bs ((unused bs).take i)) ∧ H' D = some (.lst (((unused bs).map fun p : Nat => (p : Int)).map V.int)))
      ⟨_, rfl, MS.same s12, W.md.sm s12, hH2⟩ (fun i σ H' _ ⟨_, _, _, _, e⟩ => toL e) ?_ ?_⟩
    · rintro i x σ Hi hx ⟨v12, rfl, Si, Mi, hDi⟩
      obtain ⟨p, hpi, rfl⟩ := pg_at hx
      have hpt : p ∉ (unused bs).take i := fun z => by
        have hnd : (unused bs).Nodup := (pages_nd bs).filter _
        rw [← List.take_append_drop i (unused bs), drop_cons hpi, List.nodup_append] at hnd
        exact hnd.2.2 p z p List.mem_cons_self rfl
      have hsp : isSh (dropPages bs ((unused bs).take i)) p = true := drops_sh.mpr ⟨hpt, (mem_unused.mp (List.mem_of_getElem? hpi)).1⟩
      obtain ⟨kv5, hkv5, hval5, M5⟩ := Mi.pop hsp
      walk_at "rd"
      refine ⟨ld, rfl, .inl ⟨kv5, .inl hkv5⟩, ?_⟩
      walk_at "rd"
      refine ⟨kv5, .inl (p : Int), _, hkv5, rfl, hval5, ?_⟩
      walk_at "rd"
      have ms5 : MS (OnM ld ra ba (dropPages bs ((unused bs).take i))) Hi (OnM ld ra ba ((dropPages bs ((unused bs).take i)).set p none)) (upd Hi ld (.dK (dropK kv5 (.inl (p : Int))))) := MS.upd (.inl rfl) fun b _ _ h => onM_drop h
      rw [← drops_snoc, ← drop_snoc hpi] at M5 ms5
      exact ⟨_, rfl, MS.trans Si ms5, M5, (upd_ne hDld).trans hDi⟩
    · rintro σ Hi ⟨v12, rfl, Si, Mi, hDi⟩
      rw [List.length_map, List.length_map, List.take_length] at Si Mi
      have R3 := W.rm.ms Si fun b hb => by obtain ⟨_, _, _, e⟩ := W.md.plain hb; exact e
      have T3 := tabs_ms Si W.md.pl W.tab
      obtain ⟨dr3, ds3, dh3, hr3⟩ := R3.ob
      obtain ⟨hlk3, nlk3⟩ := Si lk _ hlk nlk
      have wD : w D = .no := W.rm.free (none_same sP hD)
      walk_at "rd"
      refine r_recv hr3 (rf_no _ _ _ (by decide +kernel) (by decide +kernel) (by decide +kernel)) ?_
      walk_at "rd"
      refine ⟨r, w, pl, m, n, xs, bs, hf, rfl, R3, fun H5 s5 R5 => ?_⟩
      obtain ⟨hlk5, _⟩ := s5.at hlk3 (by rw [wlk]; rfl) (.inl rfl)
      obtain ⟨hD5, _⟩ := s5.at hDi (by rw [wD]; rfl) (.inl rfl)
      walk_at "rd"
      refine wh_I ?_
      walk_at "rd"
      refine r_lenL (toL hD5) ?_
      rw [List.length_map, List.length_map]
      walk_at "rd"
      rw [decide_eq_true rfl]
      exact q H5 w _ _ ra ba ks (SStp.trans (onS_ms Si).s s5.s) ⟨R5, s5.tb T3, Mi.stp s5⟩ hlk5 wlk nlk3 (.inl rfl)

omit na in
theorem shaped_int1 (ns : List Int) : SeqAt.shaped (.list (ns.map PyData.int)) = true := shapedL (f := PyData.int) (fun _ => by simp only [PyData.canLay0]) (fun _ => by simp only [PyData.depth]; omega) ns
omit na in
theorem told_dp {K : PySem.W.Frag} {H : Hp} {f : Addr} {d : List PyData} (h : Told H f d) : Dp K H (.ref f) (.list d) := by
  rcases h with ⟨ys, ts, h1, h2, rfl⟩ | ⟨ys, ts, h1, h2, rfl⟩ | ⟨ns, h1, rfl⟩
  · exact dp_pairs h1 h2
  · exact dp_trips h1 h2
  · exact dp_ints (toL h1)
omit na in
theorem told_sh {H : Hp} {f : Addr} {d : List PyData} (h : Told H f d) : SeqAt.shaped (.list d) = true := by
  rcases h with ⟨ys, ts, h1, h2, rfl⟩ | ⟨ys, ts, h1, h2, rfl⟩ | ⟨ns, h1, rfl⟩
  · exact shapedL lay2 depth2 ts
  · exact shapedL lay3 depth3 ts
  · exact shaped_int1 ns
omit na in
theorem told_eqv {H : Hp} {f : Addr} {d : List PyData} (h : Told H f d) : PyData.eqv (.list d) (.list d) = true := by
  rcases h with ⟨ys, ts, h1, h2, rfl⟩ | ⟨ys, ts, h1, h2, rfl⟩ | ⟨ns, h1, rfl⟩
  · exact (eqv_pairs ts ts).trans (decide_eq_true rfl)
  · exact (eqv_trips ts ts).trans (decide_eq_true rfl)
  · exact (eqv_ints ns ns).trans (decide_eq_true rfl)
omit na in
theorem told_ne {K : PySem.W.Frag} {H : Hp} {Q : VK} {f c : Addr} {d : List PyData} (h : Told H f d) (g : Told H c d) (q : Q (.bl false) H) : rNeA K (.ref f) (.ref c) H Q :=
  .inr ⟨.list d, .list d, told_dp h, told_dp g, told_sh h, told_sh h, by rw [told_eqv h]; exact q⟩
omit na in
theorem told_mv {H H' : Hp} {f lk : Addr} {d : List PyData} {ks : List V} (h : Told H f d) (k : ∀ b o, H b = some o → b ≠ lk → H' b = some o) (hlk : H lk = some (.lst ks)) (nf : f ≠ lk) : Told H' f d := by
  rcases h with ⟨ys, ts, h1, h2, rfl⟩ | ⟨ys, ts, h1, h2, rfl⟩ | ⟨ns, h1, rfl⟩
  · refine .inl ⟨ys, ts, k _ _ h1 nf, ⟨h2.1, fun i y t g1 g2 => ?_⟩, rfl⟩
    obtain ⟨a, e1, e2, e3⟩ := h2.2 i y t g1 g2
    exact ⟨a, e1, k _ _ e2 (ne_of e2 hlk (by intro z; cases z)), e3⟩
  · refine .inr (.inl ⟨ys, ts, k _ _ h1 nf, ⟨h2.1, fun i y t g1 g2 => ?_⟩, rfl⟩)
    obtain ⟨a, e1, e2, e3⟩ := h2.2 i y t g1 g2
    exact ⟨a, e1, k _ _ e2 (ne_of e2 hlk (by intro z; cases z)), e3⟩
  · exact .inr (.inr ⟨ns, k _ _ h1 nf, rfl⟩)
omit na in
theorem told_sm {H H' : Hp} {f : Addr} {d : List PyData} (h : Told H f d) (s : Same H H') : Told H' f d := by
  rcases h with ⟨ys, ts, h1, h2, rfl⟩ | ⟨ys, ts, h1, h2, rfl⟩ | ⟨ns, h1, rfl⟩
  · exact .inl ⟨ys, ts, s _ _ h1, h2.sm s, rfl⟩
  · exact .inr (.inl ⟨ys, ts, s _ _ h1, h2.sm s, rfl⟩)
  · exact .inr (.inr ⟨ns, s _ _ h1, rfl⟩)
omit na in
theorem told_cp {H H' : Hp} {f c : Addr} {d : List PyData} {xs : List V} (h : Told H f d) (hf : H f = some (.lst xs)) (s : Same H H') (hc : H' c = some (.lst xs)) : Told H' c d := by
  rcases h with ⟨ys, ts, h1, h2, rfl⟩ | ⟨ys, ts, h1, h2, rfl⟩ | ⟨ns, h1, rfl⟩
  · rw [hf] at h1; cases h1; exact .inl ⟨_, ts, hc, h2.sm s, rfl⟩
  · rw [hf] at h1; cases h1; exact .inr (.inl ⟨_, ts, hc, h2.sm s, rfl⟩)
  · rw [hf] at h1; cases h1; exact .inr (.inr ⟨ns, hc, rfl⟩)
omit na in
theorem told_l {H : Hp} {f : Addr} {d : List PyData} (h : Told H f d) : ∃ xs, H f = some (.lst xs) ∧ xs.length = d.length := by
  rcases h with ⟨ys, ts, h1, h2, rfl⟩ | ⟨ys, ts, h1, h2, rfl⟩ | ⟨ns, h1, rfl⟩
  · exact ⟨ys, h1, by rw [h2.1, List.length_map]⟩
  · exact ⟨ys, h1, by rw [h2.1, List.length_map]⟩
  · exact ⟨_, h1, by rw [List.length_map, List.length_map]⟩
omit na in
theorem entry_mv {Fr : Addr → Prop} {H H' : Hp} {v : V} {lk : Addr} {ks : List V} (h : Entry Fr H v) (k : ∀ b o, H b = some o → b ≠ lk → H' b = some o) (hlk : H lk = some (.lst ks)) (nf : ∀ f, Fr f → f ≠ lk) : Entry Fr H' v := by
  obtain ⟨e, f, c, d, rfl, h1, t1, t2, f1, f2⟩ := h
  exact ⟨e, f, c, d, rfl, k _ _ h1 (ne_of h1 hlk (by intro z; cases z)), told_mv t1 k hlk (nf _ f1), told_mv t2 k hlk (nf _ f2), f1, f2⟩
omit na in
theorem shaped_three (ts : List (Int × Int × Int)) (ns : List Int) (us : List (Int × Int)) : SeqAt.shaped (.list [.list (ts.map pd3), .list (ns.map PyData.int), .list (us.map pd2)]) = true := by
  have h1 := depth_all depth3 ts
  have h2 := depth_ints ns
  have h3 := depth_all depth2 us
  unfold SeqAt.shaped
  simp only [PyData.canLay0, PyData.canLayAll0, PyData.depth, PyData.depthAll, lay_all lay3 ts, lay_ints, lay_all lay2 us, Bool.true_and, Bool.and_true]
  exact decide_eq_true (by omega)
omit na in
theorem eqv_three (ts : List (Int × Int × Int)) (ns : List Int) (us : List (Int × Int)) : PyData.eqv (.list [.list (ts.map pd3), .list (ns.map PyData.int), .list (us.map pd2)]) (.list [.list (ts.map pd3), .list (ns.map PyData.int), .list (us.map pd2)]) = true := by
  have h1 := eqv_trips ts ts
  have h2 := eqv_ints ns ns
  have h3 := eqv_pairs us us
  rw [decide_eq_true rfl] at h1 h2 h3
  simp only [PyData.eqv] at h1 h2 h3
  simp only [PyData.eqv, PyData.eqvAll, Bool.and_true, h1, h2, h3]
theorem pure_l_stands (vs : List V) (H : Hp) (Q : VK) (E : XK) (h : sp_l_stands A vs H Q E) : t_l_stands A E { nx := fun _ H' => Q .non H', rt := Q } (start ["_law_room", "_law_model", "_law_drawn", "_law_kept", "_law_one", "_law_copy", "_law_shelves", "_law_pile", "_law_found", "_law_page"] vs) H := by
  obtain ⟨r, ld, t, ls, lk, w, pl, m, n, xs, bs, hf, ra, ba, ks, rfl, W, hlk, wlk, nlk, kln, ht, hen, q⟩ := h
  obtain ⟨hok, hcon⟩ := W.rm.ok
  obtain ⟨b1, b2, b3, b4, b5⟩ := W.rm.pb
  have hlen := hok.wf.len
  unfold t_l_stands
  walk_at "rd"
  refine ⟨lk, rfl, ⟨_, toL hlk⟩, for_list (K := A.K) (a := lk) (xs := ks) (fun i σ H' => ∃ v4 v5 : Option V, σ = [some (.ref r), some (.ref ld), some (.ref t), some (.ref lk), v4, v5, none, none, none, none] ∧ H' = H) ⟨none, none, rfl, rfl⟩ (fun i σ H' _ ⟨_, _, _, e⟩ => by rw [e]; exact toL hlk) ?_ ?_⟩
  · rintro i x σ Hi hx ⟨v4, v5, rfl, rfl⟩
    obtain ⟨e, f, c, d, rfl, he, tf, tc, _, _⟩ := hen x (List.mem_of_getElem? hx)
    walk_at "rd"
    refine r_gtup (toT he) rfl ?_
    walk_at "rd"
    refine told_ne tf tc ?_
    walk_at "rd"
    exact ⟨_, _, rfl, rfl⟩
  rintro σ Hi ⟨v4, v5, rfl, rfl⟩
  obtain ⟨kv, ks0, hkv, hks, hkp⟩ := W.md.keys
  walk_at "rd"
  refine r_sortD hkv hks fun ys p0 hperm hsrt hp0 => ?_
  obtain rfl := sorted_pages hperm hsrt hkp
  have sP := same_new (o := .lst (((pagesOf bs).map fun p : Nat => (p : Int)).map V.int)) hp0
  have hpl := upd_same (H := Hi) (a := p0) (o := .lst (((pagesOf bs).map fun p : Nat => (p : Int)).map V.int))
  generalize upd Hi p0 (.lst (((pagesOf bs).map fun p : Nat => (p : Int)).map V.int)) = H1 at sP hpl
  have M1 := W.md.sm sP
  obtain ⟨kv1, hkv1, hv1, _⟩ := M1.get
  have hpg : (pagesOf bs).length ≤ 40 := pages_few (by omega)
  refine ⟨p0, rfl, ⟨_, toL hpl⟩, fun D1 hD1 => lc_rel (xs := ((pagesOf bs).map fun p : Nat => (p : Int)).map V.int) (fun x y H' => ∃ t, y = .ref t ∧ ∃ p : Nat, x = .int (p : Int) ∧ H' t = some (.tup [.int (p : Int), .int (szAt bs p), .int ((outAt bs p : Nat) : Int)])) (fun x y Ha Hb ⟨t, e1, p, e2, e3⟩ sab => ⟨t, e1, p, e2, sab _ _ e3⟩) (fun x y Ha acc ys ⟨t, e1, p, e2, e3⟩ hd => ⟨t, e1, p, e2, (upd_ne (ne_of e3 hd (by intro z; cases z))).trans e3⟩) hD1 (toL hpl) (Nat.le_trans (m := 40) (by rw [List.length_map, List.length_map]; exact hpg) (by decide)) (fun i x H5 Ny hx sx hy => ?_) fun H2 ys1 s2 hH2 hyl hR => ?_⟩
  · obtain ⟨p, hpi, rfl⟩ := pg_at hx
    have hsp := mem_pages.mp (List.mem_of_getElem? hpi)
    obtain ⟨r1, _, r3, _⟩ := M1.rw p hsp
    walk_at "rd"
    refine ⟨rfl, ?_⟩
    walk_at "rd"
    refine r_dgetI (sx _ _ hkv1) (hv1 p hsp) ?_
    walk_at "rd"
    refine r_ixL (n := 0) (toL (sx _ _ r1)) rfl rfl ?_
    walk_at "rd"
    refine r_dgetI (sx _ _ hkv1) (hv1 p hsp) ?_
    walk_at "rd"
    refine r_ixL (n := 1) (toL (sx _ _ r1)) rfl rfl ?_
    refine ⟨ty_list (toL (sx _ _ r3)), ?_⟩
    walk_at "rd"
    refine r_cntB (toL (sx _ _ r3)) ?_
    walk_at "rd"
    refine ⟨by show 3 ≤ sizeLine; decide, fun t ht => ?_⟩
    exact hy _ _ (same_new ht) ⟨t, rfl, p, rfl, upd_same⟩
  have T1 : Told H2 D1 ((shelvesOf bs).map pd3) := by
    refine .inr (.inl ⟨ys1, _, hH2, ⟨by unfold shelvesOf; rw [hyl, List.length_map, List.length_map, List.length_map], fun i y t h1 h2 => ?_⟩, rfl⟩)
    unfold shelvesOf at h2
    rw [List.getElem?_map] at h2
    cases e : (pagesOf bs)[i]? with
    | none => rw [e] at h2; cases h2
    | some p =>
      rw [e] at h2; cases h2
      obtain ⟨t, e1, p', e2, e3⟩ := hR i (.int (p : Int)) y (by rw [List.getElem?_map, List.getElem?_map, e]; rfl) h1
      have : p = p' := by have := V.int.inj e2; omega
      subst this
      exact ⟨t, e1, e3, rfl⟩
  have s12 := sP.trans s2
  have M2 := W.md.sm s12
  obtain ⟨kv2, hkv2, hv2, hvn2⟩ := M2.get
  have ht2 := s12 _ _ ht
  walk_at "rd"
  refine r_ixT (n := 0) (toT ht2) rfl rfl ?_
  walk_at "rd"
  refine ⟨m, rfl, by omega, by omega, fun D2 hD2 => lc_fmR (lo := 0) (n := m.toNat) (fun i => if isSh bs i = true then none else some (.int (i : Int))) hD2 (Nat.le_trans (m := 40) (by omega) (by decide)) (fun i H3 Ny Nn hi sx hy hno => ?_) fun H3 s3 hH3 => ?_⟩
  · walk_at "rd"
    refine ⟨rfl, ?_⟩
    walk_at "rd"
    rw [show (0 : Int) + (i : Int) = (i : Int) by omega]
    refine r_dinI (sx _ _ hkv2) ?_
    by_cases e : isSh bs i = true
    · rw [hv2 i e]
      simp only [Option.isSome_some, Bool.not_true]
      walk_at "rd"
      exact hno _ (Same.refl _) (if_pos e)
    · rw [hvn2 i (sh_false e)]
      simp only [Option.isSome_none, Bool.not_false]
      walk_at "rd"
      exact hy _ _ (Same.refl _) (if_neg e)
  have ebare : (List.range m.toNat).filterMap (fun i => if isSh bs i = true then none else some (V.int (i : Int))) = ((pileOf bs).map fun p : Nat => (p : Int)).map V.int := by
    unfold pileOf
    rw [hlen, List.map_map]
    generalize List.range m.toNat = l
    induction l with
    | nil => rfl
    | cons p l ih =>
      rw [List.filterMap_cons, List.filter_cons]
      by_cases e : isSh bs p = true
      · rw [if_pos e, e]; exact ih
      · rw [if_neg e, sh_false e]
        show _ :: _ = _
        rw [ih]; rfl
  rw [ebare] at hH3
  have T2 : Told H3 D2 (((pileOf bs).map fun p : Nat => (p : Int)).map PyData.int) := .inr (.inr ⟨_, hH3, rfl⟩)
  have T13 := told_sm T1 s3
  have s13 := s12.trans s3
  have nD1 : Hi D1 = none := none_same sP hD1
  have nD2 : Hi D2 = none := none_same s12 hD2
  obtain ⟨C, R, hcn⟩ := W.rm.sm s13
  obtain ⟨dr3, hr3, _⟩ := R.ob
  have plen : (pileOf bs).length ≤ 40 := by
    unfold pileOf
    exact Nat.le_trans (List.length_filter_le _ _) (by rw [List.length_range]; omega)
  clear hR hyl hkv1 hv1 hkv2 hv2 hvn2 hpl M1 M2 ebare
  walk_at "rd"
  refine r_recv hr3 (rf_no _ _ _ (by decide +kernel) (by decide +kernel) (by decide +kernel)) ?_
  walk_at "rd"
  refine ⟨r, w, C, pl, m, n, xs, bs, hf, rfl, R, fun H4 F1 zs1 s4 hF1 hF1v TF1 => ?_⟩
  walk_at "rd"
  refine r_recv (s4 _ _ hr3) (rf_no _ _ _ (by decide +kernel) (by decide +kernel) (by decide +kernel)) ?_
  walk_at "rd"
  refine ⟨r, w, C, pl, m, n, xs, bs, hf, rfl, R.sm s4, fun H5 F2 s5 hF2 hF2v => ?_⟩
  walk_at "rd"
  refine r_recv ((s4.trans s5) _ _ hr3) (rf_no _ _ _ (by decide +kernel) (by decide +kernel) (by decide +kernel)) ?_
  walk_at "rd"
  refine ⟨r, w, C, pl, m, n, xs, bs, hf, rfl, R.sm (s4.trans s5), hcn, fun H6 F3 zs3 s6 hF3 hF3v PF3 => ?_⟩
  walk_at "rd"
  refine ⟨by show 3 ≤ sizeLine; decide, fun fl hfl => ?_⟩
  have sF := same_new (o := .lst [.ref F1, .ref F2, .ref F3]) hfl
  have hflv := upd_same (H := H6) (a := fl) (o := .lst [.ref F1, .ref F2, .ref F3])
  have U1 : Told (upd H6 fl (.lst [.ref F1, .ref F2, .ref F3])) F1 ((shelvesOf bs).map pd3) := told_sm (.inr (.inl ⟨_, _, hF1v, TF1.z, rfl⟩)) (s5.trans (s6.trans sF))
  have U2 : Told (upd H6 fl (.lst [.ref F1, .ref F2, .ref F3])) F2 (((pileOf bs).map fun p : Nat => (p : Int)).map PyData.int) := told_sm (.inr (.inr ⟨_, by rw [hF2v, pgs_ints], rfl⟩)) (s6.trans sF)
  have U3 : Told (upd H6 fl (.lst [.ref F1, .ref F2, .ref F3])) F3 ((thingsOf n bs).map pd2) := told_sm (.inl ⟨_, _, hF3v, PF3.z, rfl⟩) sF
  have s37 := s4.trans (s5.trans (s6.trans sF))
  have V1 := told_sm T13 s37
  have V2 := told_sm T2 s37
  have nF1 : Hi F1 = none := none_same s13 hF1
  have nF2 : Hi F2 = none := none_same (s13.trans s4) hF2
  have nF3 : Hi F3 = none := none_same (s13.trans (s4.trans s5)) hF3
  have nfl : Hi fl = none := none_same (s13.trans (s4.trans (s5.trans s6))) hfl
  have s17 := s13.trans s37
  generalize upd H6 fl (.lst [.ref F1, .ref F2, .ref F3]) = H7 at hflv U1 U2 U3 V1 V2 s17
  clear s37 sF TF1 PF3 hF1v hF2v hF3v R T1 T2 T13
  have nn : ∀ {b : Addr}, Hi b = none → b ≠ lk := fun {b} hb z => by rw [z, hlk] at hb; cases hb
  have hlk7 := s17 _ _ hlk
  walk_at "rd"
  refine ⟨ty_list (toL hlk7), ?_⟩
  refine ⟨lk, ks, rfl, rfl, hlk7, ?_⟩
  walk_at "rd"
  have key : ∀ b o, H7 b = some o → b ≠ lk → upd H7 lk (.lst []) b = some o := fun b o h hn => (upd_ne hn).trans h
  have hlk8 := upd_same (H := H7) (a := lk) (o := .lst [])
  generalize upd H7 lk (.lst []) = H8 at key hlk8
  refine ⟨fl, rfl, ⟨_, toL (key _ _ hflv (nn nfl))⟩, for_list (K := A.K) (a := fl) (xs := [.ref F1, .ref F2, .ref F3]) (fun i σ H' => ∃ (v4 : Option V) (ks' : List V), σ = [some (.ref r), some (.ref ld), some (.ref t), some (.ref lk), v4, v5, some (.ref D1), some (.ref D2), some (.ref fl), none] ∧ (∀ b o, H7 b = some o → b ≠ lk → H' b = some o) ∧ H' lk = some (.lst ks') ∧ ks'.length ≤ i ∧ ∀ v ∈ ks', Entry (fun f => Hi f = none) H' v)
    ⟨_, [], rfl, key, hlk8, Nat.le_refl _, fun v hv => by cases hv⟩ (fun i σ H' _ ⟨_, _, _, k, _⟩ => toL (k _ _ hflv (nn nfl))) ?_ ?_⟩
  · rintro i x σ Hj hx ⟨v4, ks', rfl, kj, hlkj, hln, hej⟩
    have hi3 : i < 3 := (List.getElem?_eq_some_iff.mp hx).1
    obtain ⟨f, d, rfl, nf, tf⟩ : ∃ f d, x = .ref f ∧ Hi f = none ∧ Told H7 f d := by
      rcases i with _ | _ | _ | i
      · cases hx; exact ⟨_, _, rfl, nF1, U1⟩
      · cases hx; exact ⟨_, _, rfl, nF2, U2⟩
      · cases hx; exact ⟨_, _, rfl, nF3, U3⟩
      · omega
    have tj := told_mv tf kj hlk7 (nn nf)
    obtain ⟨zs, hfz, _⟩ := told_l tj
    walk_at "rd"
    refine ⟨ty_list (toL hlkj), ?_⟩
    walk_at "rd"
    refine r_listL (toL hfz) fun L hL => ?_
    have sL := same_new (o := .lst zs) hL
    have hLv := upd_same (H := Hj) (a := L) (o := .lst zs)
    have nL7 : H7 L = none := by
      cases e : H7 L with
      | none => rfl
      | some o =>
        have nLk : L ≠ lk := fun z => by rw [z, hlkj] at hL; cases hL
        rw [kj _ _ e nLk] at hL; cases hL
    have nL : Hi L = none := none_same s17 nL7
    generalize upd Hj L (.lst zs) = Hk at sL hLv
    walk_at "rd"
    refine ⟨by show 2 ≤ sizeLine; decide, fun e he => ?_⟩
    have sE := same_new (o := .tup [.ref f, .ref L]) he
    have hev := upd_same (H := Hk) (a := e) (o := .tup [.ref f, .ref L])
    generalize upd Hk e (.tup [.ref f, .ref L]) = Hl at sE hev
    have sJ := sL.trans sE
    walk_at "rd"
    refine r_append (sJ _ _ hlkj) (Nat.lt_of_le_of_lt (m := 3) (by omega) (by decide)) ?_
    walk_at "rd"
    have k9 : ∀ b o, Hl b = some o → b ≠ lk → upd Hl lk (.lst (ks' ++ [.ref e])) b = some o := fun b o h hn => (upd_ne hn).trans h
    have hlk9 := upd_same (H := Hl) (a := lk) (o := .lst (ks' ++ [.ref e]))
    refine ⟨_, _, rfl, fun b o h hn => k9 _ _ (sJ _ _ (kj b o h hn)) hn, hlk9, by rw [List.length_append, List.length_singleton]; omega, fun v hv => ?_⟩
    have key9 : Entry (fun f => Hi f = none) Hl v := by
      rcases List.mem_append.mp hv with hv | hv
      · obtain ⟨e', f', c', d', e0, e1, e2, e3, e4, e5⟩ := hej v hv
        exact ⟨e', f', c', d', e0, sJ _ _ e1, told_sm e2 sJ, told_sm e3 sJ, e4, e5⟩
      · rw [List.mem_singleton.mp hv]
        exact ⟨e, f, L, d, rfl, hev, told_sm tj sJ, told_sm (told_cp tj hfz sL hLv) sE, nf, nL⟩
    exact entry_mv key9 k9 (sJ _ _ hlkj) fun f hf => nn hf
  rintro σ H9 ⟨v4, ks', rfl, k9, hlk9, hln, he9⟩
  have kA : ∀ b o, Hi b = some o → b ≠ lk → H9 b = some o := fun b o h hn => k9 _ _ (s17 _ _ h) hn
  have M9 : MD H9 w ld ra ba bs := W.md.keep (fun b hb => by obtain ⟨_, _, _, e⟩ := W.md.plain hb; exact e) fun b o hb e _ => kA b o e fun z => nlk (by rw [← z]; exact hb)
  have W9 : MW A H9 r w pl m n xs bs hf ld ra ba := ⟨W.rm.keepH fun b o e _ hb => kA b o e fun z => hb (by rw [z]; exact wlk), tabs_ms (S := fun b => b = lk) (S' := fun b => b = lk) (fun b o h hs => ⟨kA b o h hs, hs⟩) (fun b hb => by subst hb; exact ⟨_, hlk, rfl⟩) W.tab, M9⟩
  walk_at "rd"
  refine r_ixT (n := 1) (toT (kA _ _ ht (ne_of ht hlk (by intro z; cases z)))) rfl rfl ?_
  walk_at "rd"
  refine ⟨ld, w, ra, ba, bs, m, n, xs, rfl, M9, hok, b2, b4, fun HA D3 ys3 sA hD3 hD3v P3 => ?_⟩
  walk_at "rd"
  refine ⟨by show 3 ≤ sizeLine; decide, fun g hg => ?_⟩
  have sG := same_new (o := .lst [.ref D1, .ref D2, .ref D3]) hg
  have hgv := upd_same (H := HA) (a := g) (o := .lst [.ref D1, .ref D2, .ref D3])
  generalize upd HA g (.lst [.ref D1, .ref D2, .ref D3]) = HB at sG hgv
  have sB := sA.trans sG
  have mv : ∀ {f d}, Told H7 f d → f ≠ lk → Told HB f d := fun {f d} h hn => told_sm (told_mv h k9 hlk7 hn) sB
  have hflB := sB _ _ (k9 _ _ hflv (nn nfl))
  refine .inr ⟨.list [.list ((shelvesOf bs).map pd3), .list (((pileOf bs).map fun p : Nat => (p : Int)).map PyData.int), .list ((thingsOf n bs).map pd2)], .list [.list ((shelvesOf bs).map pd3), .list (((pileOf bs).map fun p : Nat => (p : Int)).map PyData.int), .list ((thingsOf n bs).map pd2)],
    .lst (toL hflB) (.cons (told_dp (mv U1 (nn nF1))) (.cons (told_dp (mv U2 (nn nF2))) (.cons (told_dp (mv U3 (nn nF3))) .nil))),
    .lst (toL hgv) (.cons (told_dp (mv V1 (nn nD1))) (.cons (told_dp (mv V2 (nn nD2))) (.cons (told_dp (told_sm (.inl ⟨ys3, _, hD3v, P3, rfl⟩) sG)) .nil))), shaped_three _ _ _, shaped_three _ _ _, ?_⟩
  rw [eqv_three]
  exact q HB ks' (fun b o h _ hs _ => ⟨sB _ _ (kA b o h fun z => hs (.inr z)), rfl, hs⟩) (W9.sm sB) (sB _ _ hlk9) hln fun v hv => by
    obtain ⟨e', f', c', d', e0, e1, e2, e3, e4, e5⟩ := he9 v hv
    exact ⟨e', f', c', d', e0, sB _ _ e1, told_sm e2 sB, told_sm e3 sB, e4, e5⟩

omit na in
theorem told_k {P : Addr → Prop} {H H' : Hp} {f : Addr} {d : List PyData} (h : Told H f d) (k : ∀ b o, H b = some o → (∀ ps, o ≠ .tbl ps) → (plainO o = true → P b) → H' b = some o) (hf : P f) : Told H' f d := by
  rcases h with ⟨ys, ts, h1, h2, rfl⟩ | ⟨ys, ts, h1, h2, rfl⟩ | ⟨ns, h1, rfl⟩
  · refine .inl ⟨ys, ts, k _ _ h1 nofun fun _ => hf, ⟨h2.1, fun i y t g1 g2 => ?_⟩, rfl⟩
    obtain ⟨a, e1, e2, e3⟩ := h2.2 i y t g1 g2
    exact ⟨a, e1, k _ _ e2 nofun nofun, e3⟩
  · refine .inr (.inl ⟨ys, ts, k _ _ h1 nofun fun _ => hf, ⟨h2.1, fun i y t g1 g2 => ?_⟩, rfl⟩)
    obtain ⟨a, e1, e2, e3⟩ := h2.2 i y t g1 g2
    exact ⟨a, e1, k _ _ e2 nofun nofun, e3⟩
  · exact .inr (.inr ⟨ns, k _ _ h1 nofun fun _ => hf, rfl⟩)
/-- one side: a room, the law's keeping of it, the list kept -/
def Sd (A : Ad) (H : Hp) (r pl : Addr) (m n : Int) (xs : List Int) (ld lk : Addr) (w : Addr → Ow) (S : Addr → Prop) (ks : List V) : Prop := ∃ bs hf ra ba, S = OnS lk ld ra ba bs ∧ MW A H r w pl m n xs bs hf ld ra ba ∧ H lk = some (.lst ks) ∧ w lk = .no ∧ ¬ OnM ld ra ba bs lk
def Sup (w : Addr → Ow) (S : Addr → Prop) (b : Addr) : Prop := w b ≠ .no ∨ S b
omit na in
theorem not_sup {w : Addr → Ow} {S : Addr → Prop} {b : Addr} (h : ¬ Sup w S b) : Free S w b := by
  refine ⟨?_, fun z => h (.inr z)⟩
  cases e : own (w b) with
  | false => rfl
  | true => exact absurd (.inl fun z => by rw [z] at e; cases e) h
section
variable {A : Ad} {H H' : Hp} {r pl ld lk : Addr} {m n : Int} {xs : List Int} {w : Addr → Ow} {S : Addr → Prop} {ks : List V}
omit na in
theorem Sd.pn (h : Sd A H r pl m n xs ld lk w S ks) {b : Addr} (hb : Sup w S b) : ∃ o, H b = some o ∧ plainO o = true := by
  obtain ⟨bs, hf, ra, ba, rfl, W, h1, h2, h3⟩ := h
  rcases hb with hb | hb | hb
  · exact W.rm.ow hb
  · exact W.md.pl b hb
  · exact ⟨_, by rw [hb]; exact h1, rfl⟩
omit na in
theorem Sd.tab (h : Sd A H r pl m n xs ld lk w S ks) : LamX.TabS H A.lamP A.lamQ := by
  obtain ⟨bs, hf, ra, ba, rfl, W, h1, h2, h3⟩ := h
  exact W.tab
omit na in
theorem Sd.keep (h : Sd A H r pl m n xs ld lk w S ks) (k : ∀ b o, H b = some o → plainO o = true → Sup w S b → H' b = some o) (ht : LamX.TabS H' A.lamP A.lamQ) : Sd A H' r pl m n xs ld lk w S ks := by
  obtain ⟨bs, hf, ra, ba, rfl, W, h1, h2, h3⟩ := h
  exact ⟨bs, hf, ra, ba, rfl, ⟨W.rm.keepH fun b o e hp hb => k b o e hp (.inl hb), ht, W.md.keep (fun b hb => by obtain ⟨_, _, _, e⟩ := W.md.plain hb; exact e) fun b o hb e hp => k b o e hp (.inr (.inl hb))⟩, k _ _ h1 rfl (.inr (.inr rfl)), h2, h3⟩
end
/-- both sides, apart, and what both leave alone -/
def Tw (A : Ad) (H : Hp) (pl : Addr) (m n : Int) (xs : List Int) (Fx : Addr → HO → Prop) (k : Nat) (r1 ld1 lk1 r2 ld2 lk2 : Addr) : Prop :=
  ∃ w1 S1 ks1 w2 S2 ks2, Sd A H r1 pl m n xs ld1 lk1 w1 S1 ks1 ∧ Sd A H r2 pl m n xs ld2 lk2 w2 S2 ks2 ∧ (∀ b, Sup w1 S1 b → Free S2 w2 b) ∧ (∀ b, Sup w2 S2 b → Free S1 w1 b) ∧
    (∀ v ∈ ks1, Entry (fun f => Free S1 w1 f ∧ Free S2 w2 f) H v) ∧ (∀ v ∈ ks2, Entry (fun f => Free S1 w1 f ∧ Free S2 w2 f) H v) ∧ ks1.length ≤ k ∧ ks2.length ≤ k ∧
    ∀ b o, Fx b o → H b = some o ∧ (∀ ps, o ≠ .tbl ps) ∧ Free S1 w1 b ∧ Free S2 w2 b
omit na in
theorem entry_mono {P P' : Addr → Prop} {H : Hp} {v : V} (h : Entry P H v) (k : ∀ f, P f → P' f) : Entry P' H v := by
  obtain ⟨e, f, c, d, e0, e1, e2, e3, e4, e5⟩ := h
  exact ⟨e, f, c, d, e0, e1, e2, e3, k _ e4, k _ e5⟩
section
variable {A : Ad} {H H' : Hp} {pl : Addr} {m n : Int} {xs : List Int} {Fx : Addr → HO → Prop} {k k' : Nat} {r1 ld1 lk1 r2 ld2 lk2 : Addr}
omit na in
theorem Tw.swap (h : Tw A H pl m n xs Fx k r1 ld1 lk1 r2 ld2 lk2) : Tw A H pl m n xs Fx k r2 ld2 lk2 r1 ld1 lk1 := by
  obtain ⟨w1, S1, ks1, w2, S2, ks2, h1, h2, h3, h4, h5, h6, h7, h8, h9⟩ := h
  exact ⟨w2, S2, ks2, w1, S1, ks1, h2, h1, h4, h3, fun v hv => entry_mono (h6 v hv) fun f hf => ⟨hf.2, hf.1⟩, fun v hv => entry_mono (h5 v hv) fun f hf => ⟨hf.2, hf.1⟩, h8, h7, fun b o hb => ⟨(h9 b o hb).1, (h9 b o hb).2.1, (h9 b o hb).2.2.2, (h9 b o hb).2.2.1⟩⟩
omit na in
theorem entry_k {P P' : Addr → Prop} {H H' : Hp} {v : V} (h : Entry P H v) (k : ∀ b o, H b = some o → (∀ ps, o ≠ .tbl ps) → (plainO o = true → P b) → H' b = some o) (hP : ∀ f o, H f = some o → (∀ ps, o ≠ .tbl ps) → P f → P' f) : Entry P' H' v := by
  obtain ⟨e, f, c, d, e0, e1, e2, e3, e4, e5⟩ := h
  obtain ⟨x1, g1, _⟩ := told_l e2
  obtain ⟨x2, g2, _⟩ := told_l e3
  exact ⟨e, f, c, d, e0, k _ _ e1 nofun nofun, told_k e2 k e4, told_k e3 k e5, hP _ _ g1 nofun e4, hP _ _ g2 nofun e5⟩
omit na in
theorem Tw.sm (h : Tw A H pl m n xs Fx k r1 ld1 lk1 r2 ld2 lk2) (s : Same H H') : Tw A H' pl m n xs Fx k r1 ld1 lk1 r2 ld2 lk2 := by
  obtain ⟨w1, S1, ks1, w2, S2, ks2, h1, h2, h3, h4, h5, h6, h7, h8, h9⟩ := h
  exact ⟨w1, S1, ks1, w2, S2, ks2, h1.keep (fun b o e _ _ => s b o e) (h1.tab.ext s), h2.keep (fun b o e _ _ => s b o e) (h2.tab.ext s), h3, h4, fun v hv => entry_k (h5 v hv) (fun b o e _ _ => s b o e) fun f _ _ _ hf => hf, fun v hv => entry_k (h6 v hv) (fun b o e _ _ => s b o e) fun f _ _ _ hf => hf, h7, h8, fun b o hb => ⟨s _ _ (h9 b o hb).1, (h9 b o hb).2⟩⟩
omit na in
/-- one side moves -/
theorem tw_step {w1 w2 w1' : Addr → Ow} {S1 S2 S1' : Addr → Prop} {ks1 ks2 ks1' : List V} (h1 : Sd A H r1 pl m n xs ld1 lk1 w1 S1 ks1) (h2 : Sd A H r2 pl m n xs ld2 lk2 w2 S2 ks2) (h3 : ∀ b, Sup w1 S1 b → Free S2 w2 b) (h4 : ∀ b, Sup w2 S2 b → Free S1 w1 b)
    (h5 : ∀ v ∈ ks1, Entry (fun f => Free S1 w1 f ∧ Free S2 w2 f) H v) (h6 : ∀ v ∈ ks2, Entry (fun f => Free S1 w1 f ∧ Free S2 w2 f) H v) (h8 : ks2.length ≤ k') (h9 : ∀ b o, Fx b o → H b = some o ∧ (∀ ps, o ≠ .tbl ps) ∧ Free S1 w1 b ∧ Free S2 w2 b)
    (s : SStp S1 w1 H S1' w1' H') (h1' : Sd A H' r1 pl m n xs ld1 lk1 w1' S1' ks1') (hk : ks1'.length ≤ k') (hv : ∀ v ∈ ks1', v ∈ ks1 ∨ Entry (fun f => Free S1' w1' f ∧ Free S2 w2 f) H' v) : Tw A H' pl m n xs Fx k' r1 ld1 lk1 r2 ld2 lk2 := by
  have st : ∀ b o, H b = some o → (∀ ps, o ≠ .tbl ps) → Free S1 w1 b → H' b = some o ∧ w1' b = w1 b ∧ ¬ S1' b := fun b o e ht hf => s b o e hf.1 hf.2 ht
  have fr : ∀ b o, H b = some o → (∀ ps, o ≠ .tbl ps) → Free S1 w1 b → Free S1' w1' b := fun b o e ht hf => by
    obtain ⟨_, e2, e3⟩ := st b o e ht hf
    exact ⟨by rw [e2]; exact hf.1, e3⟩
  have kp : ∀ b o, H b = some o → (∀ ps, o ≠ .tbl ps) → (plainO o = true → Free S1 w1 b ∧ Free S2 w2 b) → H' b = some o := fun b o e ht hp => by
    refine (st b o e ht ?_).1
    cases e2 : plainO o with
    | true => exact (hp e2).1
    | false =>
      refine not_sup fun z => ?_
      obtain ⟨u, g1, g2⟩ := h1.pn z
      rw [e] at g1; cases g1
      rw [e2] at g2; cases g2
  have sup2 : ∀ b, Sup w2 S2 b → ∃ o, H b = some o ∧ H' b = some o ∧ w1' b = w1 b ∧ ¬ S1' b ∧ Free S1 w1 b := fun b hb => by
    obtain ⟨o, g1, g2⟩ := h2.pn hb
    obtain ⟨e1, e2, e3⟩ := st b o g1 (plain_tbl g2) (h4 b hb)
    exact ⟨o, g1, e1, e2, e3, h4 b hb⟩
  have en : ∀ v, Entry (fun f => Free S1 w1 f ∧ Free S2 w2 f) H v → Entry (fun f => Free S1' w1' f ∧ Free S2 w2 f) H' v := fun v h => entry_k h kp fun f o e ht hf => ⟨fr f o e ht hf.1, hf.2⟩
  refine ⟨w1', S1', ks1', w2, S2, ks2, h1', h2.keep (fun b o e hp hb => (st b o e (plain_tbl hp) (h4 b hb)).1) h1'.tab, fun b hb => ?_, fun b hb => ?_, fun v h => ?_, fun v h => en v (h6 v h), hk, h8, fun b o hb => ?_⟩
  · by_cases z : Sup w2 S2 b
    · obtain ⟨o, _, _, e2, e3, e4⟩ := sup2 b z
      rcases hb with hb | hb
      · rw [e2] at hb
        exact h3 b (.inl hb)
      · exact absurd hb e3
    · exact not_sup z
  · obtain ⟨o, g1, e1, e2, e3, e4⟩ := sup2 b hb
    exact ⟨by rw [e2]; exact e4.1, e3⟩
  · rcases hv v h with h | h
    · exact en v (h5 v h)
    · exact h
  · obtain ⟨g1, g2, g3, g4⟩ := h9 b o hb
    exact ⟨(st b o g1 g2 g3).1, g2, fr b o g1 g2 g3, g4⟩
end
theorem deed_two {pl : Addr} {m n : Int} {xs : List Int} {Fx : Addr → HO → Prop} {k : Nat} {r1 ld1 lk1 r2 ld2 lk2 t ls : Addr} {H : Hp} {Q : VK} {E : XK} {c : Int} (T : Tw A H pl m n xs Fx k r1 ld1 lk1 r2 ld2 lk2) (hk : k ≤ 1000) (ht : Fx t (.tup [.int m, .int n, .ref ls])) (hls : Fx ls (.lst (xs.map V.int))) (q : ∀ H', Tw A H' pl m n xs Fx (k + 1) r1 ld1 lk1 r2 ld2 lk2 → Q (.bl true) H') : sp_l_deed A [.ref r1, .ref ld1, .ref t, .ref lk1, .int c] H Q E := by
  obtain ⟨w1, S1, ks1, w2, S2, ks2, h1, h2, h3, h4, h5, h6, h7, h8, h9⟩ := T
  obtain ⟨bs, hf, ra, ba, rfl, W, g1, g2, g3⟩ := id h1
  obtain ⟨t1, _, t2, _⟩ := h9 _ _ ht
  obtain ⟨u1, _, u2, _⟩ := h9 _ _ hls
  refine ⟨r1, ld1, t, ls, lk1, w1, pl, m, n, xs, bs, hf, ra, ba, ks1, c, rfl, W, g1, g2, g3, by omega, ⟨t1, t2⟩, ⟨u1, u2⟩, fun H' w' bs' hf' ra' ba' ks' s W' e1 e2 e3 e4 => q H' ?_⟩
  have h1' : Sd A H' r1 pl m n xs ld1 lk1 w' (OnS lk1 ld1 ra' ba' bs') ks' := ⟨bs', hf', ra', ba', rfl, W', e1, e2, e3⟩
  rcases e4 with rfl | ⟨v, rfl, hv⟩
  · exact tw_step h1 h2 h3 h4 h5 h6 (by omega) h9 s h1' (by omega) fun v hv => .inl hv
  · refine tw_step h1 h2 h3 h4 h5 h6 (by omega) h9 s h1' (by rw [List.length_append, List.length_singleton]; omega) fun u hu => ?_
    rcases List.mem_append.mp hu with hu | hu
    · exact .inl hu
    · rw [List.mem_singleton.mp hu]
      refine .inr (entry_mono hv fun f hf => ⟨hf.2, not_sup fun z => ?_⟩)
      obtain ⟨o, x1, x2⟩ := h2.pn z
      exact hf.1 o x1 x2 (h4 f z).1 (h4 f z).2
theorem stands_two {pl : Addr} {m n : Int} {xs : List Int} {Fx : Addr → HO → Prop} {k : Nat} {r1 ld1 lk1 r2 ld2 lk2 t ls : Addr} {H : Hp} {Q : VK} {E : XK} (T : Tw A H pl m n xs Fx k r1 ld1 lk1 r2 ld2 lk2) (hk : k ≤ 1000) (hk3 : 3 ≤ k) (ht : Fx t (.tup [.int m, .int n, .ref ls])) (q : ∀ H', Tw A H' pl m n xs Fx k r1 ld1 lk1 r2 ld2 lk2 → Q (.bl true) H') : sp_l_stands A [.ref r1, .ref ld1, .ref t, .ref lk1] H Q E := by
  obtain ⟨w1, S1, ks1, w2, S2, ks2, h1, h2, h3, h4, h5, h6, h7, h8, h9⟩ := T
  obtain ⟨bs, hf, ra, ba, rfl, W, g1, g2, g3⟩ := id h1
  refine ⟨r1, ld1, t, ls, lk1, w1, pl, m, n, xs, bs, hf, ra, ba, ks1, rfl, W, g1, g2, g3, by omega, (h9 _ _ ht).1, fun v hv => entry_mono (h5 v hv) fun _ _ => trivial, fun H' ks' s W' e1 e2 e3 => q H' ?_⟩
  refine tw_step h1 h2 h3 h4 h5 h6 h8 h9 s ⟨bs, hf, ra, ba, rfl, W', e1, g2, g3⟩ (by omega) fun v hv => .inr (entry_mono (e3 v hv) fun f hf => ⟨not_sup fun z => ?_, not_sup fun z => ?_⟩)
  · obtain ⟨o, x1, _⟩ := h1.pn z
    rw [hf] at x1; cases x1
  · obtain ⟨o, x1, _⟩ := h2.pn z
    rw [hf] at x1; cases x1

omit na in
theorem r_forE {K : PySem.W.Frag} {tA : TA} {g : TG} {tb : TS} {D : Ends} {σ : L2.St} {H : Hp} (h : tA σ H fun vs H1 => ∃ a xs, vs = [.ref a] ∧ SqL K H1 a xs ∧ ∃ W : Nat → Nat → L2.St → Hp → Prop, (∃ m, W 0 m σ H1) ∧ ∀ k m σ H, W k m σ H →
      ((Ite K a).stop k H ∧ D.nx σ H) ∨ ((Ite K a).go k H ∧ ∃ N : L2.St → Hp → Prop, (∀ σ' H', N σ' H' → ∃ m', m' < m ∧ W (k + 1) m' σ' H') ∧ ∀ x H', (Ite K a).yld k H x H' → g x σ H' fun σ2 H2 => tb { D with nx := N, ct := N, bk := D.nx } σ2 H2)) : tFor (iEnum K tA) g tb D σ H := h
omit na in
theorem onS_none {lk ld b : Addr} {m : Int} (h : OnS lk ld (fun _ => 0) (fun _ => 0) (List.replicate m.toNat none) b) : b = ld ∨ b = lk := by
  rcases h with (h | ⟨p, hp, _⟩) | h
  · exact .inl h
  · rw [isSh_none] at hp; cases hp
  · exact .inr h
omit na in
theorem md_none {H : Hp} {w : Addr → Ow} {ld : Addr} {m : Int} (e : H ld = some (.dK [])) (hw : w ld = .no) : MD H w ld (fun _ => 0) (fun _ => 0) (List.replicate m.toNat none) :=
  ⟨⟨[], e, List.nodup_nil, nofun, fun p hp => by rw [isSh_none] at hp; cases hp⟩, hw, fun p hp => by (rw [isSh_none] at hp; cases hp), fun p q hp => by (rw [isSh_none] at hp; cases hp)⟩
omit na in
theorem sep_none {A : Ad} {H : Hp} {w1 w2 : Addr → Ow} {r1 r2 pl ld1 ld2 lk1 lk2 : Addr} {m n : Int} {xs : List Int} {bs1 bs2 : Bits} {hf1 hf2 : Held} (R1 : Rm A H r1 w1 pl m n xs bs1 hf1) (R2 : Rm A H r2 w2 pl m n xs bs2 hf2) (ap : ∀ b, w1 b ≠ .no → own (w2 b) = false) (d1 : H ld1 = none) (d2 : H ld2 = none) (k1 : H lk1 = none) (k2 : H lk2 = none) (a : ld1 ≠ ld2) (b : ld1 ≠ lk2) (c : lk1 ≠ ld2) (d : lk1 ≠ lk2) :
    ∀ x, Sup w1 (OnS lk1 ld1 (fun _ => 0) (fun _ => 0) (List.replicate m.toNat none)) x → Free (OnS lk2 ld2 (fun _ => 0) (fun _ => 0) (List.replicate m.toNat none)) w2 x := fun x hx => by
  rcases hx with hx | hx
  · obtain ⟨o, e, _⟩ := R1.ow hx
    refine ⟨ap x hx, fun z => ?_⟩
    rcases onS_none z with z | z
    · rw [z, d2] at e; cases e
    · rw [z, k2] at e; cases e
  · rcases onS_none hx with rfl | rfl
    · refine ⟨by rw [R2.free d1]; rfl, fun z => ?_⟩
      rcases onS_none z with z | z
      · exact a z
      · exact b z
    · refine ⟨by rw [R2.free k1]; rfl, fun z => ?_⟩
      rcases onS_none z with z | z
      · exact c z
      · exact d z
def FxO (H : Hp) (w1 w2 : Addr → Ow) (ld1 lk1 ld2 lk2 : Addr) (b : Addr) (o : HO) : Prop := H b = some o ∧ (∀ ps, o ≠ .tbl ps) ∧ own (w1 b) = false ∧ own (w2 b) = false ∧ b ≠ ld1 ∧ b ≠ lk1 ∧ b ≠ ld2 ∧ b ≠ lk2
omit na in
theorem tw_init {A : Ad} {H HE : Hp} {w1 w2 : Addr → Ow} {r1 r2 pl ld1 ld2 lk1 lk2 : Addr} {m n : Int} {xs : List Int} (R1 : Rm A H r1 w1 pl m n xs (List.replicate m.toNat none) (fun _ => none)) (R2 : Rm A H r2 w2 pl m n xs (List.replicate m.toNat none) (fun _ => none)) (ap : Ap w1 w2) (s : Same H HE) (tab : LamX.TabS HE A.lamP A.lamQ) (d1 : H ld1 = none) (d2 : H ld2 = none) (k1 : H lk1 = none) (k2 : H lk2 = none)
    (e1 : HE ld1 = some (.dK [])) (e2 : HE ld2 = some (.dK [])) (f1 : HE lk1 = some (.lst [])) (f2 : HE lk2 = some (.lst [])) (nd : ld1 ≠ ld2) (nk : lk1 ≠ lk2) : Tw A HE pl m n xs (FxO HE w1 w2 ld1 lk1 ld2 lk2) 3 r1 ld1 lk1 r2 ld2 lk2 := by
  have a1 : ld1 ≠ lk1 := ne_of e1 f1 (by intro z; cases z)
  have a2 : ld2 ≠ lk2 := ne_of e2 f2 (by intro z; cases z)
  have a3 : ld1 ≠ lk2 := ne_of e1 f2 (by intro z; cases z)
  have a4 : ld2 ≠ lk1 := ne_of e2 f1 (by intro z; cases z)
  refine ⟨w1, _, [], w2, _, [], ⟨_, _, fun _ => 0, fun _ => 0, rfl, ⟨R1.sm s, tab, md_none e1 (R1.free d1)⟩, f1, R1.free k1, fun z => (onS_none (lk := ld1) (.inl z)).elim (fun z => a1 z.symm) fun z => a1 z.symm⟩,
    ⟨_, _, fun _ => 0, fun _ => 0, rfl, ⟨R2.sm s, tab, md_none e2 (R2.free d2)⟩, f2, R2.free k2, fun z => (onS_none (lk := ld2) (.inl z)).elim (fun z => a2 z.symm) fun z => a2 z.symm⟩,
    sep_none R1 R2 ap.a d1 d2 k1 k2 nd a3 a4.symm nk, sep_none R2 R1 ap.b d2 d1 k2 k1 nd.symm a4 a3.symm nk.symm, nofun, nofun, by decide, by decide, fun b o ⟨g1, g2, g3, g4, g5, g6, g7, g8⟩ => ⟨g1, g2, ⟨g3, fun z => (onS_none z).elim g5 g6⟩, ⟨g4, fun z => (onS_none z).elim g7 g8⟩⟩⟩
theorem pure_law (vs : List V) (H : Hp) (Q : VK) (E : XK) (h : sp_law A vs H Q E) : t_law A E { nx := fun _ H' => Q .non H', rt := Q } (start ["_law_script", "_law_drawn", "_law_plan", "_law_rooms", "_law_models", "_law_kept", "_law_k", "_law_cell", "_law_which", "_law_room", "_law_model"] vs) H := by
  obtain ⟨a, ns, rfl, hs, h63, hbits, hlam, q⟩ := h
  have hT0 := tabs_nil (q := A.lamQ) hlam
  unfold t_law
  walk_at "rd"
  refine ⟨a, ns, rfl, hs, fun m n xs b1 b2 b3 b4 b5 H1 t ls s1 ht0 hls0 ht hls => ?_⟩
  refine r_name ?_
  refine r_nx ?_
  refine r_seq ?_
  refine r_asg ?_
  refine mk_plan A ?_ ht hls b1 b2 b3 b4 b5 fun Hp1 pl dp l3 sp1 ep el hpln => ?_
  · rfl
  refine r_name ?_
  refine r_nx ?_
  refine r_seq ?_
  refine r_asg ?_
  refine r_lst ?_
  refine r_cons ?_
  refine mk_room1 A (i := 2) ?_ ep el b1 b2 b3 b4 b5 fun H2 r1 w1 s2 hr1 R1 wf1 => ?_
  · rfl
  refine r_cons ?_
  refine mk_room1 A (i := 2) ?_ (s2 _ _ ep) (s2 _ _ el) b1 b2 b3 b4 b5 fun H3 r2 w20 s3 hr2 R20 wf2 => ?_
  · rfl
  obtain ⟨C1, RC1, con1⟩ := R1
  obtain ⟨C2, RC2, con2⟩ := R20
  obtain ⟨w2, RC2, ap, how⟩ := Ap.new RC1 (RC1.sm s3) hr2 RC2 wf2
  have R2 : Rm A H3 r2 w2 pl m n xs (List.replicate m.toNat none) (fun _ => none) := ⟨C2, RC2, con2⟩
  have R1 : Rm A H3 r1 w1 pl m n xs (List.replicate m.toNat none) (fun _ => none) := ⟨C1, RC1.sm s3, con1⟩
  have sC := ((s1.trans sp1).trans s2).trans s3
  have wt2 : ∀ b o, H2 b = some o → own (w2 b) = false := fun b o e => by rw [how]; exact wf2 b o e
  clear RC1 RC2 con1 con2 wf2 how
  refine r_nil ?_
  refine ⟨by show 2 ≤ sizeLine; decide, fun rs hrs => ?_⟩
  have s4 := same_new (o := .lst [.ref r1, .ref r2]) hrs
  have vrs := upd_same (H := H3) (a := rs) (o := .lst [.ref r1, .ref r2])
  generalize upd H3 rs (.lst [.ref r1, .ref r2]) = H4 at s4 vrs
  walk_at "rd"
  intro ld1 hd1
  have s5 := s4.trans (same_new (o := .dK []) hd1)
  have vd1 := upd_same (H := H4) (a := ld1) (o := .dK [])
  have c5 := same_new (o := .dK []) hd1
  generalize upd H4 ld1 (.dK []) = H5 at s5 vd1 c5
  walk_at "rd"
  intro ld2 hd2
  have c6 := same_new (o := .dK []) hd2
  have vd2 := upd_same (H := H5) (a := ld2) (o := .dK [])
  generalize upd H5 ld2 (.dK []) = H6 at vd2 c6
  walk_at "rd"
  refine ⟨by show 2 ≤ sizeLine; decide, fun md hmd => ?_⟩
  have c7 := same_new (o := .lst [.ref ld1, .ref ld2]) hmd
  have vmd := upd_same (H := H6) (a := md) (o := .lst [.ref ld1, .ref ld2])
  generalize upd H6 md (.lst [.ref ld1, .ref ld2]) = H7 at vmd c7
  walk_at "rd"
  refine ⟨Nat.zero_le _, fun lk1 hk1 => ?_⟩
  have c8 := same_new (o := .lst []) hk1
  have vk1 := upd_same (H := H7) (a := lk1) (o := .lst [])
  generalize upd H7 lk1 (.lst []) = H8 at vk1 c8
  walk_at "rd"
  refine ⟨Nat.zero_le _, fun lk2 hk2 => ?_⟩
  have c9 := same_new (o := .lst []) hk2
  have vk2 := upd_same (H := H8) (a := lk2) (o := .lst [])
  generalize upd H8 lk2 (.lst []) = H9 at vk2 c9
  walk_at "rd"
  refine ⟨by show 2 ≤ sizeLine; decide, fun kp hkp => ?_⟩
  have cA := same_new (o := .lst [.ref lk1, .ref lk2]) hkp
  have vkp := upd_same (H := H9) (a := kp) (o := .lst [.ref lk1, .ref lk2])
  generalize upd H9 kp (.lst [.ref lk1, .ref lk2]) = HA at vkp cA
  have s6 := s5.trans c6
  have s7 := s6.trans c7
  have s8 := s7.trans c8
  have s9 := s8.trans c9
  have sA := s9.trans cA
  refine r_name ?_
  refine r_nx ?_
  refine r_seq ?_
  refine r_forE ?_
  walk_at "rd"
  refine ⟨a, ns.map V.int, rfl, (sC.trans sA).seq hs, fun sl hsl => ?_⟩
  rw [show (some (4 : Int)) = some ((4 : Nat) : Int) from rfl, cut_dropA]
  have cB := same_new (o := .lst ((ns.map V.int).drop 4)) hsl
  have vsl := upd_same (H := HA) (a := sl) (o := .lst ((ns.map V.int).drop 4))
  generalize upd HA sl (.lst ((ns.map V.int).drop 4)) = HB at vsl cB
  have sB := sA.trans cB
  have nd1 := none_same s4 hd1
  have nd2 := none_same s5 hd2
  have nmd := none_same s6 hmd
  have nk1 := none_same s7 hk1
  have nk2 := none_same s8 hk2
  have nkp := none_same s9 hkp
  have nsl := none_same sA hsl
  have k6 := c6.trans (c7.trans (c8.trans (c9.trans (cA.trans cB))))
  have k7 := c7.trans (c8.trans (c9.trans (cA.trans cB)))
  have k9 := c9.trans (cA.trans cB)
  have kA := cA.trans cB
  have x12 : ld1 ≠ ld2 := ne_of_none vd1 hd2
  have y12 : lk1 ≠ lk2 := ne_of_none vk1 hk2
  have vd1B := k6 _ _ vd1
  have vd2B := k7 _ _ vd2
  have vmdB := (c8.trans k9) _ _ vmd
  have vk1B := k9 _ _ vk1
  have vk2B := kA _ _ vk2
  have vkpB := cB _ _ vkp
  have T0 : Tw A HB pl m n xs (FxO HB w1 w2 ld1 lk1 ld2 lk2) 3 r1 ld1 lk1 r2 ld2 lk2 := tw_init R1 R2 ap sB (hT0.ext (sC.trans sB)) nd1 nd2 nk1 nk2 vd1B vd2B vk1B vk2B x12 y12
  have old : ∀ b o, Hp1 b = some o → (∀ ps, o ≠ .tbl ps) → FxO HB w1 w2 ld1 lk1 ld2 lk2 b o := fun b o e ht => by
    have e3 := (s2.trans s3) _ _ e
    exact ⟨sB _ _ e3, ht, wf1 _ _ e, wt2 _ _ (s2 _ _ e), ne_of_none e3 nd1, ne_of_none e3 nk1, ne_of_none e3 nd2, ne_of_none e3 nk2⟩
  have nu : ∀ {b o}, HB b = some o → H3 b = none → (∀ ps, o ≠ .tbl ps) → b ≠ ld1 → b ≠ lk1 → b ≠ ld2 → b ≠ lk2 → FxO HB w1 w2 ld1 lk1 ld2 lk2 b o := fun {b o} e hn ht g1 g2 g3 g4 => ⟨e, ht, by rw [R1.free hn]; rfl, by rw [R2.free hn]; rfl, g1, g2, g3, g4⟩
  have Ft := old _ _ (sp1 _ _ ht) nofun
  have Fls := old _ _ (sp1 _ _ hls) nofun
  have Fpl := old _ _ ep nofun
  have Fl3 := old _ _ el nofun
  have Frs := nu ((c5.trans k6) _ _ vrs) hrs nofun (ne_of_none vrs hd1) (ne_of_none ((c5.trans (c6.trans c7)) _ _ vrs) hk1) (ne_of_none (c5 _ _ vrs) hd2) (ne_of_none ((c5.trans (c6.trans (c7.trans c8))) _ _ vrs) hk2)
  have Fmd := nu vmdB nmd nofun (ne_of vmdB vd1B (by intro z; cases z)) (ne_of_none vmd hk1) (ne_of vmdB vd2B (by intro z; cases z)) (ne_of_none (c8 _ _ vmd) hk2)
  have Fkp := nu vkpB nkp nofun (ne_of vkpB vd1B (by intro z; cases z)) (ne_of_none ((c9) _ _ vk1) hkp).symm (ne_of vkpB vd2B (by intro z; cases z)) (ne_of_none vk2 hkp).symm
  have Fsl := nu vsl nsl nofun (ne_of vsl vd1B (by intro z; cases z)) (ne_of_none ((c9.trans cA) _ _ vk1) hsl).symm (ne_of vsl vd2B (by intro z; cases z)) (ne_of_none (cA _ _ vk2) hsl).symm
  clear hd1 hd2 hmd hk1 hk2 hkp hsl nd1 nd2 nmd nk1 nk2 nkp nsl k6 k7 k9 kA x12 y12 vd1B vd2B vmdB vk1B vk2B vkpB s4 s5 s6 s7 s8 s9 sA c5 c6 c7 c8 c9 cA cB vrs vd1 vd2 vmd vk1 vk2 vkp hrs old nu R1 R2 ap wt2 wf1
  generalize FxO HB w1 w2 ld1 lk1 ld2 lk2 = Fx at T0 Ft Fls Fpl Fl3 Frs Fmd Fkp Fsl
  have at_ : ∀ {H' : Hp} {k : Nat} {b : Addr} {o : HO}, Tw A H' pl m n xs Fx k r1 ld1 lk1 r2 ld2 lk2 → Fx b o → H' b = some o := fun {H' k b o} T h => by
    obtain ⟨_, _, _, _, _, _, _, _, _, _, _, _, _, _, h9⟩ := T
    exact (h9 _ _ h).1
  have hlen : ((ns.map V.int).drop 4).length ≤ 63 := by rw [List.length_drop, List.length_map]; omega
  refine ⟨sl, _, rfl, toL vsl, for_it (walk_enum (K := A.K) (a := sl) (xs := (ns.map V.int).drop 4)) (fun i σ H' => ∃ (v6 v7 v8 v9 v10 : Option V), σ = [some (.ref a), some (.ref t), some (.ref pl), some (.ref rs), some (.ref md), some (.ref kp), v6, v7, v8, v9, v10] ∧ Tw A H' pl m n xs Fx (i + 3) r1 ld1 lk1 r2 ld2 lk2) ⟨none, none, none, none, none, rfl, T0⟩ (fun i σ H' _ ⟨_, _, _, _, _, _, T⟩ => toL (at_ T Fsl)) ?_ ?_⟩
  · rintro i x σ Hi H' hi ⟨v6, v7, v8, v9, v10, rfl, T⟩ ⟨p, x1, x2, rfl, hp, rfl, e1, e2⟩
    cases e1
    obtain ⟨c, rfl⟩ : ∃ c : Int, x2 = .int c := by
      have := List.mem_of_getElem? e2
      obtain ⟨c, _, e⟩ := List.mem_map.mp (List.mem_of_mem_drop this)
      exact ⟨c, e.symm⟩
    have sT := same_new (o := .tup [.int (i : Int), .int c]) hp
    have vT := upd_same (H := Hi) (a := p) (o := .tup [.int (i : Int), .int c])
    replace T := T.sm sT
    generalize upd Hi p (.tup [.int (i : Int), .int c]) = Hj at T vT
    refine r_gtup (toT vT) rfl ?_
    walk_at "rd"
    obtain ⟨j, rj, dj, kj, ro, d2, ko, hj, g1, g2, g3, Tj, back⟩ : ∃ (j : Nat) (rj dj kj ro d2 ko : Addr), (if decide ((i : Int) % 3 = 2) = true then (1 : Int) else 0) = (j : Int) ∧ [V.ref r1, V.ref r2][j]? = some (.ref rj) ∧ [V.ref ld1, V.ref ld2][j]? = some (.ref dj) ∧ [V.ref lk1, V.ref lk2][j]? = some (.ref kj) ∧ Tw A Hj pl m n xs Fx (i + 3) rj dj kj ro d2 ko ∧ ∀ H' k, Tw A H' pl m n xs Fx k rj dj kj ro d2 ko → Tw A H' pl m n xs Fx k r1 ld1 lk1 r2 ld2 lk2 := by
      by_cases e : (i : Int) % 3 = 2
      · exact ⟨1, r2, ld2, lk2, r1, ld1, lk1, if_pos (decide_eq_true e), rfl, rfl, rfl, T.swap, fun _ _ T => T.swap⟩
      · exact ⟨0, r1, ld1, lk1, r2, ld2, lk2, if_neg (fun z => e (of_decide_eq_true z)), rfl, rfl, rfl, T, fun _ _ T => T⟩
    rw [hj]
    refine r_ixL (n := j) (toL (at_ T Frs)) rfl g1 ?_
    walk_at "rd"
    refine r_ixL (n := j) (toL (at_ T Fmd)) rfl g2 ?_
    walk_at "rd"
    refine r_ixL (n := j) (toL (at_ T Fkp)) rfl g3 ?_
    walk_at "rd"
    refine deed_two A na Tj (by omega) Ft Fls fun HK T2 => ?_
    walk_at "rd"
    have T3 : Tw A HK pl m n xs Fx (i + 1 + 3) r1 ld1 lk1 r2 ld2 lk2 := by
      have := back _ _ T2
      rwa [show i + 3 + 1 = i + 1 + 3 by omega] at this
    refine r_ifd (fun h5 => ?_) (fun h5 => ?_)
    · walk_at "rd"
      refine r_ixL (n := j) (toL (at_ T3 Fkp)) rfl g3 ?_
      walk_at "rd"
      refine stands_two A na T2 (by omega) (by omega) Ft fun HL T4 => ?_
      walk_at "rd"
      refine ⟨_, _, _, _, _, rfl, ?_⟩
      have := back _ _ T4
      rwa [show i + 3 + 1 = i + 1 + 3 by omega] at this
    · walk_at "rd"
      exact ⟨_, _, _, _, _, rfl, T3⟩
  rintro σ HF ⟨v6, v7, v8, v9, v10, rfl, T⟩
  walk_at "rd"
  have hpF := at_ T Fpl
  have htF := at_ T Ft
  refine r_fldR hpF na.cl_Plan na.na_Plan_pages (pf_pages _ _ _) ?_
  walk_at "rd"
  refine r_fldR hpF na.cl_Plan na.na_Plan_length (pf_length _ _ _) ?_
  walk_at "rd"
  refine ⟨by show 2 ≤ sizeLine; decide, fun p1 hp1 => ?_⟩
  have u1 := same_new (o := .tup [.int m, .int n]) hp1
  have z1 := upd_same (H := HF) (a := p1) (o := .tup [.int m, .int n])
  generalize upd HF p1 (.tup [.int m, .int n]) = HG at u1 z1
  walk_at "rd"
  refine r_ixT (n := 0) (toT (u1 _ _ htF)) rfl rfl ?_
  walk_at "rd"
  refine r_ixT (n := 1) (toT (u1 _ _ htF)) rfl rfl ?_
  walk_at "rd"
  refine ⟨by show 2 ≤ sizeLine; decide, fun p2 hp2 => ?_⟩
  have u2 := same_new (o := .tup [.int m, .int n]) hp2
  have z2 := upd_same (H := HG) (a := p2) (o := .tup [.int m, .int n])
  generalize upd HG p2 (.tup [.int m, .int n]) = HI at u2 z2
  have u3 := u1.trans u2
  refine .inr ⟨pd2 (m, n), pd2 (m, n), dp_pair (u2 _ _ z1), dp_pair z2, shaped2 _, shaped2 _, ?_⟩
  rw [eqv2, decide_eq_true rfl]
  walk_at "rd"
  refine r_fldR (u3 _ _ hpF) na.cl_Plan na.na_Plan_sizes (pf_sizes _ _ _) ?_
  walk_at "rd"
  refine r_ixT (n := 2) (toT (u3 _ _ htF)) rfl rfl ?_
  refine r_neL (ns := xs) (ms := xs) (toL (u3 _ _ (at_ T Fl3))) (toL (u3 _ _ (at_ T Fls))) ?_
  rw [decide_eq_true rfl]
  replace T := T.sm u3
  have hk : (List.drop 4 (List.map V.int ns)).length + 3 ≤ 1000 := by omega
  walk_at "rd"
  refine r_ixL (n := 0) (toL (at_ T Frs)) rfl rfl ?_
  walk_at "rd"
  refine r_ixL (n := 0) (toL (at_ T Fmd)) rfl rfl ?_
  walk_at "rd"
  refine r_ixL (n := 0) (toL (at_ T Fkp)) rfl rfl ?_
  walk_at "rd"
  refine stands_two A na T hk (by omega) Ft fun HL T4 => ?_
  walk_at "rd"
  refine r_ixL (n := 1) (toL (at_ T4 Frs)) rfl rfl ?_
  walk_at "rd"
  refine r_ixL (n := 1) (toL (at_ T4 Fmd)) rfl rfl ?_
  walk_at "rd"
  refine r_ixL (n := 1) (toL (at_ T4 Fkp)) rfl rfl ?_
  walk_at "rd"
  refine stands_two A na T4.swap hk (by omega) Ft fun HM T5 => ?_
  walk_at "rd"
  exact q HM

end

def top (i : Nat) : Stmt := PySem.Challenge.pw_slabroom_k10_whole_every_deed.main.body.getD i (.Pass ⟨0, 0, 0, 0⟩)
abbrev s_Shelf_init : Stmt := inClass (top 11) 0
abbrev s_Shelf_out : Stmt := inClass (top 11) 1
abbrev s_Shelf_free : Stmt := inClass (top 11) 2
abbrev s_Shelf_take : Stmt := inClass (top 11) 3
abbrev s_Shelf_give : Stmt := inClass (top 11) 4
abbrev s_fullest_first : Stmt := top 13
abbrev s_Room_init : Stmt := inClass (top 14) 0
abbrev s_Room_wish : Stmt := inClass (top 14) 1
abbrev s_Room_give_back : Stmt := inClass (top 14) 2
abbrev s_Room_trim : Stmt := inClass (top 14) 3
abbrev s_Room_room_for : Stmt := inClass (top 14) 4
abbrev s_Room_read : Stmt := inClass (top 14) 5
abbrev s_Room_write : Stmt := inClass (top 14) 6
abbrev s_Room_gather : Stmt := inClass (top 14) 7
abbrev s_Room_things : Stmt := inClass (top 14) 8
abbrev s_Room_shelves : Stmt := inClass (top 14) 9
abbrev s_Room_pile : Stmt := inClass (top 14) 10
abbrev s_Room__all : Stmt := inClass (top 14) 11
abbrev s_Room__of_size : Stmt := inClass (top 14) 12
abbrev s_Room__unused : Stmt := inClass (top 14) 13
abbrev s_Room__page_of : Stmt := inClass (top 14) 14
abbrev s_Room__check_out : Stmt := inClass (top 14) 15
abbrev s_Room__check_step : Stmt := inClass (top 14) 16
abbrev s_Room__shelf_for : Stmt := inClass (top 14) 17
abbrev s_Room__page_for_shelf : Stmt := inClass (top 14) 18
abbrev s_Room__take_place : Stmt := inClass (top 14) 19
abbrev s_Room__give_back_shelves : Stmt := inClass (top 14) 20
abbrev s_Room__move_things : Stmt := inClass (top 14) 21
abbrev s_is_whole : Stmt := top 19
abbrev s_is_within : Stmt := top 20
abbrev s_check_sizes : Stmt := top 21
abbrev s_Plan_init : Stmt := inClass (top 22) 0
abbrev s_Plan_size_for : Stmt := inClass (top 22) 1
abbrev s_Plan_per : Stmt := inClass (top 22) 2
abbrev s_l_cell_at : Stmt := top 24
abbrev s_l_whole : Stmt := top 25
abbrev s_l_sizes_by : Stmt := top 26
abbrev s_l_plan_by : Stmt := top 27
abbrev s_l_size_by : Stmt := top 28
abbrev s_l_fullest : Stmt := top 29
abbrev s_l_fresh : Stmt := top 30
abbrev s_l_wished : Stmt := top 31
abbrev s_l_places : Stmt := top 32
abbrev s_l_given : Stmt := top 33
abbrev s_l_gathered_by : Stmt := top 34
abbrev s_l_left : Stmt := top 35
abbrev s_l_told : Stmt := top 36
abbrev s_l_got : Stmt := top 37
abbrev s_l_deed : Stmt := top 38
abbrev s_l_stands : Stmt := top 39
abbrev s_law : Stmt := top 40
def lamPar : Expr → Arguments | .Lambda a _ _ _ => a | _ => ⟨[], [], none, [], [], none, []⟩
def lamBd : Expr → Expr | .Lambda _ b _ _ => b | e => e
def lamSc : Expr → Scope | .Lambda _ _ s _ => s | _ => ⟨.function, [], false, false, []⟩
def kwAt : Stmt → Nat → Expr | .Assign _ (.Call _ _ ks _) _, i => (match ks[i]? with | some k => k.value | none => .Name "" ⟨0, 0, 0, 0⟩) | _, _ => .Name "" ⟨0, 0, 0, 0⟩
def lam1 : Expr := kwAt ((defBody s_Room__move_things).getD 2 (.Pass ⟨0, 0, 0, 0⟩)) 0

structure Txt (A : Ad) (mg : Str → Option Value) where
  f_Shelf_init : Addr
  fd_Shelf_init : FuncData
  F_Shelf_init : Fun A.K "__init__" "Shelf.__init__" s_Shelf_init f_Shelf_init fd_Shelf_init
  b_Shelf_init : Binds A.K fd_Shelf_init ["self", "page", "size", "slots"] []
  mk_Shelf : Mk A.K A.c_Shelf f_Shelf_init
  f_Shelf_out : Addr
  fd_Shelf_out : FuncData
  F_Shelf_out : Fun A.K "out" "Shelf.out" s_Shelf_out f_Shelf_out fd_Shelf_out
  b_Shelf_out : Binds A.K fd_Shelf_out ["self"] []
  m_Shelf_out : Meth A.K A.c_Shelf "out" f_Shelf_out
  f_Shelf_free : Addr
  fd_Shelf_free : FuncData
  F_Shelf_free : Fun A.K "free" "Shelf.free" s_Shelf_free f_Shelf_free fd_Shelf_free
  b_Shelf_free : Binds A.K fd_Shelf_free ["self"] []
  m_Shelf_free : Meth A.K A.c_Shelf "free" f_Shelf_free
  f_Shelf_take : Addr
  fd_Shelf_take : FuncData
  F_Shelf_take : Fun A.K "take" "Shelf.take" s_Shelf_take f_Shelf_take fd_Shelf_take
  b_Shelf_take : Binds A.K fd_Shelf_take ["self"] []
  m_Shelf_take : Meth A.K A.c_Shelf "take" f_Shelf_take
  f_Shelf_give : Addr
  fd_Shelf_give : FuncData
  F_Shelf_give : Fun A.K "give" "Shelf.give" s_Shelf_give f_Shelf_give fd_Shelf_give
  b_Shelf_give : Binds A.K fd_Shelf_give ["self", "slot"] []
  m_Shelf_give : Meth A.K A.c_Shelf "give" f_Shelf_give
  f_fullest_first : Addr
  fd_fullest_first : FuncData
  v_fullest_first : f_fullest_first = A.v_fullest_first
  F_fullest_first : Fun A.K "fullest_first" "fullest_first" s_fullest_first f_fullest_first fd_fullest_first
  b_fullest_first : Binds A.K fd_fullest_first ["shelf"] []
  g_fullest_first : mg "fullest_first" = some (.ref A.v_fullest_first)
  k_fullest_first : PySem.W.keepIn A.K (.ref f_fullest_first) = true
  f_Room_init : Addr
  fd_Room_init : FuncData
  F_Room_init : Fun A.K "__init__" "Room.__init__" s_Room_init f_Room_init fd_Room_init
  b_Room_init : Binds A.K fd_Room_init ["self", "plan"] []
  mk_Room : Mk A.K A.c_Room f_Room_init
  f_Room_wish : Addr
  fd_Room_wish : FuncData
  F_Room_wish : Fun A.K "wish" "Room.wish" s_Room_wish f_Room_wish fd_Room_wish
  b_Room_wish : Binds A.K fd_Room_wish ["self", "places"] []
  m_Room_wish : Meth A.K A.c_Room "wish" f_Room_wish
  f_Room_give_back : Addr
  fd_Room_give_back : FuncData
  F_Room_give_back : Fun A.K "give_back" "Room.give_back" s_Room_give_back f_Room_give_back fd_Room_give_back
  b_Room_give_back : Binds A.K fd_Room_give_back ["self", "place"] []
  m_Room_give_back : Meth A.K A.c_Room "give_back" f_Room_give_back
  f_Room_trim : Addr
  fd_Room_trim : FuncData
  F_Room_trim : Fun A.K "trim" "Room.trim" s_Room_trim f_Room_trim fd_Room_trim
  b_Room_trim : Binds A.K fd_Room_trim ["self"] []
  m_Room_trim : Meth A.K A.c_Room "trim" f_Room_trim
  f_Room_room_for : Addr
  fd_Room_room_for : FuncData
  F_Room_room_for : Fun A.K "room_for" "Room.room_for" s_Room_room_for f_Room_room_for fd_Room_room_for
  b_Room_room_for : Binds A.K fd_Room_room_for ["self", "places"] []
  m_Room_room_for : Meth A.K A.c_Room "room_for" f_Room_room_for
  f_Room_read : Addr
  fd_Room_read : FuncData
  F_Room_read : Fun A.K "read" "Room.read" s_Room_read f_Room_read fd_Room_read
  b_Room_read : Binds A.K fd_Room_read ["self", "place", "step"] []
  m_Room_read : Meth A.K A.c_Room "read" f_Room_read
  f_Room_write : Addr
  fd_Room_write : FuncData
  F_Room_write : Fun A.K "write" "Room.write" s_Room_write f_Room_write fd_Room_write
  b_Room_write : Binds A.K fd_Room_write ["self", "place", "step", "number"] []
  m_Room_write : Meth A.K A.c_Room "write" f_Room_write
  f_Room_gather : Addr
  fd_Room_gather : FuncData
  F_Room_gather : Fun A.K "gather" "Room.gather" s_Room_gather f_Room_gather fd_Room_gather
  b_Room_gather : Binds A.K fd_Room_gather ["self", "size"] []
  m_Room_gather : Meth A.K A.c_Room "gather" f_Room_gather
  f_Room_things : Addr
  fd_Room_things : FuncData
  F_Room_things : Fun A.K "things" "Room.things" s_Room_things f_Room_things fd_Room_things
  b_Room_things : Binds A.K fd_Room_things ["self"] []
  m_Room_things : Meth A.K A.c_Room "things" f_Room_things
  f_Room_shelves : Addr
  fd_Room_shelves : FuncData
  F_Room_shelves : Fun A.K "shelves" "Room.shelves" s_Room_shelves f_Room_shelves fd_Room_shelves
  b_Room_shelves : Binds A.K fd_Room_shelves ["self"] []
  m_Room_shelves : Meth A.K A.c_Room "shelves" f_Room_shelves
  f_Room_pile : Addr
  fd_Room_pile : FuncData
  F_Room_pile : Fun A.K "pile" "Room.pile" s_Room_pile f_Room_pile fd_Room_pile
  b_Room_pile : Binds A.K fd_Room_pile ["self"] []
  m_Room_pile : Meth A.K A.c_Room "pile" f_Room_pile
  f_Room__all : Addr
  fd_Room__all : FuncData
  F_Room__all : Fun A.K "_all" "Room._all" s_Room__all f_Room__all fd_Room__all
  b_Room__all : Binds A.K fd_Room__all ["self"] []
  m_Room__all : Meth A.K A.c_Room "_all" f_Room__all
  f_Room__of_size : Addr
  fd_Room__of_size : FuncData
  F_Room__of_size : Fun A.K "_of_size" "Room._of_size" s_Room__of_size f_Room__of_size fd_Room__of_size
  b_Room__of_size : Binds A.K fd_Room__of_size ["self", "size"] []
  m_Room__of_size : Meth A.K A.c_Room "_of_size" f_Room__of_size
  f_Room__unused : Addr
  fd_Room__unused : FuncData
  F_Room__unused : Fun A.K "_unused" "Room._unused" s_Room__unused f_Room__unused fd_Room__unused
  b_Room__unused : Binds A.K fd_Room__unused ["self"] []
  m_Room__unused : Meth A.K A.c_Room "_unused" f_Room__unused
  f_Room__page_of : Addr
  fd_Room__page_of : FuncData
  F_Room__page_of : Fun A.K "_page_of" "Room._page_of" s_Room__page_of f_Room__page_of fd_Room__page_of
  b_Room__page_of : Binds A.K fd_Room__page_of ["self", "place"] []
  m_Room__page_of : Meth A.K A.c_Room "_page_of" f_Room__page_of
  f_Room__check_out : Addr
  fd_Room__check_out : FuncData
  F_Room__check_out : Fun A.K "_check_out" "Room._check_out" s_Room__check_out f_Room__check_out fd_Room__check_out
  b_Room__check_out : Binds A.K fd_Room__check_out ["self", "place"] []
  m_Room__check_out : Meth A.K A.c_Room "_check_out" f_Room__check_out
  f_Room__check_step : Addr
  fd_Room__check_step : FuncData
  F_Room__check_step : Fun A.K "_check_step" "Room._check_step" s_Room__check_step f_Room__check_step fd_Room__check_step
  b_Room__check_step : Binds A.K fd_Room__check_step ["self", "place", "step"] []
  m_Room__check_step : Meth A.K A.c_Room "_check_step" f_Room__check_step
  f_Room__shelf_for : Addr
  fd_Room__shelf_for : FuncData
  F_Room__shelf_for : Fun A.K "_shelf_for" "Room._shelf_for" s_Room__shelf_for f_Room__shelf_for fd_Room__shelf_for
  b_Room__shelf_for : Binds A.K fd_Room__shelf_for ["self", "size"] []
  m_Room__shelf_for : Meth A.K A.c_Room "_shelf_for" f_Room__shelf_for
  f_Room__page_for_shelf : Addr
  fd_Room__page_for_shelf : FuncData
  F_Room__page_for_shelf : Fun A.K "_page_for_shelf" "Room._page_for_shelf" s_Room__page_for_shelf f_Room__page_for_shelf fd_Room__page_for_shelf
  b_Room__page_for_shelf : Binds A.K fd_Room__page_for_shelf ["self"] []
  m_Room__page_for_shelf : Meth A.K A.c_Room "_page_for_shelf" f_Room__page_for_shelf
  f_Room__take_place : Addr
  fd_Room__take_place : FuncData
  F_Room__take_place : Fun A.K "_take_place" "Room._take_place" s_Room__take_place f_Room__take_place fd_Room__take_place
  b_Room__take_place : Binds A.K fd_Room__take_place ["self", "shelf"] []
  m_Room__take_place : Meth A.K A.c_Room "_take_place" f_Room__take_place
  f_Room__give_back_shelves : Addr
  fd_Room__give_back_shelves : FuncData
  F_Room__give_back_shelves : Fun A.K "_give_back_shelves" "Room._give_back_shelves" s_Room__give_back_shelves f_Room__give_back_shelves fd_Room__give_back_shelves
  b_Room__give_back_shelves : Binds A.K fd_Room__give_back_shelves ["self", "shelves"] []
  m_Room__give_back_shelves : Meth A.K A.c_Room "_give_back_shelves" f_Room__give_back_shelves
  f_Room__move_things : Addr
  fd_Room__move_things : FuncData
  F_Room__move_things : FunC A.K "_move_things" "Room._move_things" s_Room__move_things f_Room__move_things fd_Room__move_things A.lamC
  lamQ_eq : A.lamQ = ("Room._move_things" : Str) ++ ".<locals>." ++ "<lambda>"
  lamO_eq : ∀ f c', A.lamO f c' = LamO A.lamQ (lamPar lam1) (lamSc lam1) (lamBd lam1) f c'
  b_Room__move_things : Binds A.K fd_Room__move_things ["self", "leaving", "staying"] []
  m_Room__move_things : Meth A.K A.c_Room "_move_things" f_Room__move_things
  f_is_whole : Addr
  fd_is_whole : FuncData
  F_is_whole : Fun A.K "is_whole" "is_whole" s_is_whole f_is_whole fd_is_whole
  b_is_whole : Binds A.K fd_is_whole ["number"] []
  g_is_whole : mg "is_whole" = some (.ref f_is_whole)
  k_is_whole : PySem.W.keepIn A.K (.ref f_is_whole) = true
  f_is_within : Addr
  fd_is_within : FuncData
  F_is_within : Fun A.K "is_within" "is_within" s_is_within f_is_within fd_is_within
  b_is_within : Binds A.K fd_is_within ["number", "least", "most"] []
  g_is_within : mg "is_within" = some (.ref f_is_within)
  k_is_within : PySem.W.keepIn A.K (.ref f_is_within) = true
  f_check_sizes : Addr
  fd_check_sizes : FuncData
  F_check_sizes : Fun A.K "check_sizes" "check_sizes" s_check_sizes f_check_sizes fd_check_sizes
  b_check_sizes : Binds A.K fd_check_sizes ["sizes", "length"] []
  g_check_sizes : mg "check_sizes" = some (.ref f_check_sizes)
  k_check_sizes : PySem.W.keepIn A.K (.ref f_check_sizes) = true
  f_Plan_init : Addr
  fd_Plan_init : FuncData
  F_Plan_init : Fun A.K "__init__" "Plan.__init__" s_Plan_init f_Plan_init fd_Plan_init
  b_Plan_init : Binds A.K fd_Plan_init ["self", "pages", "length", "sizes"] []
  mk_Plan : Mk A.K A.c_Plan f_Plan_init
  f_Plan_size_for : Addr
  fd_Plan_size_for : FuncData
  F_Plan_size_for : Fun A.K "size_for" "Plan.size_for" s_Plan_size_for f_Plan_size_for fd_Plan_size_for
  b_Plan_size_for : Binds A.K fd_Plan_size_for ["self", "wish"] []
  m_Plan_size_for : Meth A.K A.c_Plan "size_for" f_Plan_size_for
  f_Plan_per : Addr
  fd_Plan_per : FuncData
  F_Plan_per : Fun A.K "per" "Plan.per" s_Plan_per f_Plan_per fd_Plan_per
  b_Plan_per : Binds A.K fd_Plan_per ["self", "size"] []
  m_Plan_per : Meth A.K A.c_Plan "per" f_Plan_per
  f_l_cell_at : Addr
  fd_l_cell_at : FuncData
  F_l_cell_at : Fun A.K "_law_cell_at" "_law_cell_at" s_l_cell_at f_l_cell_at fd_l_cell_at
  b_l_cell_at : Binds A.K fd_l_cell_at ["_law_script", "_law_k"] []
  g_l_cell_at : mg "_law_cell_at" = some (.ref f_l_cell_at)
  k_l_cell_at : PySem.W.keepIn A.K (.ref f_l_cell_at) = true
  f_l_whole : Addr
  fd_l_whole : FuncData
  F_l_whole : Fun A.K "_law_whole" "_law_whole" s_l_whole f_l_whole fd_l_whole
  b_l_whole : Binds A.K fd_l_whole ["_law_found"] []
  g_l_whole : mg "_law_whole" = some (.ref f_l_whole)
  k_l_whole : PySem.W.keepIn A.K (.ref f_l_whole) = true
  f_l_sizes_by : Addr
  fd_l_sizes_by : FuncData
  F_l_sizes_by : Fun A.K "_law_sizes_by" "_law_sizes_by" s_l_sizes_by f_l_sizes_by fd_l_sizes_by
  b_l_sizes_by : Binds A.K fd_l_sizes_by ["_law_cell", "_law_length", "_law_many"] []
  g_l_sizes_by : mg "_law_sizes_by" = some (.ref f_l_sizes_by)
  k_l_sizes_by : PySem.W.keepIn A.K (.ref f_l_sizes_by) = true
  f_l_plan_by : Addr
  fd_l_plan_by : FuncData
  F_l_plan_by : Fun A.K "_law_plan_by" "_law_plan_by" s_l_plan_by f_l_plan_by fd_l_plan_by
  b_l_plan_by : Binds A.K fd_l_plan_by ["_law_script"] []
  g_l_plan_by : mg "_law_plan_by" = some (.ref f_l_plan_by)
  k_l_plan_by : PySem.W.keepIn A.K (.ref f_l_plan_by) = true
  f_l_size_by : Addr
  fd_l_size_by : FuncData
  F_l_size_by : Fun A.K "_law_size_by" "_law_size_by" s_l_size_by f_l_size_by fd_l_size_by
  b_l_size_by : Binds A.K fd_l_size_by ["_law_sizes", "_law_wish"] []
  g_l_size_by : mg "_law_size_by" = some (.ref f_l_size_by)
  k_l_size_by : PySem.W.keepIn A.K (.ref f_l_size_by) = true
  f_l_fullest : Addr
  fd_l_fullest : FuncData
  F_l_fullest : Fun A.K "_law_fullest" "_law_fullest" s_l_fullest f_l_fullest fd_l_fullest
  b_l_fullest : Binds A.K fd_l_fullest ["_law_model", "_law_size"] []
  g_l_fullest : mg "_law_fullest" = some (.ref f_l_fullest)
  k_l_fullest : PySem.W.keepIn A.K (.ref f_l_fullest) = true
  f_l_fresh : Addr
  fd_l_fresh : FuncData
  F_l_fresh : Fun A.K "_law_fresh" "_law_fresh" s_l_fresh f_l_fresh fd_l_fresh
  b_l_fresh : Binds A.K fd_l_fresh ["_law_model", "_law_pages"] []
  g_l_fresh : mg "_law_fresh" = some (.ref f_l_fresh)
  k_l_fresh : PySem.W.keepIn A.K (.ref f_l_fresh) = true
  f_l_wished : Addr
  fd_l_wished : FuncData
  F_l_wished : Fun A.K "_law_wished" "_law_wished" s_l_wished f_l_wished fd_l_wished
  b_l_wished : Binds A.K fd_l_wished ["_law_model", "_law_drawn", "_law_wish"] []
  g_l_wished : mg "_law_wished" = some (.ref f_l_wished)
  k_l_wished : PySem.W.keepIn A.K (.ref f_l_wished) = true
  f_l_places : Addr
  fd_l_places : FuncData
  F_l_places : Fun A.K "_law_places" "_law_places" s_l_places f_l_places fd_l_places
  b_l_places : Binds A.K fd_l_places ["_law_model", "_law_length"] []
  g_l_places : mg "_law_places" = some (.ref f_l_places)
  k_l_places : PySem.W.keepIn A.K (.ref f_l_places) = true
  f_l_given : Addr
  fd_l_given : FuncData
  F_l_given : Fun A.K "_law_given" "_law_given" s_l_given f_l_given fd_l_given
  b_l_given : Binds A.K fd_l_given ["_law_model", "_law_length", "_law_place"] []
  g_l_given : mg "_law_given" = some (.ref f_l_given)
  k_l_given : PySem.W.keepIn A.K (.ref f_l_given) = true
  f_l_gathered_by : Addr
  fd_l_gathered_by : FuncData
  F_l_gathered_by : Fun A.K "_law_gathered_by" "_law_gathered_by" s_l_gathered_by f_l_gathered_by fd_l_gathered_by
  b_l_gathered_by : Binds A.K fd_l_gathered_by ["_law_model", "_law_length", "_law_size"] []
  g_l_gathered_by : mg "_law_gathered_by" = some (.ref f_l_gathered_by)
  k_l_gathered_by : PySem.W.keepIn A.K (.ref f_l_gathered_by) = true
  f_l_left : Addr
  fd_l_left : FuncData
  F_l_left : Fun A.K "_law_left" "_law_left" s_l_left f_l_left fd_l_left
  b_l_left : Binds A.K fd_l_left ["_law_model", "_law_drawn", "_law_size"] []
  g_l_left : mg "_law_left" = some (.ref f_l_left)
  k_l_left : PySem.W.keepIn A.K (.ref f_l_left) = true
  f_l_told : Addr
  fd_l_told : FuncData
  F_l_told : Fun A.K "_law_told" "_law_told" s_l_told f_l_told fd_l_told
  b_l_told : Binds A.K fd_l_told ["_law_room", "_law_model", "_law_drawn", "_law_wish"] []
  g_l_told : mg "_law_told" = some (.ref f_l_told)
  k_l_told : PySem.W.keepIn A.K (.ref f_l_told) = true
  f_l_got : Addr
  fd_l_got : FuncData
  F_l_got : Fun A.K "_law_got" "_law_got" s_l_got f_l_got fd_l_got
  b_l_got : Binds A.K fd_l_got ["_law_room", "_law_wish"] []
  g_l_got : mg "_law_got" = some (.ref f_l_got)
  k_l_got : PySem.W.keepIn A.K (.ref f_l_got) = true
  f_l_deed : Addr
  fd_l_deed : FuncData
  F_l_deed : Fun A.K "_law_deed" "_law_deed" s_l_deed f_l_deed fd_l_deed
  b_l_deed : Binds A.K fd_l_deed ["_law_room", "_law_model", "_law_drawn", "_law_kept", "_law_cell"] []
  g_l_deed : mg "_law_deed" = some (.ref f_l_deed)
  k_l_deed : PySem.W.keepIn A.K (.ref f_l_deed) = true
  f_l_stands : Addr
  fd_l_stands : FuncData
  F_l_stands : Fun A.K "_law_stands" "_law_stands" s_l_stands f_l_stands fd_l_stands
  b_l_stands : Binds A.K fd_l_stands ["_law_room", "_law_model", "_law_drawn", "_law_kept"] []
  g_l_stands : mg "_law_stands" = some (.ref f_l_stands)
  k_l_stands : PySem.W.keepIn A.K (.ref f_l_stands) = true
  f_law : Addr
  fd_law : FuncData
  F_law : Fun A.K "law" "law" s_law f_law fd_law
  b_law : Binds A.K fd_law ["_law_script"] []
  g_law : mg "law" = some (.ref f_law)
  k_law : PySem.W.keepIn A.K (.ref f_law) = true
  cl_Shelf : Cls A.K A.c_Shelf
  g_Shelf : mg "Shelf" = some (.ref A.c_Shelf)
  cl_Room : Cls A.K A.c_Room
  g_Room : mg "Room" = some (.ref A.c_Room)
  cl_Plan : Cls A.K A.c_Plan
  g_Plan : mg "Plan" = some (.ref A.c_Plan)
  na : NA A
  g_RoomError : mg "RoomError" = some (.ref A.c_RoomError)
  x_RoomError : PySem.W.excIn A.K A.c_RoomError [.type "ValueError", .type "Exception", .type "BaseException", .type "object"] "ValueError.__new__" = true
  k_RoomError : PySem.W.keepIn A.K (.ref A.c_RoomError) = true
  bs_RoomError : PySem.W.subIn A.K (.ref A.c_RoomError) (.type "BaseException") = some true
  ty_RoomError : PySem.W.typeIn A.K (.ref A.c_RoomError) = some (.type "type")
  g_BadPlan : mg "BadPlan" = some (.ref A.c_BadPlan)
  x_BadPlan : PySem.W.excIn A.K A.c_BadPlan [.type "ValueError", .type "Exception", .type "BaseException", .type "object"] "ValueError.__new__" = true
  k_BadPlan : PySem.W.keepIn A.K (.ref A.c_BadPlan) = true
  bs_BadPlan : PySem.W.subIn A.K (.ref A.c_BadPlan) (.type "BaseException") = some true
  ty_BadPlan : PySem.W.typeIn A.K (.ref A.c_BadPlan) = some (.type "type")
  g_BadWish : mg "BadWish" = some (.ref A.c_BadWish)
  x_BadWish : PySem.W.excIn A.K A.c_BadWish [.type "ValueError", .type "Exception", .type "BaseException", .type "object"] "ValueError.__new__" = true
  k_BadWish : PySem.W.keepIn A.K (.ref A.c_BadWish) = true
  bs_BadWish : PySem.W.subIn A.K (.ref A.c_BadWish) (.type "BaseException") = some true
  ty_BadWish : PySem.W.typeIn A.K (.ref A.c_BadWish) = some (.type "type")
  g_TooLarge : mg "TooLarge" = some (.ref A.c_TooLarge)
  x_TooLarge : PySem.W.excIn A.K A.c_TooLarge [.type "ValueError", .type "Exception", .type "BaseException", .type "object"] "ValueError.__new__" = true
  k_TooLarge : PySem.W.keepIn A.K (.ref A.c_TooLarge) = true
  bs_TooLarge : PySem.W.subIn A.K (.ref A.c_TooLarge) (.type "BaseException") = some true
  ty_TooLarge : PySem.W.typeIn A.K (.ref A.c_TooLarge) = some (.type "type")
  g_NoSize : mg "NoSize" = some (.ref A.c_NoSize)
  x_NoSize : PySem.W.excIn A.K A.c_NoSize [.type "ValueError", .type "Exception", .type "BaseException", .type "object"] "ValueError.__new__" = true
  k_NoSize : PySem.W.keepIn A.K (.ref A.c_NoSize) = true
  bs_NoSize : PySem.W.subIn A.K (.ref A.c_NoSize) (.type "BaseException") = some true
  ty_NoSize : PySem.W.typeIn A.K (.ref A.c_NoSize) = some (.type "type")
  g_NoRoom : mg "NoRoom" = some (.ref A.c_NoRoom)
  x_NoRoom : PySem.W.excIn A.K A.c_NoRoom [.type "ValueError", .type "Exception", .type "BaseException", .type "object"] "ValueError.__new__" = true
  k_NoRoom : PySem.W.keepIn A.K (.ref A.c_NoRoom) = true
  bs_NoRoom : PySem.W.subIn A.K (.ref A.c_NoRoom) (.type "BaseException") = some true
  ty_NoRoom : PySem.W.typeIn A.K (.ref A.c_NoRoom) = some (.type "type")
  g_NotOut : mg "NotOut" = some (.ref A.c_NotOut)
  x_NotOut : PySem.W.excIn A.K A.c_NotOut [.type "ValueError", .type "Exception", .type "BaseException", .type "object"] "ValueError.__new__" = true
  k_NotOut : PySem.W.keepIn A.K (.ref A.c_NotOut) = true
  bs_NotOut : PySem.W.subIn A.K (.ref A.c_NotOut) (.type "BaseException") = some true
  ty_NotOut : PySem.W.typeIn A.K (.ref A.c_NotOut) = some (.type "type")
  g_OutOfThing : mg "OutOfThing" = some (.ref A.c_OutOfThing)
  x_OutOfThing : PySem.W.excIn A.K A.c_OutOfThing [.type "ValueError", .type "Exception", .type "BaseException", .type "object"] "ValueError.__new__" = true
  k_OutOfThing : PySem.W.keepIn A.K (.ref A.c_OutOfThing) = true
  bs_OutOfThing : PySem.W.subIn A.K (.ref A.c_OutOfThing) (.type "BaseException") = some true
  ty_OutOfThing : PySem.W.typeIn A.K (.ref A.c_OutOfThing) = some (.type "type")
  n_bool : mg "bool" = none
  n_enumerate : mg "enumerate" = none
  n_int : mg "int" = none
  n_isinstance : mg "isinstance" = none
  n_len : mg "len" = none
  n_list : mg "list" = none
  n_min : mg "min" = none
  n_range : mg "range" = none
  n_sorted : mg "sorted" = none
  n_sum : mg "sum" = none
  h_heappop : mg "heappop" = some (.builtin "_heapq.heappop")
  h_heappush : mg "heappush" = some (.builtin "_heapq.heappush")
  tk_MOST_LENGTH : Tok
  v_MOST_LENGTH : mg "MOST_LENGTH" = some (.int 60 tk_MOST_LENGTH)
  tk_MOST_PAGES : Tok
  v_MOST_PAGES : mg "MOST_PAGES" = some (.int 40 tk_MOST_PAGES)
  tk_MOST_SIZES : Tok
  v_MOST_SIZES : mg "MOST_SIZES" = some (.int 8 tk_MOST_SIZES)

theorem sc_Shelf_init : FnScope ["self", "page", "size", "slots"] ["self", "page", "size", "slots"] (defScope s_Shelf_init) := ⟨rfl, rfl, rfl, by decide +kernel, rfl, by decide +kernel, by decide +kernel⟩
theorem sc_Shelf_out : FnScope ["self"] ["self"] (defScope s_Shelf_out) := ⟨rfl, rfl, rfl, by decide +kernel, rfl, by decide +kernel, by decide +kernel⟩
theorem sc_Shelf_free : FnScope ["self"] ["self"] (defScope s_Shelf_free) := ⟨rfl, rfl, rfl, by decide +kernel, rfl, by decide +kernel, by decide +kernel⟩
theorem sc_Shelf_take : FnScope ["self", "slot"] ["self"] (defScope s_Shelf_take) := ⟨rfl, rfl, rfl, by decide +kernel, rfl, by decide +kernel, by decide +kernel⟩
theorem sc_Shelf_give : FnScope ["self", "slot"] ["self", "slot"] (defScope s_Shelf_give) := ⟨rfl, rfl, rfl, by decide +kernel, rfl, by decide +kernel, by decide +kernel⟩
theorem sc_fullest_first : FnScope ["shelf"] ["shelf"] (defScope s_fullest_first) := ⟨rfl, rfl, rfl, by decide +kernel, rfl, by decide +kernel, by decide +kernel⟩
theorem sc_Room_init : FnScope ["self", "plan"] ["self", "plan"] (defScope s_Room_init) := ⟨rfl, rfl, rfl, by decide +kernel, rfl, by decide +kernel, by decide +kernel⟩
theorem sc_Room_wish : FnScope ["self", "places", "size", "place"] ["self", "places"] (defScope s_Room_wish) := ⟨rfl, rfl, rfl, by decide +kernel, rfl, by decide +kernel, by decide +kernel⟩
theorem sc_Room_give_back : FnScope ["self", "place", "shelf", "begin", "unused", "other"] ["self", "place"] (defScope s_Room_give_back) := ⟨rfl, rfl, rfl, by decide +kernel, rfl, by decide +kernel, by decide +kernel⟩
theorem sc_Room_trim : FnScope ["self", "unused"] ["self"] (defScope s_Room_trim) := ⟨rfl, rfl, rfl, by decide +kernel, rfl, by decide +kernel, by decide +kernel⟩
theorem sc_Room_room_for : FnScope ["self", "places", "size", "slots", "others", "pages", "shelf"] ["self", "places"] (defScope s_Room_room_for) := ⟨rfl, rfl, rfl, by decide +kernel, rfl, by decide +kernel, by decide +kernel⟩
theorem sc_Room_read : FnScope ["self", "place", "step"] ["self", "place", "step"] (defScope s_Room_read) := ⟨rfl, rfl, rfl, by decide +kernel, rfl, by decide +kernel, by decide +kernel⟩
theorem sc_Room_write : FnScope ["self", "place", "step", "number"] ["self", "place", "step", "number"] (defScope s_Room_write) := ⟨rfl, rfl, rfl, by decide +kernel, rfl, by decide +kernel, by decide +kernel⟩
theorem sc_Room_gather : FnScope ["self", "size", "per", "shelves", "things", "needed", "staying", "leaving", "moves", "shelf"] ["self", "size"] (defScope s_Room_gather) := ⟨rfl, rfl, rfl, by decide +kernel, rfl, by decide +kernel, by decide +kernel⟩
theorem sc_Room_things : FnScope ["self", "place"] ["self"] (defScope s_Room_things) := ⟨rfl, rfl, rfl, by decide +kernel, rfl, by decide +kernel, by decide +kernel⟩
theorem sc_Room_shelves : FnScope ["self", "shelf"] ["self"] (defScope s_Room_shelves) := ⟨rfl, rfl, rfl, by decide +kernel, rfl, by decide +kernel, by decide +kernel⟩
theorem sc_Room_pile : FnScope ["self", "page"] ["self"] (defScope s_Room_pile) := ⟨rfl, rfl, rfl, by decide +kernel, rfl, by decide +kernel, by decide +kernel⟩
theorem sc_Room__all : FnScope ["self", "page"] ["self"] (defScope s_Room__all) := ⟨rfl, rfl, rfl, by decide +kernel, rfl, by decide +kernel, by decide +kernel⟩
theorem sc_Room__of_size : FnScope ["self", "size", "shelf"] ["self", "size"] (defScope s_Room__of_size) := ⟨rfl, rfl, rfl, by decide +kernel, rfl, by decide +kernel, by decide +kernel⟩
theorem sc_Room__unused : FnScope ["self", "shelf"] ["self"] (defScope s_Room__unused) := ⟨rfl, rfl, rfl, by decide +kernel, rfl, by decide +kernel, by decide +kernel⟩
theorem sc_Room__page_of : FnScope ["self", "place"] ["self", "place"] (defScope s_Room__page_of) := ⟨rfl, rfl, rfl, by decide +kernel, rfl, by decide +kernel, by decide +kernel⟩
theorem sc_Room__check_out : FnScope ["self", "place"] ["self", "place"] (defScope s_Room__check_out) := ⟨rfl, rfl, rfl, by decide +kernel, rfl, by decide +kernel, by decide +kernel⟩
theorem sc_Room__check_step : FnScope ["self", "place", "step"] ["self", "place", "step"] (defScope s_Room__check_step) := ⟨rfl, rfl, rfl, by decide +kernel, rfl, by decide +kernel, by decide +kernel⟩
theorem sc_Room__shelf_for : FnScope ["self", "size", "shelves", "page", "shelf"] ["self", "size"] (defScope s_Room__shelf_for) := ⟨rfl, rfl, rfl, by decide +kernel, rfl, by decide +kernel, by decide +kernel⟩
theorem sc_Room__page_for_shelf : FnScope ["self", "pages", "shelf"] ["self"] (defScope s_Room__page_for_shelf) := ⟨rfl, rfl, rfl, by decide +kernel, rfl, by decide +kernel, by decide +kernel⟩
theorem sc_Room__take_place : FnScope ["self", "shelf"] ["self", "shelf"] (defScope s_Room__take_place) := ⟨rfl, rfl, rfl, by decide +kernel, rfl, by decide +kernel, by decide +kernel⟩
theorem sc_Room__give_back_shelves : FnScope ["self", "shelves", "shelf"] ["self", "shelves"] (defScope s_Room__give_back_shelves) := ⟨rfl, rfl, rfl, by decide +kernel, rfl, by decide +kernel, by decide +kernel⟩
theorem sc_Room__move_things : FnScope ["self", "leaving", "staying", "pages", "place", "places", "rising", "moves", "with_room", "new", "shelf"] ["self", "leaving", "staying"] (defScope s_Room__move_things) := ⟨rfl, rfl, rfl, by decide +kernel, rfl, by decide +kernel, by decide +kernel⟩
theorem sc_is_whole : FnScope ["number"] ["number"] (defScope s_is_whole) := ⟨rfl, rfl, rfl, by decide +kernel, rfl, by decide +kernel, by decide +kernel⟩
theorem sc_is_within : FnScope ["number", "least", "most"] ["number", "least", "most"] (defScope s_is_within) := ⟨rfl, rfl, rfl, by decide +kernel, rfl, by decide +kernel, by decide +kernel⟩
theorem sc_check_sizes : FnScope ["sizes", "length", "ahead", "size"] ["sizes", "length"] (defScope s_check_sizes) := ⟨rfl, rfl, rfl, by decide +kernel, rfl, by decide +kernel, by decide +kernel⟩
theorem sc_Plan_init : FnScope ["self", "pages", "length", "sizes"] ["self", "pages", "length", "sizes"] (defScope s_Plan_init) := ⟨rfl, rfl, rfl, by decide +kernel, rfl, by decide +kernel, by decide +kernel⟩
theorem sc_Plan_size_for : FnScope ["self", "wish", "size"] ["self", "wish"] (defScope s_Plan_size_for) := ⟨rfl, rfl, rfl, by decide +kernel, rfl, by decide +kernel, by decide +kernel⟩
theorem sc_Plan_per : FnScope ["self", "size"] ["self", "size"] (defScope s_Plan_per) := ⟨rfl, rfl, rfl, by decide +kernel, rfl, by decide +kernel, by decide +kernel⟩
theorem sc_l_cell_at : FnScope ["_law_script", "_law_k"] ["_law_script", "_law_k"] (defScope s_l_cell_at) := ⟨rfl, rfl, rfl, by decide +kernel, rfl, by decide +kernel, by decide +kernel⟩
theorem sc_l_whole : FnScope ["_law_found"] ["_law_found"] (defScope s_l_whole) := ⟨rfl, rfl, rfl, by decide +kernel, rfl, by decide +kernel, by decide +kernel⟩
theorem sc_l_sizes_by : FnScope ["_law_cell", "_law_length", "_law_many", "_law_found", "_law_before", "_law_rest", "_law_span", "_law_turn"] ["_law_cell", "_law_length", "_law_many"] (defScope s_l_sizes_by) := ⟨rfl, rfl, rfl, by decide +kernel, rfl, by decide +kernel, by decide +kernel⟩
theorem sc_l_plan_by : FnScope ["_law_script", "_law_first", "_law_second", "_law_pages", "_law_length"] ["_law_script"] (defScope s_l_plan_by) := ⟨rfl, rfl, rfl, by decide +kernel, rfl, by decide +kernel, by decide +kernel⟩
theorem sc_l_size_by : FnScope ["_law_sizes", "_law_wish", "_law_size"] ["_law_sizes", "_law_wish"] (defScope s_l_size_by) := ⟨rfl, rfl, rfl, by decide +kernel, rfl, by decide +kernel, by decide +kernel⟩
theorem sc_l_fullest : FnScope ["_law_model", "_law_size", "_law_best", "_law_page", "_law_row"] ["_law_model", "_law_size"] (defScope s_l_fullest) := ⟨rfl, rfl, rfl, by decide +kernel, rfl, by decide +kernel, by decide +kernel⟩
theorem sc_l_fresh : FnScope ["_law_model", "_law_pages", "_law_bare", "_law_empty", "_law_page"] ["_law_model", "_law_pages"] (defScope s_l_fresh) := ⟨rfl, rfl, rfl, by decide +kernel, rfl, by decide +kernel, by decide +kernel⟩
theorem sc_l_wished : FnScope ["_law_model", "_law_drawn", "_law_wish", "_law_size", "_law_page", "_law_slot"] ["_law_model", "_law_drawn", "_law_wish"] (defScope s_l_wished) := ⟨rfl, rfl, rfl, by decide +kernel, rfl, by decide +kernel, by decide +kernel⟩
theorem sc_l_places : FnScope ["_law_model", "_law_length", "_law_found", "_law_page", "_law_row", "_law_slot"] ["_law_model", "_law_length"] (defScope s_l_places) := ⟨rfl, rfl, rfl, by decide +kernel, rfl, by decide +kernel, by decide +kernel⟩
theorem sc_l_given : FnScope ["_law_model", "_law_length", "_law_place", "_law_page", "_law_row", "_law_empty", "_law_one"] ["_law_model", "_law_length", "_law_place"] (defScope s_l_given) := ⟨rfl, rfl, rfl, by decide +kernel, rfl, by decide +kernel, by decide +kernel⟩
theorem sc_l_gathered_by : FnScope ["_law_model", "_law_length", "_law_size", "_law_page", "_law_pages", "_law_slots", "_law_needed", "_law_ranked", "_law_stay", "_law_moves", "_law_slot", "_law_goal", "_law_there", "_law_pair", "_law_one"] ["_law_model", "_law_length", "_law_size"] (defScope s_l_gathered_by) := ⟨rfl, rfl, rfl, by decide +kernel, rfl, by decide +kernel, by decide +kernel⟩
theorem sc_l_left : FnScope ["_law_model", "_law_drawn", "_law_size", "_law_left_here", "_law_page"] ["_law_model", "_law_drawn", "_law_size"] (defScope s_l_left) := ⟨rfl, rfl, rfl, by decide +kernel, rfl, by decide +kernel, by decide +kernel⟩
theorem sc_l_told : FnScope ["_law_room", "_law_model", "_law_drawn", "_law_wish", "_law_size", "_law_found"] ["_law_room", "_law_model", "_law_drawn", "_law_wish"] (defScope s_l_told) := ⟨rfl, rfl, rfl, by decide +kernel, rfl, by decide +kernel, by decide +kernel⟩
theorem sc_l_got : FnScope ["_law_room", "_law_wish"] ["_law_room", "_law_wish"] (defScope s_l_got) := ⟨rfl, rfl, rfl, by decide +kernel, rfl, by decide +kernel, by decide +kernel⟩
theorem sc_l_deed : FnScope ["_law_room", "_law_model", "_law_drawn", "_law_kept", "_law_cell", "_law_more", "_law_many", "_law_turn", "_law_found", "_law_places_here", "_law_place", "_law_size", "_law_page", "_law_empty"] ["_law_room", "_law_model", "_law_drawn", "_law_kept", "_law_cell"] (defScope s_l_deed) := ⟨rfl, rfl, rfl, by decide +kernel, rfl, by decide +kernel, by decide +kernel⟩
theorem sc_l_stands : FnScope ["_law_room", "_law_model", "_law_drawn", "_law_kept", "_law_one", "_law_copy", "_law_shelves", "_law_pile", "_law_found", "_law_page"] ["_law_room", "_law_model", "_law_drawn", "_law_kept"] (defScope s_l_stands) := ⟨rfl, rfl, rfl, by decide +kernel, rfl, by decide +kernel, by decide +kernel⟩
theorem sc_law : FnScope ["_law_script", "_law_drawn", "_law_plan", "_law_rooms", "_law_models", "_law_kept", "_law_k", "_law_cell", "_law_which", "_law_room", "_law_model"] ["_law_script"] (defScope s_law) := ⟨rfl, rfl, rfl, by decide +kernel, rfl, by decide +kernel, by decide +kernel⟩
section
variable {P : Program} {w : World} {A : Ad} {mg : Str → Option Value} {base : Heap}
theorem ok_Shelf_init (T : Txt A mg) : FnOk P w A.K mg base CX0 1 T.f_Shelf_init T.fd_Shelf_init ["self", "page", "size", "slots"] (sp_Shelf_init A) := by
  refine T.F_Shelf_init.ok sc_Shelf_init (fun vs H Q E h => len_Shelf_init A h) (fun cdv Ar outer s H vs Q E hr h => ⟨t_Shelf_init A E, ?_, pure_Shelf_init A T.na vs H Q E h⟩)
  have hu64 := hr.units
  have hu65 := hu65_of hr
  have hu1 := hu_of hr
  exact (pss_cons (ps_fld (pv 0) (pv 1) rfl)
  (pss_cons (ps_fld (pv 0) (pv 2) rfl)
  (pss_cons (ps_fld (pv 0) (pe_listRg rfl (by rfl) T.n_list (prg_1 (by rfl) T.n_range (pv 3))) rfl)
  (pss_one (ps_fld (pv 0) pe_dnewK rfl)))))
theorem ok_Shelf_out (T : Txt A mg) : FnOk P w A.K mg base CX0 1 T.f_Shelf_out T.fd_Shelf_out ["self"] (sp_Shelf_out A) := by
  refine T.F_Shelf_out.ok sc_Shelf_out (fun vs H Q E h => len_Shelf_out A h) (fun cdv Ar outer s H vs Q E hr h => ⟨t_Shelf_out A E, ?_, pure_Shelf_out A T.na vs H Q E h⟩)
  have hu64 := hr.units
  have hu65 := hu65_of hr
  have hu1 := hu_of hr
  exact (pss_one (ps_ret (by exact (pe_callB call_lenDA (by rfl) T.n_len (by decide +kernel) (pa_cons (pe_fld (pv 0) rfl) pa_nil)))))
theorem ok_Shelf_free (T : Txt A mg) : FnOk P w A.K mg base CX0 1 T.f_Shelf_free T.fd_Shelf_free ["self"] (sp_Shelf_free A) := by
  refine T.F_Shelf_free.ok sc_Shelf_free (fun vs H Q E h => len_Shelf_free A h) (fun cdv Ar outer s H vs Q E hr h => ⟨t_Shelf_free A E, ?_, pure_Shelf_free A T.na vs H Q E h⟩)
  have hu64 := hr.units
  have hu65 := hu65_of hr
  have hu1 := hu_of hr
  exact (pss_one (ps_ret (by exact (pe_callB (call_sortedA rfl) (by rfl) T.n_sorted (by decide +kernel) (pa_cons (pe_fld (pv 0) rfl) pa_nil)))))
theorem ok_Room_init (T : Txt A mg) : FnOk P w A.K mg base CX0 1 T.f_Room_init T.fd_Room_init ["self", "plan"] (sp_Room_init A) := by
  refine T.F_Room_init.ok sc_Room_init (fun vs H Q E h => len_Room_init A h) (fun cdv Ar outer s H vs Q E hr h => ⟨t_Room_init A E, ?_, pure_Room_init A T.na vs H Q E h⟩)
  have hu64 := hr.units
  have hu65 := hu65_of hr
  have hu1 := hu_of hr
  exact (pss_cons (ps_fld (pv 0) (pv 1) rfl)
  (pss_cons (ps_fld (pv 0) pe_dnewK rfl)
  (pss_one (ps_fld (pv 0) pe_dnewK rfl))))
theorem ok_Room_things (T : Txt A mg) : FnOk P w A.K mg base CX0 1 T.f_Room_things T.fd_Room_things ["self"] (sp_Room_things A) := by
  refine T.F_Room_things.ok sc_Room_things (fun vs H Q E h => len_Room_things A h) (fun cdv Ar outer s H vs Q E hr h => ⟨t_Room_things A E, ?_, pure_Room_things A T.na vs H Q E h⟩)
  have hu64 := hr.units
  have hu65 := hu65_of hr
  have hu1 := hu_of hr
  exact (pss_one (ps_ret (by exact (pe_callB (call_sortedA rfl) (by rfl) T.n_sorted (by decide +kernel) (pa_cons (pe_lock (pe_lc (own := [("place", 1)]) (g := (gName 1)) (tt := tYes) rfl sc_Room_things.nd (pi_keys (pe_fld (pv 0) rfl)) (blkOk_by (own := [("place", 1)]) (N := ["self", "place"]) (sc := defScope s_Room_things) (by decide +kernel)) (fun _ _ _ _ _ => (pg_name (i := 1) sc_Room_things.nd rfl (Or.inl rfl))) (fun _ _ _ _ _ => pts_nil) (fun _ _ _ _ _ => (pe_tup (pa_cons (pv 1) (pa_cons (pe_callB call_lenA (by rfl) T.n_len (by decide +kernel) (pa_cons (pe_dget hu1 (pe_fld (pv 0) rfl) (pv 1) (fun _ _ => rfl)) pa_nil)) pa_nil)))))) pa_nil)))))
theorem ok_Room_pile (T : Txt A mg) : FnOk P w A.K mg base CX0 1 T.f_Room_pile T.fd_Room_pile ["self"] (sp_Room_pile A) := by
  refine T.F_Room_pile.ok sc_Room_pile (fun vs H Q E h => len_Room_pile A h) (fun cdv Ar outer s H vs Q E hr h => ⟨t_Room_pile A E, ?_, pure_Room_pile A T.na vs H Q E h⟩)
  have hu64 := hr.units
  have hu65 := hu65_of hr
  have hu1 := hu_of hr
  exact (pss_one (ps_ret (by exact (pe_lc (own := [("page", 1)]) (g := (gName 1)) (tt := (tB (tDNotIn (tVar 1) (tFld A.K (tVar 0) "_shelves")))) rfl sc_Room_pile.nd (pi_range1 (by rfl) T.n_range (pa_cons (pe_fld (pe_fld (pv 0) rfl) rfl) pa_nil)) (blkOk_by (own := [("page", 1)]) (N := ["self", "page"]) (sc := defScope s_Room_pile) (by decide +kernel)) (fun _ _ _ _ _ => (pg_name (i := 1) sc_Room_pile.nd rfl (Or.inl rfl))) (fun _ _ _ _ _ => (pts_one (pt_cmp (pc_dnotin hu1 (pv 1) (pe_fld (pv 0) rfl)) (by rfl)))) (fun _ _ _ _ _ => (pv 1))))))
theorem ok_Room__all (T : Txt A mg) : FnOk P w A.K mg base CX0 1 T.f_Room__all T.fd_Room__all ["self"] (sp_Room__all A) := by
  refine T.F_Room__all.ok sc_Room__all (fun vs H Q E h => len_Room__all A h) (fun cdv Ar outer s H vs Q E hr h => ⟨t_Room__all A E, ?_, pure_Room__all A T.na vs H Q E h⟩)
  have hu64 := hr.units
  have hu65 := hu65_of hr
  have hu1 := hu_of hr
  exact (pss_one (ps_ret (by exact (pe_lc (own := [("page", 1)]) (g := (gName 1)) (tt := tYes) rfl sc_Room__all.nd (pi_list (pe_callB (call_sortedA rfl) (by rfl) T.n_sorted (by decide +kernel) (pa_cons (pe_fld (pv 0) rfl) pa_nil))) (blkOk_by (own := [("page", 1)]) (N := ["self", "page"]) (sc := defScope s_Room__all) (by decide +kernel)) (fun _ _ _ _ _ => (pg_name (i := 1) sc_Room__all.nd rfl (Or.inl rfl))) (fun _ _ _ _ _ => pts_nil) (fun _ _ _ _ _ => (pe_dget hu1 (pe_fld (pv 0) rfl) (pv 1) (fun _ _ => rfl)))))))
theorem ok_Room__page_of (T : Txt A mg) : FnOk P w A.K mg base CX0 1 T.f_Room__page_of T.fd_Room__page_of ["self", "place"] (sp_Room__page_of A) := by
  refine T.F_Room__page_of.ok sc_Room__page_of (fun vs H Q E h => len_Room__page_of A h) (fun cdv Ar outer s H vs Q E hr h => ⟨t_Room__page_of A E, ?_, pure_Room__page_of A T.na vs H Q E h⟩)
  have hu64 := hr.units
  have hu65 := hu65_of hr
  have hu1 := hu_of hr
  exact (pss_one (ps_ret (by exact (pe_op op_divA (pv 1) (pe_fld (pe_fld (pv 0) rfl) rfl)))))
theorem ok_Room__give_back_shelves (T : Txt A mg) : FnOk P w A.K mg base CX0 1 T.f_Room__give_back_shelves T.fd_Room__give_back_shelves ["self", "shelves"] (sp_Room__give_back_shelves A) := by
  refine T.F_Room__give_back_shelves.ok sc_Room__give_back_shelves (fun vs H Q E h => len_Room__give_back_shelves A h) (fun cdv Ar outer s H vs Q E hr h => ⟨t_Room__give_back_shelves A E, ?_, pure_Room__give_back_shelves A T.na vs H Q E h⟩)
  have hu64 := hr.units
  have hu65 := hu65_of hr
  have hu1 := hu_of hr
  exact (pss_one (ps_for PassesOwn.never rfl (pi_list (pv 1)) (pg_name (i := 2) sc_Room__give_back_shelves.nd rfl (Or.inl rfl))
    (pss_one (ps_ddel (pe_fld (pv 0) rfl) (pe_fld (pv 2) rfl)))))
theorem ok_is_whole (T : Txt A mg) : FnOk P w A.K mg base CX0 1 T.f_is_whole T.fd_is_whole ["number"] (sp_is_whole A) := by
  refine T.F_is_whole.ok sc_is_whole (fun vs H Q E h => len_is_whole A h) (fun cdv Ar outer s H vs Q E hr h => ⟨t_is_whole A E, ?_, pure_is_whole A T.na vs H Q E h⟩)
  have hu64 := hr.units
  have hu65 := hu65_of hr
  have hu1 := hu_of hr
  exact (pss_one (ps_ret (by exact (pe_and (pe_callB call_isi (by rfl) T.n_isinstance (by decide +kernel) (pa_cons (pv 0) (pa_cons (pe_bltn (v := .ty "int") rfl T.n_int (by decide +kernel) rfl) pa_nil))) (pe_one (pe_not (pe_callB call_isi (by rfl) T.n_isinstance (by decide +kernel) (pa_cons (pv 0) (pa_cons (pe_bltn (v := .ty "bool") rfl T.n_bool (by decide +kernel) rfl) pa_nil)))))))))
theorem ok_l_cell_at (T : Txt A mg) : FnOk P w A.K mg base CX0 1 T.f_l_cell_at T.fd_l_cell_at ["_law_script", "_law_k"] (sp_l_cell_at A) := by
  refine T.F_l_cell_at.ok sc_l_cell_at (fun vs H Q E h => len_l_cell_at A h) (fun cdv Ar outer s H vs Q E hr h => ⟨t_l_cell_at A E, ?_, pure_l_cell_at A T.na vs H Q E h⟩)
  have hu64 := hr.units
  have hu65 := hu65_of hr
  have hu1 := hu_of hr
  exact (pss_cons (ps_if (by exact (pt_cmpR op_ltA (pv 1) (pe_callB call_lenA (by rfl) T.n_len (by decide +kernel) (pa_cons (pv 0) pa_nil)) (nomark _)))
    (pss_one (ps_ret (by exact (pe_ix ix_A (pv 0) (pv 1) (fun _ _ => rfl)))))
    pss_nil)
  (pss_one (ps_ret (by exact pe_int))))
theorem ok_l_whole (T : Txt A mg) : FnOk P w A.K mg base CX0 1 T.f_l_whole T.fd_l_whole ["_law_found"] (sp_l_whole A) := by
  refine T.F_l_whole.ok sc_l_whole (fun vs H Q E h => len_l_whole A h) (fun cdv Ar outer s H vs Q E hr h => ⟨t_l_whole A E, ?_, pure_l_whole A T.na vs H Q E h⟩)
  have hu64 := hr.units
  have hu65 := hu65_of hr
  have hu1 := hu_of hr
  exact (pss_one (ps_ret (by exact (pe_and (pe_callB call_isi (by rfl) T.n_isinstance (by decide +kernel) (pa_cons (pv 0) (pa_cons (pe_bltn (v := .ty "int") rfl T.n_int (by decide +kernel) rfl) pa_nil))) (pe_one (pe_not (pe_callB call_isi (by rfl) T.n_isinstance (by decide +kernel) (pa_cons (pv 0) (pa_cons (pe_bltn (v := .ty "bool") rfl T.n_bool (by decide +kernel) rfl) pa_nil)))))))))
theorem ok_l_sizes_by (T : Txt A mg) : FnOk P w A.K mg base CX0 1 T.f_l_sizes_by T.fd_l_sizes_by ["_law_cell", "_law_length", "_law_many"] (sp_l_sizes_by A) := by
  refine T.F_l_sizes_by.ok sc_l_sizes_by (fun vs H Q E h => len_l_sizes_by A h) (fun cdv Ar outer s H vs Q E hr h => ⟨t_l_sizes_by A E, ?_, pure_l_sizes_by A T.na vs H Q E h⟩)
  have hu64 := hr.units
  have hu65 := hu65_of hr
  have hu1 := hu_of hr
  exact (pss_cons (ps_set (i := 3) sc_l_sizes_by.nd rfl (Or.inl rfl) (by exact (pe_lst pa_nil)))
  (pss_cons (ps_set (i := 4) sc_l_sizes_by.nd rfl (Or.inl rfl) (by exact pe_int))
  (pss_cons (ps_set (i := 5) sc_l_sizes_by.nd rfl (Or.inl rfl) (by exact (pe_op op_divA (pv 0) pe_int)))
  (pss_cons (ps_set (i := 6) sc_l_sizes_by.nd rfl (Or.inl rfl) (by exact pe_int))
  (pss_cons (ps_if (by exact (pt_cmpR (op_eqA hu64) (pe_op op_modA (pv 0) pe_int) pe_int (nomark _)))
    (pss_one (ps_set (i := 6) sc_l_sizes_by.nd rfl (Or.inl rfl) (by exact (pv 1))))
    pss_nil)
  (pss_cons (ps_for PassesOwn.never rfl (pi_range1 (by rfl) T.n_range (pa_cons (pv 2) pa_nil)) (pg_name (i := 7) sc_l_sizes_by.nd rfl (Or.inl rfl))
    (pss_cons (ps_set (i := 4) sc_l_sizes_by.nd rfl (Or.inl rfl) (by exact (pe_op op_addA (pe_op op_addA (pv 4) pe_int) (pe_op op_modA (pv 5) (pv 6)))))
    (pss_cons (ps_set (i := 5) sc_l_sizes_by.nd rfl (Or.inl rfl) (by exact (pe_op op_divA (pv 5) (pv 6))))
    (pss_one (ps_if (by exact (pt_cmpR op_leA (pv 4) (pv 1) (nomark _)))
      (pss_one (ps_expr (by exact (pe_bm PySem.F.plainAttrs_list PySem.F.slot_list_append PySem.F.type_list_append mt_append (pv 3) (pa_cons (pv 4) pa_nil)))))
      pss_nil)))))
  (pss_cons (ps_if (by exact (pt_cmpR (op_eqA hu64) (pv 3) (pe_lst pa_nil) (nomark _)))
    (pss_one (ps_expr (by exact (pe_bm PySem.F.plainAttrs_list PySem.F.slot_list_append PySem.F.type_list_append mt_append (pv 3) (pa_cons (pv 1) pa_nil)))))
    pss_nil)
  (pss_one (ps_ret (by exact (pv 3)))))))))))
theorem ok_l_size_by (T : Txt A mg) : FnOk P w A.K mg base CX0 1 T.f_l_size_by T.fd_l_size_by ["_law_sizes", "_law_wish"] (sp_l_size_by A) := by
  refine T.F_l_size_by.ok sc_l_size_by (fun vs H Q E h => len_l_size_by A h) (fun cdv Ar outer s H vs Q E hr h => ⟨t_l_size_by A E, ?_, pure_l_size_by A T.na vs H Q E h⟩)
  have hu64 := hr.units
  have hu65 := hu65_of hr
  have hu1 := hu_of hr
  exact (pss_cons (ps_for PassesOwn.never rfl (pi_list (pv 0)) (pg_name (i := 2) sc_l_size_by.nd rfl (Or.inl rfl))
    (pss_one (ps_if (by exact (pt_cmpR op_geA (pv 2) (pv 1) (nomark _)))
      (pss_one (ps_ret (by exact (pv 2))))
      pss_nil)))
  (pss_one (ps_ret (by exact pe_int))))
theorem ok_l_fullest (T : Txt A mg) : FnOk P w A.K mg base CX0 1 T.f_l_fullest T.fd_l_fullest ["_law_model", "_law_size"] (sp_l_fullest A) := by
  refine T.F_l_fullest.ok sc_l_fullest (fun vs H Q E h => len_l_fullest A h) (fun cdv Ar outer s H vs Q E hr h => ⟨t_l_fullest A E, ?_, pure_l_fullest A T.na vs H Q E h⟩)
  have hu64 := hr.units
  have hu65 := hu65_of hr
  have hu1 := hu_of hr
  exact (pss_cons (ps_set (i := 2) sc_l_fullest.nd rfl (Or.inl rfl) (by exact (pe_un un_neg pe_int)))
  (pss_cons (ps_for PassesOwn.never rfl (pi_list (pe_callB (call_sortedA rfl) (by rfl) T.n_sorted (by decide +kernel) (pa_cons (pv 0) pa_nil))) (pg_name (i := 3) sc_l_fullest.nd rfl (Or.inl rfl))
    (pss_cons (ps_set (i := 4) sc_l_fullest.nd rfl (Or.inl rfl) (by exact (pe_dget hu1 (pv 0) (pv 3) (fun _ _ => rfl))))
    (pss_one (ps_if (by exact (PW.pt (pw_and (pt_cmpR (op_eqA hu64) (pe_ix ix_A (pv 4) pe_int (fun _ _ => rfl)) (pv 1) (nomark _)) (pw_and1 (pt_cmpR (op_inP hu65) pe_bl (pe_ix ix_A (pv 4) pe_int (fun _ _ => rfl)) (by first | exact nomark _ | rfl))))))
      (pss_one (ps_if (by exact (PW.pt (pw_or (pt_cmpR op_ltA (pv 2) pe_int (nomark _)) (pw_or1 (pt_cmpR op_gtA (pe_bm PySem.F.plainAttrs_list PySem.F.slot_list_count PySem.F.type_list_count mt_bcount (pe_ix ix_A (pv 4) pe_int (fun _ _ => rfl)) (pa_cons pe_bl pa_nil)) (pe_bm PySem.F.plainAttrs_list PySem.F.slot_list_count PySem.F.type_list_count mt_bcount (pe_ix ix_A (pe_dget hu1 (pv 0) (pv 2) (fun _ _ => rfl)) pe_int (fun _ _ => rfl)) (pa_cons pe_bl pa_nil)) (nomark _))))))
        (pss_one (ps_set (i := 2) sc_l_fullest.nd rfl (Or.inl rfl) (by exact (pv 3))))
        pss_nil))
      pss_nil))))
  (pss_one (ps_ret (by exact (pv 2))))))
theorem ok_l_fresh (T : Txt A mg) : FnOk P w A.K mg base CX0 1 T.f_l_fresh T.fd_l_fresh ["_law_model", "_law_pages"] (sp_l_fresh A) := by
  refine T.F_l_fresh.ok sc_l_fresh (fun vs H Q E h => len_l_fresh A h) (fun cdv Ar outer s H vs Q E hr h => ⟨t_l_fresh A E, ?_, pure_l_fresh A T.na vs H Q E h⟩)
  have hu64 := hr.units
  have hu65 := hu65_of hr
  have hu1 := hu_of hr
  exact (pss_cons (ps_setLc (i := 2) (own := [("_law_page", 4)]) (g := (gName 4)) (tt := (tB (tDNotIn (tVar 4) (tVar 0)))) rfl sc_l_fresh.nd rfl rfl (sw_true rfl rfl rfl (by decide +kernel)) (pi_range1 (by rfl) T.n_range (pa_cons (pv 1) pa_nil)) (blkOk_by (own := [("_law_page", 4)]) (N := ["_law_model", "_law_pages", "_law_bare", "_law_empty", "_law_page"]) (sc := defScope s_l_fresh) (by decide +kernel)) (fun _ _ _ _ _ => (pg_name (i := 4) sc_l_fresh.nd rfl (Or.inl rfl))) (fun _ _ _ _ _ => (pts_one (pt_cmp (pc_dnotin hu1 (pv 4) (pv 0)) (by rfl)))) (fun _ _ _ _ _ => (pv 4)))
  (pss_cons (ps_setLc (i := 3) (own := [("_law_page", 4)]) (g := (gName 4)) (tt := (tTest (tOp (rInN A.K) (tC (.bl true)) (tOp (rIxA A.K) (tDGet (tVar 0) (tVar 4)) (tC (.int 1)))))) rfl sc_l_fresh.nd rfl rfl (sw_true rfl rfl rfl (by decide +kernel)) (pi_list (pe_callB (call_sortedA rfl) (by rfl) T.n_sorted (by decide +kernel) (pa_cons (pv 0) pa_nil))) (blkOk_by (own := [("_law_page", 4)]) (N := ["_law_model", "_law_pages", "_law_bare", "_law_empty", "_law_page"]) (sc := defScope s_l_fresh) (by decide +kernel)) (fun _ _ _ _ _ => (pg_name (i := 4) sc_l_fresh.nd rfl (Or.inl rfl))) (fun _ _ _ _ _ => (pts_one (pt_cmpR (op_inN hu65) pe_bl (pe_ix ix_A (pe_dget hu1 (pv 0) (pv 4) (fun _ _ => rfl)) pe_int (fun _ _ => rfl)) (by first | exact nomark _ | rfl)))) (fun _ _ _ _ _ => (pv 4)))
  (pss_cons (ps_if (by exact (pt_cmpR (op_neA hu64) (pv 2) (pe_lst pa_nil) (nomark _)))
    (pss_one (ps_ret (by exact (pe_ix ix_A (pv 2) pe_int (fun _ _ => rfl)))))
    pss_nil)
  (pss_cons (ps_if (by exact (pt_cmpR (op_neA hu64) (pv 3) (pe_lst pa_nil) (nomark _)))
    (pss_cons (ps_expr (by exact (pe_dpop1 (pv 0) (pe_ix ix_A (pv 3) pe_int (fun _ _ => rfl)) ⟨by rfl, by rfl, by rfl, by rfl⟩)))
    (pss_one (ps_ret (by exact (pe_ix ix_A (pv 3) pe_int (fun _ _ => rfl))))))
    pss_nil)
  (pss_one (ps_ret (by exact (pe_un un_neg pe_int))))))))
theorem ok_l_places (T : Txt A mg) : FnOk P w A.K mg base CX0 1 T.f_l_places T.fd_l_places ["_law_model", "_law_length"] (sp_l_places A) := by
  refine T.F_l_places.ok sc_l_places (fun vs H Q E h => len_l_places A h) (fun cdv Ar outer s H vs Q E hr h => ⟨t_l_places A E, ?_, pure_l_places A T.na vs H Q E h⟩)
  have hu64 := hr.units
  have hu65 := hu65_of hr
  have hu1 := hu_of hr
  exact (pss_cons (ps_set (i := 2) sc_l_places.nd rfl (Or.inl rfl) (by exact (pe_lst pa_nil)))
  (pss_cons (ps_for PassesOwn.never rfl (pi_list (pe_callB (call_sortedA rfl) (by rfl) T.n_sorted (by decide +kernel) (pa_cons (pv 0) pa_nil))) (pg_name (i := 3) sc_l_places.nd rfl (Or.inl rfl))
    (pss_cons (ps_set (i := 4) sc_l_places.nd rfl (Or.inl rfl) (by exact (pe_dget hu1 (pv 0) (pv 3) (fun _ _ => rfl))))
    (pss_one (ps_for PassesOwn.never rfl (pi_range1 (by rfl) T.n_range (pa_cons (pe_callB call_lenA (by rfl) T.n_len (by decide +kernel) (pa_cons (pe_ix ix_A (pv 4) pe_int (fun _ _ => rfl)) pa_nil)) pa_nil)) (pg_name (i := 5) sc_l_places.nd rfl (Or.inl rfl))
      (pss_one (ps_if (by exact (pt_val (pe_ix ix_A (pe_ix ix_A (pv 4) pe_int (fun _ _ => rfl)) (pv 5) (fun _ _ => rfl))))
        (pss_one (ps_expr (by exact (pe_bm PySem.F.plainAttrs_list PySem.F.slot_list_append PySem.F.type_list_append mt_append (pv 2) (pa_cons (pe_tup (pa_cons (pe_op op_addA (pe_op op_mulA (pv 3) (pv 1)) (pe_op op_mulA (pv 5) (pe_ix ix_A (pv 4) pe_int (fun _ _ => rfl)))) (pa_cons (pe_ix ix_A (pv 4) pe_int (fun _ _ => rfl)) pa_nil))) pa_nil)))))
        pss_nil))))))
  (pss_one (ps_ret (by exact (pv 2))))))
theorem ok_l_given (T : Txt A mg) : FnOk P w A.K mg base CX0 1 T.f_l_given T.fd_l_given ["_law_model", "_law_length", "_law_place"] (sp_l_given A) := by
  refine T.F_l_given.ok sc_l_given (fun vs H Q E h => len_l_given A h) (fun cdv Ar outer s H vs Q E hr h => ⟨t_l_given A E, ?_, pure_l_given A T.na vs H Q E h⟩)
  have hu64 := hr.units
  have hu65 := hu65_of hr
  have hu1 := hu_of hr
  exact (pss_cons (ps_set (i := 3) sc_l_given.nd rfl (Or.inl rfl) (by exact (pe_op op_divA (pv 2) (pv 1))))
  (pss_cons (ps_set (i := 4) sc_l_given.nd rfl (Or.inr rfl) (by exact (pe_dget hu1 (pv 0) (pv 3) (fun _ _ => rfl))))
  (pss_cons (ps_asg pe_bl (pg_sub (pe_ix ix_A (pv 4) pe_int (fun _ _ => rfl)) (pe_op op_divA (pe_op op_modA (pv 2) (pv 1)) (pe_ix ix_A (pv 4) pe_int (fun _ _ => rfl))) set_list))
  (pss_cons (ps_lock (ps_setLc (i := 5) (own := [("_law_one", 6)]) (g := (gName 6)) (tt := (tAnd (tTest (tOp (rEqA A.K) (tOp (rIxA A.K) (tDGet (tVar 0) (tVar 6)) (tC (.int 0))) (tOp (rIxA A.K) (tVar 4) (tC (.int 0))))) (tTest (tOp (rInN A.K) (tC (.bl true)) (tOp (rIxA A.K) (tDGet (tVar 0) (tVar 6)) (tC (.int 1))))))) rfl sc_l_given.nd rfl rfl (sw_true rfl rfl rfl (by decide +kernel)) (pi_keys (pv 0)) (blkOk_by (own := [("_law_one", 6)]) (N := ["_law_model", "_law_length", "_law_place", "_law_page", "_law_row", "_law_empty", "_law_one"]) (sc := defScope s_l_given) (by decide +kernel)) (fun _ _ _ _ _ => (pg_name (i := 6) sc_l_given.nd rfl (Or.inl rfl))) (fun _ _ _ _ _ => (pts_one (PW.pt (pw_and (pt_cmpR (op_eqA hu64) (pe_ix ix_A (pe_dget hu1 (pv 0) (pv 6) (fun _ _ => rfl)) pe_int (fun _ _ => rfl)) (pe_ix ix_A (pv 4) pe_int (fun _ _ => rfl)) (nomark _)) (pw_and1 (pt_cmpR (op_inN hu65) pe_bl (pe_ix ix_A (pe_dget hu1 (pv 0) (pv 6) (fun _ _ => rfl)) pe_int (fun _ _ => rfl)) (by first | exact nomark _ | rfl))))))) (fun _ _ _ _ _ => (pv 6))))
  (pss_one (ps_if (by exact (PW.pt (pw_and (pt_cmpR (op_inN hu65) pe_bl (pe_ix ix_A (pv 4) pe_int (fun _ _ => rfl)) (by first | exact nomark _ | rfl)) (pw_and1 (pt_cmpR op_gtA (pe_callB call_lenA (by rfl) T.n_len (by decide +kernel) (pa_cons (pv 5) pa_nil)) pe_int (nomark _))))))
    (pss_one (ps_expr (by exact (pe_dpop1 (pv 0) (pv 3) ⟨by rfl, by rfl, by rfl, by rfl⟩))))
    pss_nil))))))
theorem ok_l_gathered_by (T : Txt A mg) : FnOk P w A.K mg base CX0 1 T.f_l_gathered_by T.fd_l_gathered_by ["_law_model", "_law_length", "_law_size"] (sp_l_gathered_by A) := by
  refine T.F_l_gathered_by.ok sc_l_gathered_by (fun vs H Q E h => len_l_gathered_by A h) (fun cdv Ar outer s H vs Q E hr h => ⟨t_l_gathered_by A E, ?_, pure_l_gathered_by A T.na vs H Q E h⟩)
  have hu64 := hr.units
  have hu65 := hu65_of hr
  have hu1 := hu_of hr
  exact (pss_cons (ps_setLc (i := 4) (own := [("_law_page", 3)]) (g := (gName 3)) (tt := (tTest (tOp (rEqA A.K) (tOp (rIxA A.K) (tDGet (tVar 0) (tVar 3)) (tC (.int 0))) (tVar 2)))) rfl sc_l_gathered_by.nd rfl rfl (sw_true rfl rfl rfl (by decide +kernel)) (pi_list (pe_callB (call_sortedA rfl) (by rfl) T.n_sorted (by decide +kernel) (pa_cons (pv 0) pa_nil))) (blkOk_by (own := [("_law_page", 3)]) (N := ["_law_model", "_law_length", "_law_size", "_law_page", "_law_pages", "_law_slots", "_law_needed", "_law_ranked", "_law_stay", "_law_moves", "_law_slot", "_law_goal", "_law_there", "_law_pair", "_law_one"]) (sc := defScope s_l_gathered_by) (by decide +kernel)) (fun _ _ _ _ _ => (pg_name (i := 3) sc_l_gathered_by.nd rfl (Or.inl rfl))) (fun _ _ _ _ _ => (pts_one (pt_cmpR (op_eqA hu64) (pe_ix ix_A (pe_dget hu1 (pv 0) (pv 3) (fun _ _ => rfl)) pe_int (fun _ _ => rfl)) (pv 2) (nomark _)))) (fun _ _ _ _ _ => (pv 3)))
  (pss_cons (ps_set (i := 5) sc_l_gathered_by.nd rfl (Or.inl rfl) (by exact (pe_op op_divA (pv 1) (pv 2))))
  (pss_cons (ps_set (i := 6) sc_l_gathered_by.nd rfl (Or.inl rfl) (by exact (pe_op op_divA (pe_op op_subA (pe_op op_addA (pe_callB (cr_sum rfl) (by rfl) T.n_sum (by decide +kernel) (pa_cons (pe_lc (own := [("_law_page", 3)]) (g := (gName 3)) (tt := tYes) rfl sc_l_gathered_by.nd (pi_list (pv 4)) (blkOk_by (own := [("_law_page", 3)]) (N := ["_law_model", "_law_length", "_law_size", "_law_page", "_law_pages", "_law_slots", "_law_needed", "_law_ranked", "_law_stay", "_law_moves", "_law_slot", "_law_goal", "_law_there", "_law_pair", "_law_one"]) (sc := defScope s_l_gathered_by) (by decide +kernel)) (fun _ _ _ _ _ => (pg_name (i := 3) sc_l_gathered_by.nd rfl (Or.inl rfl))) (fun _ _ _ _ _ => pts_nil) (fun _ _ _ _ _ => (pe_bm PySem.F.plainAttrs_list PySem.F.slot_list_count PySem.F.type_list_count mt_bcount (pe_ix ix_A (pe_dget hu1 (pv 0) (pv 3) (fun _ _ => rfl)) pe_int (fun _ _ => rfl)) (pa_cons pe_bl pa_nil)))) pa_nil)) (pv 5)) pe_int) (pv 5))))
  (pss_cons (ps_set (i := 7) sc_l_gathered_by.nd rfl (Or.inl rfl) (by exact (pe_slice sl_list (pe_callB (call_sortedA rfl) (by rfl) T.n_sorted (by decide +kernel) (pa_cons (pe_lc (own := [("_law_page", 3)]) (g := (gName 3)) (tt := tYes) rfl sc_l_gathered_by.nd (pi_list (pv 4)) (blkOk_by (own := [("_law_page", 3)]) (N := ["_law_model", "_law_length", "_law_size", "_law_page", "_law_pages", "_law_slots", "_law_needed", "_law_ranked", "_law_stay", "_law_moves", "_law_slot", "_law_goal", "_law_there", "_law_pair", "_law_one"]) (sc := defScope s_l_gathered_by) (by decide +kernel)) (fun _ _ _ _ _ => (pg_name (i := 3) sc_l_gathered_by.nd rfl (Or.inl rfl))) (fun _ _ _ _ _ => pts_nil) (fun _ _ _ _ _ => (pe_tup (pa_cons (pe_un un_neg (pe_bm PySem.F.plainAttrs_list PySem.F.slot_list_count PySem.F.type_list_count mt_bcount (pe_ix ix_A (pe_dget hu1 (pv 0) (pv 3) (fun _ _ => rfl)) pe_int (fun _ _ => rfl)) (pa_cons pe_bl pa_nil))) (pa_cons (pv 3) pa_nil))))) pa_nil)) po_none (po_some (pv 6)))))
  (pss_cons (ps_set (i := 8) sc_l_gathered_by.nd rfl (Or.inr rfl) (by exact (pe_callB (call_sortedA rfl) (by rfl) T.n_sorted (by decide +kernel) (pa_cons (pe_lc (own := [("_law_pair", 13)]) (g := (gName 13)) (tt := tYes) rfl sc_l_gathered_by.nd (pi_list (pv 7)) (blkOk_by (own := [("_law_pair", 13)]) (N := ["_law_model", "_law_length", "_law_size", "_law_page", "_law_pages", "_law_slots", "_law_needed", "_law_ranked", "_law_stay", "_law_moves", "_law_slot", "_law_goal", "_law_there", "_law_pair", "_law_one"]) (sc := defScope s_l_gathered_by) (by decide +kernel)) (fun _ _ _ _ _ => (pg_name (i := 13) sc_l_gathered_by.nd rfl (Or.inl rfl))) (fun _ _ _ _ _ => pts_nil) (fun _ _ _ _ _ => (pe_ix ix_A (pv 13) pe_int (fun _ _ => rfl)))) pa_nil))))
  (pss_cons (ps_set (i := 9) sc_l_gathered_by.nd rfl (Or.inl rfl) (by exact (pe_lst pa_nil)))
  (pss_cons (ps_for PassesOwn.never rfl (pi_list (pe_lc (own := [("_law_page", 3)]) (g := (gName 3)) (tt := (tTest (tOp (rInN A.K) (tVar 3) (tVar 8)))) rfl sc_l_gathered_by.nd (pi_list (pv 4)) (blkOk_by (own := [("_law_page", 3)]) (N := ["_law_model", "_law_length", "_law_size", "_law_page", "_law_pages", "_law_slots", "_law_needed", "_law_ranked", "_law_stay", "_law_moves", "_law_slot", "_law_goal", "_law_there", "_law_pair", "_law_one"]) (sc := defScope s_l_gathered_by) (by decide +kernel)) (fun _ _ _ _ _ => (pg_name (i := 3) sc_l_gathered_by.nd rfl (Or.inl rfl))) (fun _ _ _ _ _ => (pts_one (pt_cmpR (op_inN hu65) (pv 3) (pv 8) (by first | exact nomark _ | rfl)))) (fun _ _ _ _ _ => (pv 3)))) (pg_name (i := 3) sc_l_gathered_by.nd rfl (Or.inl rfl))
    (pss_cons (ps_for PassesOwn.never rfl (pi_range1 (by rfl) T.n_range (pa_cons (pv 5) pa_nil)) (pg_name (i := 10) sc_l_gathered_by.nd rfl (Or.inl rfl))
      (pss_one (ps_if (by exact (pt_val (pe_ix ix_A (pe_ix ix_A (pe_dget hu1 (pv 0) (pv 3) (fun _ _ => rfl)) pe_int (fun _ _ => rfl)) (pv 10) (fun _ _ => rfl))))
        (pss_cons (ps_set (i := 11) sc_l_gathered_by.nd rfl (Or.inl rfl) (by exact (pe_ix ix_A (pe_lc (own := [("_law_one", 14)]) (g := (gName 14)) (tt := (tTest (tOp (rInP A.K) (tC (.bl false)) (tOp (rIxA A.K) (tDGet (tVar 0) (tVar 14)) (tC (.int 1)))))) rfl sc_l_gathered_by.nd (pi_list (pv 8)) (blkOk_by (own := [("_law_one", 14)]) (N := ["_law_model", "_law_length", "_law_size", "_law_page", "_law_pages", "_law_slots", "_law_needed", "_law_ranked", "_law_stay", "_law_moves", "_law_slot", "_law_goal", "_law_there", "_law_pair", "_law_one"]) (sc := defScope s_l_gathered_by) (by decide +kernel)) (fun _ _ _ _ _ => (pg_name (i := 14) sc_l_gathered_by.nd rfl (Or.inl rfl))) (fun _ _ _ _ _ => (pts_one (pt_cmpR (op_inP hu65) pe_bl (pe_ix ix_A (pe_dget hu1 (pv 0) (pv 14) (fun _ _ => rfl)) pe_int (fun _ _ => rfl)) (by first | exact nomark _ | rfl)))) (fun _ _ _ _ _ => (pv 14))) pe_int (fun _ _ => rfl))))
        (pss_cons (ps_set (i := 12) sc_l_gathered_by.nd rfl (Or.inl rfl) (by exact (pe_bm PySem.F.plainAttrs_list PySem.F.slot_list_index PySem.F.type_list_index (mt_indexA hu65) (pe_ix ix_A (pe_dget hu1 (pv 0) (pv 11) (fun _ _ => rfl)) pe_int (fun _ _ => rfl)) (pa_cons pe_bl pa_nil))))
        (pss_cons (ps_asg pe_bl (pg_sub (pe_ix ix_A (pe_dget hu1 (pv 0) (pv 11) (fun _ _ => rfl)) pe_int (fun _ _ => rfl)) (pv 12) set_list))
        (pss_one (ps_expr (by exact (pe_bm PySem.F.plainAttrs_list PySem.F.slot_list_append PySem.F.type_list_append mt_append (pv 9) (pa_cons (pe_tup (pa_cons (pe_op op_addA (pe_op op_mulA (pv 3) (pv 1)) (pe_op op_mulA (pv 10) (pv 2))) (pa_cons (pe_op op_addA (pe_op op_mulA (pv 11) (pv 1)) (pe_op op_mulA (pv 12) (pv 2))) pa_nil))) pa_nil))))))))
        pss_nil)))
    (pss_one (ps_expr (by exact (pe_dpop1 (pv 0) (pv 3) ⟨by rfl, by rfl, by rfl, by rfl⟩))))))
  (pss_one (ps_ret (by exact (pv 9)))))))))))
theorem ok_l_left (T : Txt A mg) : FnOk P w A.K mg base CX0 1 T.f_l_left T.fd_l_left ["_law_model", "_law_drawn", "_law_size"] (sp_l_left A) := by
  refine T.F_l_left.ok sc_l_left (fun vs H Q E h => len_l_left A h) (fun cdv Ar outer s H vs Q E hr h => ⟨t_l_left A E, ?_, pure_l_left A T.na vs H Q E h⟩)
  have hu64 := hr.units
  have hu65 := hu65_of hr
  have hu1 := hu_of hr
  exact (pss_cons (ps_set (i := 3) sc_l_left.nd rfl (Or.inl rfl) (by exact pe_int))
  (pss_cons (ps_for PassesOwn.never rfl (pi_range1 (by rfl) T.n_range (pa_cons (pe_ix ix_A (pv 1) pe_int (fun _ _ => rfl)) pa_nil)) (pg_name (i := 4) sc_l_left.nd rfl (Or.inl rfl))
    (pss_one (ps_if (by exact (PW.pt (pw_or (pt_cmp (pc_dnotin hu1 (pv 4) (pv 0)) (by rfl)) (pw_or1 (pt_cmpR (op_inN hu65) pe_bl (pe_ix ix_A (pe_dget hu1 (pv 0) (pv 4) (fun _ _ => rfl)) pe_int (fun _ _ => rfl)) (by first | exact nomark _ | rfl))))))
      (pss_one (ps_set (i := 3) sc_l_left.nd rfl (Or.inl rfl) (by exact (pe_op op_addA (pv 3) (pe_op op_divA (pe_ix ix_A (pv 1) pe_int (fun _ _ => rfl)) (pv 2))))))
      (pss_one (ps_if (by exact (pt_cmpR (op_eqA hu64) (pe_ix ix_A (pe_dget hu1 (pv 0) (pv 4) (fun _ _ => rfl)) pe_int (fun _ _ => rfl)) (pv 2) (nomark _)))
        (pss_one (ps_set (i := 3) sc_l_left.nd rfl (Or.inl rfl) (by exact (pe_op op_addA (pv 3) (pe_bm PySem.F.plainAttrs_list PySem.F.slot_list_count PySem.F.type_list_count mt_bcount (pe_ix ix_A (pe_dget hu1 (pv 0) (pv 4) (fun _ _ => rfl)) pe_int (fun _ _ => rfl)) (pa_cons pe_bl pa_nil))))))
        pss_nil)))))
  (pss_one (ps_ret (by exact (pv 3))))))
theorem ok_Shelf_take (T : Txt A mg) : FnOk P w A.K mg base (L2.CX P w) 2 T.f_Shelf_take T.fd_Shelf_take ["self"] (sp_Shelf_take A) := by
  refine T.F_Shelf_take.okX sc_Shelf_take (fun vs H Q E h => len_Shelf_take A h) (fun cdv Ar outer s H vs Q E hr h => ⟨t_Shelf_take A E, ?_, pure_Shelf_take A T.na vs H Q E h⟩)
  have hu64 := hr.units
  have hu65 := hu65_of hr
  have hu1 := hu_of hr
  have tk0 := takes_of (X := cxOf (L2.CX P w) P w A.K mg base ["self", "slot"] "Shelf.take" (defScope s_Shelf_take) T.f_Shelf_take cdv Ar outer s H E) rfl rfl rfl rfl
  exact (pss_cons (ps_if (by exact (pt_not (pt_truth (pe_fld (pv 0) rfl) (by intro _; rfl))))
    (pss_one (ps_raise rfl tk0 (pmk_own PySem.F.excBase_ValueError T.x_NoRoom T.g_NoRoom T.k_NoRoom (raises_own T.bs_NoRoom T.ty_NoRoom) rfl)))
    pss_nil)
  (pss_cons (ps_set (i := 1) sc_Shelf_take.nd rfl (Or.inl rfl) (by exact (pe_callBfun cr_heappop (by rfl) T.h_heappop (pa_cons (pe_fld (pv 0) rfl) pa_nil))))
  (pss_cons (ps_dput hu1 (pe_fld (pv 0) rfl) (pv 1) pe_bl rfl)
  (pss_one (ps_ret (by exact (pv 1)))))))
theorem ok_Shelf_give (T : Txt A mg) : FnOk P w A.K mg base (L2.CX P w) 2 T.f_Shelf_give T.fd_Shelf_give ["self", "slot"] (sp_Shelf_give A) := by
  refine T.F_Shelf_give.okX sc_Shelf_give (fun vs H Q E h => len_Shelf_give A h) (fun cdv Ar outer s H vs Q E hr h => ⟨t_Shelf_give A E, ?_, pure_Shelf_give A T.na vs H Q E h⟩)
  have hu64 := hr.units
  have hu65 := hu65_of hr
  have hu1 := hu_of hr
  have tk0 := takes_of (X := cxOf (L2.CX P w) P w A.K mg base ["self", "slot"] "Shelf.give" (defScope s_Shelf_give) T.f_Shelf_give cdv Ar outer s H E) rfl rfl rfl rfl
  exact (pss_cons (ps_if (by exact (pt_cmp (pc_dnotin hu1 (pv 1) (pe_fld (pv 0) rfl)) (by rfl)))
    (pss_one (ps_raise rfl tk0 (pmk_own PySem.F.excBase_ValueError T.x_NotOut T.g_NotOut T.k_NotOut (raises_own T.bs_NotOut T.ty_NotOut) rfl)))
    pss_nil)
  (pss_cons (ps_ddel (pe_fld (pv 0) rfl) (pv 1))
  (pss_one (ps_expr (by exact (pe_callBfun cr_heappush (by rfl) T.h_heappush (pa_cons (pe_fld (pv 0) rfl) (pa_cons (pv 1) pa_nil))))))))
theorem ok_fullest_first (T : Txt A mg) : FnOk P w A.K mg base CX0 2 A.v_fullest_first T.fd_fullest_first ["shelf"] (sp_fullest_first A) := by
  rw [← T.v_fullest_first]
  refine T.F_fullest_first.ok sc_fullest_first (fun vs H Q E h => len_fullest_first A h) (fun cdv Ar outer s H vs Q E hr h => ⟨t_fullest_first A E, ?_, pure_fullest_first A T.na vs H Q E h⟩)
  have hu64 := hr.units
  have hu65 := hu65_of hr
  have hu1 := hu_of hr
  exact (pss_one (ps_ret (by exact (pe_tup (pa_cons (pe_un un_neg (pe_meth0 (pv 0) T.cl_Shelf T.m_Shelf_out (ok_Shelf_out T) (hr.mono (by decide)) T.b_Shelf_out .nil pass0)) (pa_cons (pe_fld (pv 0) rfl) pa_nil))))))
theorem ok_Room_shelves (T : Txt A mg) : FnOk P w A.K mg base CX0 2 T.f_Room_shelves T.fd_Room_shelves ["self"] (sp_Room_shelves A) := by
  refine T.F_Room_shelves.ok sc_Room_shelves (fun vs H Q E h => len_Room_shelves A h) (fun cdv Ar outer s H vs Q E hr h => ⟨t_Room_shelves A E, ?_, pure_Room_shelves A T.na vs H Q E h⟩)
  have hu64 := hr.units
  have hu65 := hu65_of hr
  have hu1 := hu_of hr
  exact (pss_one (ps_ret (by exact (pe_lc (own := [("shelf", 1)]) (g := (gName 1)) (tt := tYes) rfl sc_Room_shelves.nd (pi_list (pe_meth0 (pv 0) T.cl_Room T.m_Room__all (ok_Room__all T) (hr.mono (by decide)) T.b_Room__all .nil pass0)) (blkOk_by (own := [("shelf", 1)]) (N := ["self", "shelf"]) (sc := defScope s_Room_shelves) (by decide +kernel)) (fun _ _ _ _ _ => (pg_name (i := 1) sc_Room_shelves.nd rfl (Or.inl rfl))) (fun _ _ _ _ _ => pts_nil) (fun _ _ _ _ _ => (pe_tup (pa_cons (pe_fld (pv 1) rfl) (pa_cons (pe_fld (pv 1) rfl) (pa_cons (pe_meth0 (pv 1) T.cl_Shelf T.m_Shelf_out (ok_Shelf_out T) (hr.mono (by decide)) T.b_Shelf_out .nil pass0) pa_nil)))))))))
theorem ok_Room__of_size (T : Txt A mg) : FnOk P w A.K mg base CX0 2 T.f_Room__of_size T.fd_Room__of_size ["self", "size"] (sp_Room__of_size A) := by
  refine T.F_Room__of_size.ok sc_Room__of_size (fun vs H Q E h => len_Room__of_size A h) (fun cdv Ar outer s H vs Q E hr h => ⟨t_Room__of_size A E, ?_, pure_Room__of_size A T.na vs H Q E h⟩)
  have hu64 := hr.units
  have hu65 := hu65_of hr
  have hu1 := hu_of hr
  exact (pss_one (ps_ret (by exact (pe_lc (own := [("shelf", 2)]) (g := (gName 2)) (tt := (tTest (tOp (rEqA A.K) (tFld A.K (tVar 2) "size") (tVar 1)))) rfl sc_Room__of_size.nd (pi_list (pe_meth0 (pv 0) T.cl_Room T.m_Room__all (ok_Room__all T) (hr.mono (by decide)) T.b_Room__all .nil pass0)) (blkOk_by (own := [("shelf", 2)]) (N := ["self", "size", "shelf"]) (sc := defScope s_Room__of_size) (by decide +kernel)) (fun _ _ _ _ _ => (pg_name (i := 2) sc_Room__of_size.nd rfl (Or.inl rfl))) (fun _ _ _ _ _ => (pts_one (pt_cmpR (op_eqA hu64) (pe_fld (pv 2) rfl) (pv 1) (nomark _)))) (fun _ _ _ _ _ => (pv 2))))))
theorem ok_Room__unused (T : Txt A mg) : FnOk P w A.K mg base CX0 2 T.f_Room__unused T.fd_Room__unused ["self"] (sp_Room__unused A) := by
  refine T.F_Room__unused.ok sc_Room__unused (fun vs H Q E h => len_Room__unused A h) (fun cdv Ar outer s H vs Q E hr h => ⟨t_Room__unused A E, ?_, pure_Room__unused A T.na vs H Q E h⟩)
  have hu64 := hr.units
  have hu65 := hu65_of hr
  have hu1 := hu_of hr
  exact (pss_one (ps_ret (by exact (pe_lc (own := [("shelf", 1)]) (g := (gName 1)) (tt := (tTest (tOp (rEqA A.K) (tMeth A.c_Shelf "out" (sp_Shelf_out A) [] E0 (tVar 1) tNil) (tC (.int 0))))) rfl sc_Room__unused.nd (pi_list (pe_meth0 (pv 0) T.cl_Room T.m_Room__all (ok_Room__all T) (hr.mono (by decide)) T.b_Room__all .nil pass0)) (blkOk_by (own := [("shelf", 1)]) (N := ["self", "shelf"]) (sc := defScope s_Room__unused) (by decide +kernel)) (fun _ _ _ _ _ => (pg_name (i := 1) sc_Room__unused.nd rfl (Or.inl rfl))) (fun _ _ _ _ _ => (pts_one (pt_cmpR (op_eqA hu64) (pe_meth0 (pv 1) T.cl_Shelf T.m_Shelf_out (ok_Shelf_out T) (hr.mono (by decide)) T.b_Shelf_out .nil pass0) pe_int (nomark _)))) (fun _ _ _ _ _ => (pv 1))))))
theorem ok_Room__check_out (T : Txt A mg) : FnOk P w A.K mg base (L2.CX P w) 2 T.f_Room__check_out T.fd_Room__check_out ["self", "place"] (sp_Room__check_out A) := by
  refine T.F_Room__check_out.okX sc_Room__check_out (fun vs H Q E h => len_Room__check_out A h) (fun cdv Ar outer s H vs Q E hr h => ⟨t_Room__check_out A E, ?_, pure_Room__check_out A T.na vs H Q E h⟩)
  have hu64 := hr.units
  have hu65 := hu65_of hr
  have hu1 := hu_of hr
  have tk0 := takes_of (X := cxOf (L2.CX P w) P w A.K mg base ["self", "place"] "Room._check_out" (defScope s_Room__check_out) T.f_Room__check_out cdv Ar outer s H E) rfl rfl rfl rfl
  exact (pss_one (ps_if (by exact (pt_cmp (pc_dnotin hu1 (pv 1) (pe_fld (pv 0) rfl)) (by rfl)))
    (pss_one (ps_raise rfl tk0 (pmk_own PySem.F.excBase_ValueError T.x_NotOut T.g_NotOut T.k_NotOut (raises_own T.bs_NotOut T.ty_NotOut) rfl)))
    pss_nil))
theorem ok_is_within (T : Txt A mg) : FnOk P w A.K mg base CX0 2 T.f_is_within T.fd_is_within ["number", "least", "most"] (sp_is_within A) := by
  refine T.F_is_within.ok sc_is_within (fun vs H Q E h => len_is_within A h) (fun cdv Ar outer s H vs Q E hr h => ⟨t_is_within A E, ?_, pure_is_within A T.na vs H Q E h⟩)
  have hu64 := hr.units
  have hu65 := hu65_of hr
  have hu1 := hu_of hr
  exact (pss_one (ps_ret (by exact (pe_and (pe_call (ok_is_whole T) (hr.mono (by decide)) rfl T.g_is_whole T.k_is_whole T.b_is_whole .nil pass0 (pa_cons (pv 0) pa_nil)) (pe_one (pe_chain op_leA op_leA (pv 1) (pv 0) (pv 2)))))))
theorem ok_Plan_size_for (T : Txt A mg) : FnOk P w A.K mg base (L2.CX P w) 2 T.f_Plan_size_for T.fd_Plan_size_for ["self", "wish"] (sp_Plan_size_for A) := by
  refine T.F_Plan_size_for.okX sc_Plan_size_for (fun vs H Q E h => len_Plan_size_for A h) (fun cdv Ar outer s H vs Q E hr h => ⟨t_Plan_size_for A E, ?_, pure_Plan_size_for A T.na vs H Q E h⟩)
  have hu64 := hr.units
  have hu65 := hu65_of hr
  have hu1 := hu_of hr
  have tk0 := takes_of (X := cxOf (L2.CX P w) P w A.K mg base ["self", "wish", "size"] "Plan.size_for" (defScope s_Plan_size_for) T.f_Plan_size_for cdv Ar outer s H E) rfl rfl rfl rfl
  have po0 := passes_of (X := cxOf (L2.CX P w) P w A.K mg base ["self", "wish", "size"] "Plan.size_for" (defScope s_Plan_size_for) T.f_Plan_size_for cdv Ar outer s H E) rfl
  exact (pss_cons (ps_if (by exact (PW.pt (pw_or (pt_not (pt_val (pe_call (ok_is_whole T) (hr.mono (by decide)) rfl T.g_is_whole T.k_is_whole T.b_is_whole .nil pass0 (pa_cons (pv 1) pa_nil)))) (pw_or1 (pt_cmpR op_ltA (pv 1) pe_int (nomark _))))))
    (pss_one (ps_raise rfl tk0 (pmk_own PySem.F.excBase_ValueError T.x_BadWish T.g_BadWish T.k_BadWish (raises_own T.bs_BadWish T.ty_BadWish) rfl)))
    pss_nil)
  (pss_cons (ps_for po0 rfl (pi_list (pe_fld (pv 0) rfl)) (pg_name (i := 2) sc_Plan_size_for.nd rfl (Or.inl rfl))
    (pss_one (ps_if (by exact (pt_cmpR op_geA (pv 2) (pv 1) (nomark _)))
      (pss_one (ps_ret (by exact (pv 2))))
      pss_nil)))
  (pss_one (ps_raise rfl tk0 (pmk_own PySem.F.excBase_ValueError T.x_TooLarge T.g_TooLarge T.k_TooLarge (raises_own T.bs_TooLarge T.ty_TooLarge) rfl)))))
theorem ok_Plan_per (T : Txt A mg) : FnOk P w A.K mg base (L2.CX P w) 2 T.f_Plan_per T.fd_Plan_per ["self", "size"] (sp_Plan_per A) := by
  refine T.F_Plan_per.okX sc_Plan_per (fun vs H Q E h => len_Plan_per A h) (fun cdv Ar outer s H vs Q E hr h => ⟨t_Plan_per A E, ?_, pure_Plan_per A T.na vs H Q E h⟩)
  have hu64 := hr.units
  have hu65 := hu65_of hr
  have hu1 := hu_of hr
  have tk0 := takes_of (X := cxOf (L2.CX P w) P w A.K mg base ["self", "size"] "Plan.per" (defScope s_Plan_per) T.f_Plan_per cdv Ar outer s H E) rfl rfl rfl rfl
  exact (pss_cons (ps_if (by exact (PW.pt (pw_or (pt_not (pt_val (pe_call (ok_is_whole T) (hr.mono (by decide)) rfl T.g_is_whole T.k_is_whole T.b_is_whole .nil pass0 (pa_cons (pv 1) pa_nil)))) (pw_or1 (pt_cmpR (op_inN hu65) (pv 1) (pe_fld (pv 0) rfl) (by first | exact nomark _ | rfl))))))
    (pss_one (ps_raise rfl tk0 (pmk_own PySem.F.excBase_ValueError T.x_NoSize T.g_NoSize T.k_NoSize (raises_own T.bs_NoSize T.ty_NoSize) rfl)))
    pss_nil)
  (pss_one (ps_ret (by exact (pe_op op_divA (pe_fld (pv 0) rfl) (pv 1))))))
theorem ok_l_plan_by (T : Txt A mg) : FnOk P w A.K mg base CX0 2 T.f_l_plan_by T.fd_l_plan_by ["_law_script"] (sp_l_plan_by A) := by
  refine T.F_l_plan_by.ok sc_l_plan_by (fun vs H Q E h => len_l_plan_by A h) (fun cdv Ar outer s H vs Q E hr h => ⟨t_l_plan_by A E, ?_, pure_l_plan_by A T.na vs H Q E h⟩)
  have hu64 := hr.units
  have hu65 := hu65_of hr
  have hu1 := hu_of hr
  exact (pss_cons (ps_set (i := 1) sc_l_plan_by.nd rfl (Or.inl rfl) (by exact (pe_call (ok_l_cell_at T) (hr.mono (by decide)) rfl T.g_l_cell_at T.k_l_cell_at T.b_l_cell_at .nil pass0 (pa_cons (pv 0) (pa_cons pe_int pa_nil)))))
  (pss_cons (ps_set (i := 2) sc_l_plan_by.nd rfl (Or.inl rfl) (by exact (pe_call (ok_l_cell_at T) (hr.mono (by decide)) rfl T.g_l_cell_at T.k_l_cell_at T.b_l_cell_at .nil pass0 (pa_cons (pv 0) (pa_cons pe_int pa_nil)))))
  (pss_cons (ps_set (i := 3) sc_l_plan_by.nd rfl (Or.inl rfl) (by exact (pe_op op_addA pe_int (pe_op op_modA (pv 1) pe_int))))
  (pss_cons (ps_set (i := 4) sc_l_plan_by.nd rfl (Or.inl rfl) (by exact (pe_op op_addA pe_int (pe_op op_modA (pv 2) pe_int))))
  (pss_cons (ps_if (by exact (pt_cmpR (op_eqA hu64) (pe_op op_modA (pe_op op_divA (pv 1) pe_int) pe_int) pe_int (nomark _)))
    (pss_cons (ps_set (i := 3) sc_l_plan_by.nd rfl (Or.inl rfl) (by exact (pe_op op_addA pe_int (pe_op op_modA (pe_op op_divA (pv 1) pe_int) pe_int))))
    (pss_one (ps_set (i := 4) sc_l_plan_by.nd rfl (Or.inl rfl) (by exact (pe_op op_addA pe_int (pe_op op_modA (pv 2) pe_int))))))
    pss_nil)
  (pss_cons (ps_if (by exact (pt_cmpR (op_eqA hu64) (pe_op op_modA (pe_op op_divA (pv 1) pe_int) pe_int) pe_int (nomark _)))
    (pss_cons (ps_set (i := 3) sc_l_plan_by.nd rfl (Or.inl rfl) (by exact (pe_op op_addA pe_int (pe_op op_modA (pe_op op_divA (pv 1) pe_int) pe_int))))
    (pss_one (ps_set (i := 4) sc_l_plan_by.nd rfl (Or.inl rfl) (by exact (pe_op op_addA pe_int (pe_op op_modA (pv 2) pe_int))))))
    pss_nil)
  (pss_cons (ps_if (by exact (pt_cmpR (op_eqA hu64) (pe_op op_modA (pe_op op_divA (pv 1) pe_int) pe_int) pe_int (nomark _)))
    (pss_cons (ps_set (i := 3) sc_l_plan_by.nd rfl (Or.inl rfl) (by exact (pe_op op_addA pe_int (pe_op op_modA (pe_op op_divA (pv 1) pe_int) pe_int))))
    (pss_one (ps_set (i := 4) sc_l_plan_by.nd rfl (Or.inl rfl) (by exact (pe_op op_addA pe_int (pe_op op_modA (pv 2) pe_int))))))
    pss_nil)
  (pss_one (ps_ret (by exact (pe_tup (pa_cons (pv 3) (pa_cons (pv 4) (pa_cons (pe_call (ok_l_sizes_by T) (hr.mono (by decide)) rfl T.g_l_sizes_by T.k_l_sizes_by T.b_l_sizes_by .nil pass0 (pa_cons (pe_call (ok_l_cell_at T) (hr.mono (by decide)) rfl T.g_l_cell_at T.k_l_cell_at T.b_l_cell_at .nil pass0 (pa_cons (pv 0) (pa_cons pe_int pa_nil))) (pa_cons (pv 4) (pa_cons (pe_op op_addA pe_int (pe_op op_modA (pe_call (ok_l_cell_at T) (hr.mono (by decide)) rfl T.g_l_cell_at T.k_l_cell_at T.b_l_cell_at .nil pass0 (pa_cons (pv 0) (pa_cons pe_int pa_nil))) pe_int)) pa_nil)))) pa_nil))))))))))))))
theorem ok_l_wished (T : Txt A mg) : FnOk P w A.K mg base CX0 2 T.f_l_wished T.fd_l_wished ["_law_model", "_law_drawn", "_law_wish"] (sp_l_wished A) := by
  refine T.F_l_wished.ok sc_l_wished (fun vs H Q E h => len_l_wished A h) (fun cdv Ar outer s H vs Q E hr h => ⟨t_l_wished A E, ?_, pure_l_wished A T.na vs H Q E h⟩)
  have hu64 := hr.units
  have hu65 := hu65_of hr
  have hu1 := hu_of hr
  exact (pss_cons (ps_set (i := 3) sc_l_wished.nd rfl (Or.inl rfl) (by exact (pe_call (ok_l_size_by T) (hr.mono (by decide)) rfl T.g_l_size_by T.k_l_size_by T.b_l_size_by .nil pass0 (pa_cons (pe_ix ix_A (pv 1) pe_int (fun _ _ => rfl)) (pa_cons (pv 2) pa_nil)))))
  (pss_cons (ps_if (by exact (pt_cmpR (op_eqA hu64) (pv 3) pe_int (nomark _)))
    (pss_one (ps_ret (by exact (pe_un un_neg pe_int))))
    pss_nil)
  (pss_cons (ps_set (i := 4) sc_l_wished.nd rfl (Or.inl rfl) (by exact (pe_call (ok_l_fullest T) (hr.mono (by decide)) rfl T.g_l_fullest T.k_l_fullest T.b_l_fullest .nil pass0 (pa_cons (pv 0) (pa_cons (pv 3) pa_nil)))))
  (pss_cons (ps_if (by exact (pt_cmpR op_ltA (pv 4) pe_int (nomark _)))
    (pss_cons (ps_set (i := 4) sc_l_wished.nd rfl (Or.inl rfl) (by exact (pe_call (ok_l_fresh T) (hr.mono (by decide)) rfl T.g_l_fresh T.k_l_fresh T.b_l_fresh .nil pass0 (pa_cons (pv 0) (pa_cons (pe_ix ix_A (pv 1) pe_int (fun _ _ => rfl)) pa_nil)))))
    (pss_cons (ps_if (by exact (pt_cmpR op_ltA (pv 4) pe_int (nomark _)))
      (pss_one (ps_ret (by exact (pe_un un_neg pe_int))))
      pss_nil)
    (pss_one (ps_dput hu1 (pv 0) (pv 4) (pe_lst (pa_cons (pv 3) (pa_cons (pe_op op_mulA (pe_lst (pa_cons pe_bl pa_nil)) (pe_op op_divA (pe_ix ix_A (pv 1) pe_int (fun _ _ => rfl)) (pv 3))) pa_nil))) rfl))))
    pss_nil)
  (pss_cons (ps_set (i := 5) sc_l_wished.nd rfl (Or.inl rfl) (by exact (pe_bm PySem.F.plainAttrs_list PySem.F.slot_list_index PySem.F.type_list_index (mt_indexA hu65) (pe_ix ix_A (pe_dget hu1 (pv 0) (pv 4) (fun _ _ => rfl)) pe_int (fun _ _ => rfl)) (pa_cons pe_bl pa_nil))))
  (pss_cons (ps_asg pe_bl (pg_sub (pe_ix ix_A (pe_dget hu1 (pv 0) (pv 4) (fun _ _ => rfl)) pe_int (fun _ _ => rfl)) (pv 5) set_list))
  (pss_one (ps_ret (by exact (pe_op op_addA (pe_op op_mulA (pv 4) (pe_ix ix_A (pv 1) pe_int (fun _ _ => rfl))) (pe_op op_mulA (pv 5) (pv 3))))))))))))
theorem ok_Room_give_back (T : Txt A mg) : FnOk P w A.K mg base (L2.CX P w) 3 T.f_Room_give_back T.fd_Room_give_back ["self", "place"] (sp_Room_give_back A) := by
  refine T.F_Room_give_back.okX sc_Room_give_back (fun vs H Q E h => len_Room_give_back A h) (fun cdv Ar outer s H vs Q E hr h => ⟨t_Room_give_back A E, ?_, pure_Room_give_back A T.na vs H Q E h⟩)
  have hu64 := hr.units
  have hu65 := hu65_of hr
  have hu1 := hu_of hr
  have tk0 := takes_of (X := cxOf (L2.CX P w) P w A.K mg base ["self", "place", "shelf", "begin", "unused", "other"] "Room.give_back" (defScope s_Room_give_back) T.f_Room_give_back cdv Ar outer s H E) rfl rfl rfl rfl
  exact (pss_cons (ps_expr (by exact (pe_meth (pv 0) T.cl_Room T.m_Room__check_out (ok_Room__check_out T) (hr.mono (by decide)) T.b_Room__check_out .nil (passes_call tk0 (fun _ _ _ _ h => h)) (pa_cons (pv 1) pa_nil))))
  (pss_cons (ps_set (i := 2) sc_Room_give_back.nd rfl (Or.inr rfl) (by exact (pe_dget hu1 (pe_fld (pv 0) rfl) (pe_meth (pv 0) T.cl_Room T.m_Room__page_of (ok_Room__page_of T) (hr.mono (by decide)) T.b_Room__page_of .nil pass0 (pa_cons (pv 1) pa_nil)) (fun _ _ => rfl))))
  (pss_cons (ps_set (i := 3) sc_Room_give_back.nd rfl (Or.inl rfl) (by exact (pe_op op_mulA (pe_fld (pv 2) rfl) (pe_fld (pe_fld (pv 0) rfl) rfl))))
  (pss_cons (ps_expr (by exact (pe_meth (pv 2) T.cl_Shelf T.m_Shelf_give (ok_Shelf_give T) (hr.mono (by decide)) T.b_Shelf_give .nil (passes_call tk0 (fun _ _ _ _ h => h)) (pa_cons (pe_op op_divA (pe_op op_subA (pv 1) (pv 3)) (pe_fld (pv 2) rfl)) pa_nil))))
  (pss_cons (ps_ddel (pe_fld (pv 0) rfl) (pv 1))
  (pss_cons (ps_setLc (i := 4) (own := [("other", 5)]) (g := (gName 5)) (tt := (tTest (tOp (rEqA A.K) (tFld A.K (tVar 5) "size") (tFld A.K (tVar 2) "size")))) rfl sc_Room_give_back.nd rfl rfl (sw_true rfl rfl rfl (by decide +kernel)) (pi_list (pe_meth0 (pv 0) T.cl_Room T.m_Room__unused (ok_Room__unused T) (hr.mono (by decide)) T.b_Room__unused .nil pass0)) (blkOk_by (own := [("other", 5)]) (N := ["self", "place", "shelf", "begin", "unused", "other"]) (sc := defScope s_Room_give_back) (by decide +kernel)) (fun _ _ _ _ _ => (pg_name (i := 5) sc_Room_give_back.nd rfl (Or.inl rfl))) (fun _ _ _ _ _ => (pts_one (pt_cmpR (op_eqA hu64) (pe_fld (pv 5) rfl) (pe_fld (pv 2) rfl) (nomark _)))) (fun _ _ _ _ _ => (pv 5)))
  (pss_one (ps_if (by exact (PW.pt (pw_and (pt_cmpR (op_eqA hu64) (pe_meth0 (pv 2) T.cl_Shelf T.m_Shelf_out (ok_Shelf_out T) (hr.mono (by decide)) T.b_Shelf_out .nil pass0) pe_int (nomark _)) (pw_and1 (pt_cmpR op_gtA (pe_callB call_lenA (by rfl) T.n_len (by decide +kernel) (pa_cons (pv 4) pa_nil)) pe_int (nomark _))))))
    (pss_one (ps_expr (by exact (pe_meth (pv 0) T.cl_Room T.m_Room__give_back_shelves (ok_Room__give_back_shelves T) (hr.mono (by decide)) T.b_Room__give_back_shelves .nil pass0 (pa_cons (pe_lst (pa_cons (pv 2) pa_nil)) pa_nil)))))
    pss_nil))))))))
theorem ok_Room_trim (T : Txt A mg) : FnOk P w A.K mg base CX0 3 T.f_Room_trim T.fd_Room_trim ["self"] (sp_Room_trim A) := by
  refine T.F_Room_trim.ok sc_Room_trim (fun vs H Q E h => len_Room_trim A h) (fun cdv Ar outer s H vs Q E hr h => ⟨t_Room_trim A E, ?_, pure_Room_trim A T.na vs H Q E h⟩)
  have hu64 := hr.units
  have hu65 := hu65_of hr
  have hu1 := hu_of hr
  exact (pss_cons (ps_set (i := 1) sc_Room_trim.nd rfl (Or.inl rfl) (by exact (pe_meth0 (pv 0) T.cl_Room T.m_Room__unused (ok_Room__unused T) (hr.mono (by decide)) T.b_Room__unused .nil pass0)))
  (pss_cons (ps_expr (by exact (pe_meth (pv 0) T.cl_Room T.m_Room__give_back_shelves (ok_Room__give_back_shelves T) (hr.mono (by decide)) T.b_Room__give_back_shelves .nil pass0 (pa_cons (pv 1) pa_nil))))
  (pss_one (ps_ret (by exact (pe_callB call_lenA (by rfl) T.n_len (by decide +kernel) (pa_cons (pv 1) pa_nil)))))))
theorem ok_Room_room_for (T : Txt A mg) : FnOk P w A.K mg base (L2.CX P w) 3 T.f_Room_room_for T.fd_Room_room_for ["self", "places"] (sp_Room_room_for A) := by
  refine T.F_Room_room_for.okX sc_Room_room_for (fun vs H Q E h => len_Room_room_for A h) (fun cdv Ar outer s H vs Q E hr h => ⟨t_Room_room_for A E, ?_, pure_Room_room_for A T.na vs H Q E h⟩)
  have hu64 := hr.units
  have hu65 := hu65_of hr
  have hu1 := hu_of hr
  have tk0 := takes_of (X := cxOf (L2.CX P w) P w A.K mg base ["self", "places", "size", "slots", "others", "pages", "shelf"] "Room.room_for" (defScope s_Room_room_for) T.f_Room_room_for cdv Ar outer s H E) rfl rfl rfl rfl
  exact (pss_cons (ps_set (i := 2) sc_Room_room_for.nd rfl (Or.inr rfl) (by exact (pe_meth (pe_fld (pv 0) rfl) T.cl_Plan T.m_Plan_size_for (ok_Plan_size_for T) (hr.mono (by decide)) T.b_Plan_size_for .nil (passes_call tk0 (fun _ _ _ _ h => h)) (pa_cons (pv 1) pa_nil))))
  (pss_cons (ps_set (i := 3) sc_Room_room_for.nd rfl (Or.inl rfl) (by exact (pe_callB (cr_sum rfl) (by rfl) T.n_sum (by decide +kernel) (pa_cons (pe_lc (own := [("shelf", 6)]) (g := (gName 6)) (tt := tYes) rfl sc_Room_room_for.nd (pi_list (pe_meth (pv 0) T.cl_Room T.m_Room__of_size (ok_Room__of_size T) (hr.mono (by decide)) T.b_Room__of_size .nil pass0 (pa_cons (pv 2) pa_nil))) (blkOk_by (own := [("shelf", 6)]) (N := ["self", "places", "size", "slots", "others", "pages", "shelf"]) (sc := defScope s_Room_room_for) (by decide +kernel)) (fun _ _ _ _ _ => (pg_name (i := 6) sc_Room_room_for.nd rfl (Or.inl rfl))) (fun _ _ _ _ _ => pts_nil) (fun _ _ _ _ _ => (pe_callB call_lenA (by rfl) T.n_len (by decide +kernel) (pa_cons (pe_meth0 (pv 6) T.cl_Shelf T.m_Shelf_free (ok_Shelf_free T) (hr.mono (by decide)) T.b_Shelf_free .nil pass0) pa_nil)))) pa_nil))))
  (pss_cons (ps_setLc (i := 4) (own := [("shelf", 6)]) (g := (gName 6)) (tt := (tTest (tOp (rNeA A.K) (tFld A.K (tVar 6) "size") (tVar 2)))) rfl sc_Room_room_for.nd rfl rfl (sw_true rfl rfl rfl (by decide +kernel)) (pi_list (pe_meth0 (pv 0) T.cl_Room T.m_Room__unused (ok_Room__unused T) (hr.mono (by decide)) T.b_Room__unused .nil pass0)) (blkOk_by (own := [("shelf", 6)]) (N := ["self", "places", "size", "slots", "others", "pages", "shelf"]) (sc := defScope s_Room_room_for) (by decide +kernel)) (fun _ _ _ _ _ => (pg_name (i := 6) sc_Room_room_for.nd rfl (Or.inl rfl))) (fun _ _ _ _ _ => (pts_one (pt_cmpR (op_neA hu64) (pe_fld (pv 6) rfl) (pv 2) (nomark _)))) (fun _ _ _ _ _ => (pv 6)))
  (pss_cons (ps_set (i := 5) sc_Room_room_for.nd rfl (Or.inl rfl) (by exact (pe_op op_addA (pe_callB call_lenA (by rfl) T.n_len (by decide +kernel) (pa_cons (pe_meth0 (pv 0) T.cl_Room T.m_Room_pile (ok_Room_pile T) (hr.mono (by decide)) T.b_Room_pile .nil pass0) pa_nil)) (pe_callB call_lenA (by rfl) T.n_len (by decide +kernel) (pa_cons (pv 4) pa_nil)))))
  (pss_one (ps_ret (by exact (pe_op op_addA (pv 3) (pe_op op_mulA (pv 5) (pe_meth (pe_fld (pv 0) rfl) T.cl_Plan T.m_Plan_per (ok_Plan_per T) (hr.mono (by decide)) T.b_Plan_per .nil (passes_call tk0 (fun _ _ _ _ h => h)) (pa_cons (pv 2) pa_nil)))))))))))
theorem ok_Room__check_step (T : Txt A mg) : FnOk P w A.K mg base (L2.CX P w) 3 T.f_Room__check_step T.fd_Room__check_step ["self", "place", "step"] (sp_Room__check_step A) := by
  refine T.F_Room__check_step.okX sc_Room__check_step (fun vs H Q E h => len_Room__check_step A h) (fun cdv Ar outer s H vs Q E hr h => ⟨t_Room__check_step A E, ?_, pure_Room__check_step A T.na vs H Q E h⟩)
  have hu64 := hr.units
  have hu65 := hu65_of hr
  have hu1 := hu_of hr
  have tk0 := takes_of (X := cxOf (L2.CX P w) P w A.K mg base ["self", "place", "step"] "Room._check_step" (defScope s_Room__check_step) T.f_Room__check_step cdv Ar outer s H E) rfl rfl rfl rfl
  exact (pss_cons (ps_expr (by exact (pe_meth (pv 0) T.cl_Room T.m_Room__check_out (ok_Room__check_out T) (hr.mono (by decide)) T.b_Room__check_out .nil (passes_call tk0 (fun _ _ _ _ h => h)) (pa_cons (pv 1) pa_nil))))
  (pss_one (ps_if (by exact (PW.pt (pw_or (pt_cmpR op_ltA (pv 2) pe_int (nomark _)) (pw_or1 (pt_cmpR op_geA (pv 2) (pe_callB call_lenA (by rfl) T.n_len (by decide +kernel) (pa_cons (pe_dget hu1 (pe_fld (pv 0) rfl) (pv 1) (fun _ _ => rfl)) pa_nil)) (nomark _))))))
    (pss_one (ps_raise rfl tk0 (pmk_own PySem.F.excBase_ValueError T.x_OutOfThing T.g_OutOfThing T.k_OutOfThing (raises_own T.bs_OutOfThing T.ty_OutOfThing) rfl)))
    pss_nil)))
theorem ok_Room__page_for_shelf (T : Txt A mg) : FnOk P w A.K mg base (L2.CX P w) 3 T.f_Room__page_for_shelf T.fd_Room__page_for_shelf ["self"] (sp_Room__page_for_shelf A) := by
  refine T.F_Room__page_for_shelf.okX sc_Room__page_for_shelf (fun vs H Q E h => len_Room__page_for_shelf A h) (fun cdv Ar outer s H vs Q E hr h => ⟨t_Room__page_for_shelf A E, ?_, pure_Room__page_for_shelf A T.na vs H Q E h⟩)
  have hu64 := hr.units
  have hu65 := hu65_of hr
  have hu1 := hu_of hr
  have tk0 := takes_of (X := cxOf (L2.CX P w) P w A.K mg base ["self", "pages", "shelf"] "Room._page_for_shelf" (defScope s_Room__page_for_shelf) T.f_Room__page_for_shelf cdv Ar outer s H E) rfl rfl rfl rfl
  exact (pss_cons (ps_set (i := 1) sc_Room__page_for_shelf.nd rfl (Or.inl rfl) (by exact (pe_meth0 (pv 0) T.cl_Room T.m_Room_pile (ok_Room_pile T) (hr.mono (by decide)) T.b_Room_pile .nil pass0)))
  (pss_cons (ps_if (by exact (pt_not (pt_truth (pv 1) (by intro _; rfl))))
    (pss_one (ps_setLc (i := 1) (own := [("shelf", 2)]) (g := (gName 2)) (tt := tYes) rfl sc_Room__page_for_shelf.nd rfl rfl (sw_true rfl rfl rfl (by decide +kernel)) (pi_list (pe_meth0 (pv 0) T.cl_Room T.m_Room__unused (ok_Room__unused T) (hr.mono (by decide)) T.b_Room__unused .nil pass0)) (blkOk_by (own := [("shelf", 2)]) (N := ["self", "pages", "shelf"]) (sc := defScope s_Room__page_for_shelf) (by decide +kernel)) (fun _ _ _ _ _ => (pg_name (i := 2) sc_Room__page_for_shelf.nd rfl (Or.inl rfl))) (fun _ _ _ _ _ => pts_nil) (fun _ _ _ _ _ => (pe_fld (pv 2) rfl))))
    pss_nil)
  (pss_cons (ps_if (by exact (pt_not (pt_truth (pv 1) (by intro _; rfl))))
    (pss_one (ps_raise rfl tk0 (pmk_own PySem.F.excBase_ValueError T.x_NoRoom T.g_NoRoom T.k_NoRoom (raises_own T.bs_NoRoom T.ty_NoRoom) rfl)))
    pss_nil)
  (pss_one (ps_ret (by exact (pe_ix ix_A (pv 1) pe_int (fun _ _ => rfl))))))))
theorem ok_Room__take_place (T : Txt A mg) : FnOk P w A.K mg base (L2.CX P w) 3 T.f_Room__take_place T.fd_Room__take_place ["self", "shelf"] (sp_Room__take_place A) := by
  refine T.F_Room__take_place.okX sc_Room__take_place (fun vs H Q E h => len_Room__take_place A h) (fun cdv Ar outer s H vs Q E hr h => ⟨t_Room__take_place A E, ?_, pure_Room__take_place A T.na vs H Q E h⟩)
  have hu64 := hr.units
  have hu65 := hu65_of hr
  have hu1 := hu_of hr
  have tk0 := takes_of (X := cxOf (L2.CX P w) P w A.K mg base ["self", "shelf"] "Room._take_place" (defScope s_Room__take_place) T.f_Room__take_place cdv Ar outer s H E) rfl rfl rfl rfl
  exact (pss_one (ps_ret (by exact (pe_op op_addA (pe_op op_mulA (pe_fld (pv 1) rfl) (pe_fld (pe_fld (pv 0) rfl) rfl)) (pe_op op_mulA (pe_meth0 (pv 1) T.cl_Shelf T.m_Shelf_take (ok_Shelf_take T) (hr.mono (by decide)) T.b_Shelf_take .nil (passes_call tk0 (fun _ _ _ _ h => h))) (pe_fld (pv 1) rfl))))))
theorem ok_check_sizes (T : Txt A mg) : FnOk P w A.K mg base (L2.CX P w) 3 T.f_check_sizes T.fd_check_sizes ["sizes", "length"] (sp_check_sizes A) := by
  refine T.F_check_sizes.okX sc_check_sizes (fun vs H Q E h => len_check_sizes A h) (fun cdv Ar outer s H vs Q E hr h => ⟨t_check_sizes A E, ?_, pure_check_sizes A T.na vs H Q E h⟩)
  have hu64 := hr.units
  have hu65 := hu65_of hr
  have hu1 := hu_of hr
  have tk0 := takes_of (X := cxOf (L2.CX P w) P w A.K mg base ["sizes", "length", "ahead", "size"] "check_sizes" (defScope s_check_sizes) T.f_check_sizes cdv Ar outer s H E) rfl rfl rfl rfl
  have po0 := passes_of (X := cxOf (L2.CX P w) P w A.K mg base ["sizes", "length", "ahead", "size"] "check_sizes" (defScope s_check_sizes) T.f_check_sizes cdv Ar outer s H E) rfl
  exact (pss_cons (ps_if (by exact (pt_not (pt_val (pe_callB call_isi (by rfl) T.n_isinstance (by decide +kernel) (pa_cons (pv 0) (pa_cons (pe_bltn (v := .ty "list") rfl T.n_list (by decide +kernel) rfl) pa_nil))))))
    (pss_one (ps_raise rfl tk0 (pmk_own PySem.F.excBase_ValueError T.x_BadPlan T.g_BadPlan T.k_BadPlan (raises_own T.bs_BadPlan T.ty_BadPlan) rfl)))
    pss_nil)
  (pss_cons (ps_if (by exact (pt_not (pt_val (pe_call (ok_is_within T) (hr.mono (by decide)) rfl T.g_is_within T.k_is_within T.b_is_within .nil pass0 (pa_cons (pe_callB call_lenA (by rfl) T.n_len (by decide +kernel) (pa_cons (pv 0) pa_nil)) (pa_cons pe_int (pa_cons (pe_glob (v := .int 8) (by rfl) T.v_MOST_SIZES ⟨_, rfl⟩) pa_nil)))))))
    (pss_one (ps_raise rfl tk0 (SkE.pmk_own1 PySem.F.excBase_ValueError T.x_BadPlan T.g_BadPlan T.k_BadPlan (raises_own T.bs_BadPlan T.ty_BadPlan) rfl (pe_joined (PJ.cons pe_str (PJ.cons (pe_fmt (pe_glob (v := .int 8) (by rfl) T.v_MOST_SIZES ⟨_, rfl⟩)) (PJ.cons pe_str PJ.nil)))))))
    pss_nil)
  (pss_cons (ps_set (i := 2) sc_check_sizes.nd rfl (Or.inl rfl) (by exact pe_int))
  (pss_one (ps_for po0 rfl (pi_list (pv 0)) (pg_name (i := 3) sc_check_sizes.nd rfl (Or.inl rfl))
    (pss_cons (ps_if (by exact (pt_not (pt_val (pe_call (ok_is_within T) (hr.mono (by decide)) rfl T.g_is_within T.k_is_within T.b_is_within .nil pass0 (pa_cons (pv 3) (pa_cons (pe_op op_addA (pv 2) pe_int) (pa_cons (pv 1) pa_nil)))))))
      (pss_one (ps_raise rfl tk0 (pmk_own PySem.F.excBase_ValueError T.x_BadPlan T.g_BadPlan T.k_BadPlan (raises_own T.bs_BadPlan T.ty_BadPlan) rfl)))
      pss_nil)
    (pss_one (ps_set (i := 2) sc_check_sizes.nd rfl (Or.inl rfl) (by exact (pv 3))))))))))
theorem ok_l_stands (T : Txt A mg) : FnOk P w A.K mg base CX0 3 T.f_l_stands T.fd_l_stands ["_law_room", "_law_model", "_law_drawn", "_law_kept"] (sp_l_stands A) := by
  refine T.F_l_stands.ok sc_l_stands (fun vs H Q E h => len_l_stands A h) (fun cdv Ar outer s H vs Q E hr h => ⟨t_l_stands A E, ?_, pure_l_stands A T.na vs H Q E h⟩)
  have hu64 := hr.units
  have hu65 := hu65_of hr
  have hu1 := hu_of hr
  exact (pss_cons (ps_for PassesOwn.never rfl (pi_list (pv 3)) (pg_tup rfl (pgs_cons (pg_name (i := 4) sc_l_stands.nd rfl (Or.inl rfl)) (pgs_cons (pg_name (i := 5) sc_l_stands.nd rfl (Or.inl rfl)) pgs_nil)))
    (pss_one (ps_if (by exact (pt_cmpR (op_neA hu64) (pv 4) (pv 5) (nomark _)))
      (pss_one (ps_ret (by exact pe_bl)))
      pss_nil)))
  (pss_cons (ps_setLc (i := 6) (own := [("_law_page", 9)]) (g := (gName 9)) (tt := tYes) rfl sc_l_stands.nd rfl rfl (sw_true rfl rfl rfl (by decide +kernel)) (pi_list (pe_callB (call_sortedA rfl) (by rfl) T.n_sorted (by decide +kernel) (pa_cons (pv 1) pa_nil))) (blkOk_by (own := [("_law_page", 9)]) (N := ["_law_room", "_law_model", "_law_drawn", "_law_kept", "_law_one", "_law_copy", "_law_shelves", "_law_pile", "_law_found", "_law_page"]) (sc := defScope s_l_stands) (by decide +kernel)) (fun _ _ _ _ _ => (pg_name (i := 9) sc_l_stands.nd rfl (Or.inl rfl))) (fun _ _ _ _ _ => pts_nil) (fun _ _ _ _ _ => (pe_tup (pa_cons (pv 9) (pa_cons (pe_ix ix_A (pe_dget hu1 (pv 1) (pv 9) (fun _ _ => rfl)) pe_int (fun _ _ => rfl)) (pa_cons (pe_bm PySem.F.plainAttrs_list PySem.F.slot_list_count PySem.F.type_list_count mt_bcount (pe_ix ix_A (pe_dget hu1 (pv 1) (pv 9) (fun _ _ => rfl)) pe_int (fun _ _ => rfl)) (pa_cons pe_bl pa_nil)) pa_nil))))))
  (pss_cons (ps_setLc (i := 7) (own := [("_law_page", 9)]) (g := (gName 9)) (tt := (tB (tDNotIn (tVar 9) (tVar 1)))) rfl sc_l_stands.nd rfl rfl (sw_true rfl rfl rfl (by decide +kernel)) (pi_range1 (by rfl) T.n_range (pa_cons (pe_ix ix_A (pv 2) pe_int (fun _ _ => rfl)) pa_nil)) (blkOk_by (own := [("_law_page", 9)]) (N := ["_law_room", "_law_model", "_law_drawn", "_law_kept", "_law_one", "_law_copy", "_law_shelves", "_law_pile", "_law_found", "_law_page"]) (sc := defScope s_l_stands) (by decide +kernel)) (fun _ _ _ _ _ => (pg_name (i := 9) sc_l_stands.nd rfl (Or.inl rfl))) (fun _ _ _ _ _ => (pts_one (pt_cmp (pc_dnotin hu1 (pv 9) (pv 1)) (by rfl)))) (fun _ _ _ _ _ => (pv 9)))
  (pss_cons (ps_set (i := 8) sc_l_stands.nd rfl (Or.inl rfl) (by exact (pe_lst (pa_cons (pe_meth0 (pv 0) T.cl_Room T.m_Room_shelves (ok_Room_shelves T) (hr.mono (by decide)) T.b_Room_shelves .nil pass0) (pa_cons (pe_meth0 (pv 0) T.cl_Room T.m_Room_pile (ok_Room_pile T) (hr.mono (by decide)) T.b_Room_pile .nil pass0) (pa_cons (pe_meth0 (pv 0) T.cl_Room T.m_Room_things (ok_Room_things T) (hr.mono (by decide)) T.b_Room_things .nil pass0) pa_nil))))))
  (pss_cons (ps_expr (by exact (pe_bm0 PySem.F.plainAttrs_list PySem.F.slot_list_clear PySem.F.type_list_clear mt_clear (pv 3))))
  (pss_cons (ps_for PassesOwn.never rfl (pi_list (pv 8)) (pg_name (i := 4) sc_l_stands.nd rfl (Or.inl rfl))
    (pss_one (ps_expr (by exact (pe_bm PySem.F.plainAttrs_list PySem.F.slot_list_append PySem.F.type_list_append mt_append (pv 3) (pa_cons (pe_tup (pa_cons (pv 4) (pa_cons (pe_callTy call_listA (by rfl) T.n_list (by decide +kernel) (pa_cons (pv 4) pa_nil)) pa_nil))) pa_nil))))))
  (pss_one (ps_ret (by exact (pe_cmpR (op_eqA hu64) (pv 8) (pe_lst (pa_cons (pv 6) (pa_cons (pv 7) (pa_cons (pe_call (ok_l_places T) (hr.mono (by decide)) rfl T.g_l_places T.k_l_places T.b_l_places .nil pass0 (pa_cons (pv 1) (pa_cons (pe_ix ix_A (pv 2) pe_int (fun _ _ => rfl)) pa_nil))) pa_nil)))) (nomark _)))))))))))
theorem ok_Room_read (T : Txt A mg) : FnOk P w A.K mg base (L2.CX P w) 4 T.f_Room_read T.fd_Room_read ["self", "place", "step"] (sp_Room_read A) := by
  refine T.F_Room_read.okX sc_Room_read (fun vs H Q E h => len_Room_read A h) (fun cdv Ar outer s H vs Q E hr h => ⟨t_Room_read A E, ?_, pure_Room_read A T.na vs H Q E h⟩)
  have hu64 := hr.units
  have hu65 := hu65_of hr
  have hu1 := hu_of hr
  have tk0 := takes_of (X := cxOf (L2.CX P w) P w A.K mg base ["self", "place", "step"] "Room.read" (defScope s_Room_read) T.f_Room_read cdv Ar outer s H E) rfl rfl rfl rfl
  exact (pss_cons (ps_expr (by exact (pe_meth (pv 0) T.cl_Room T.m_Room__check_step (ok_Room__check_step T) (hr.mono (by decide)) T.b_Room__check_step .nil (passes_call tk0 (fun _ _ _ _ h => h)) (pa_cons (pv 1) (pa_cons (pv 2) pa_nil)))))
  (pss_one (ps_ret (by exact (pe_ix ix_A (pe_dget hu1 (pe_fld (pv 0) rfl) (pv 1) (fun _ _ => rfl)) (pv 2) (fun _ _ => rfl))))))
theorem ok_Room_write (T : Txt A mg) : FnOk P w A.K mg base (L2.CX P w) 4 T.f_Room_write T.fd_Room_write ["self", "place", "step", "number"] (sp_Room_write A) := by
  refine T.F_Room_write.okX sc_Room_write (fun vs H Q E h => len_Room_write A h) (fun cdv Ar outer s H vs Q E hr h => ⟨t_Room_write A E, ?_, pure_Room_write A T.na vs H Q E h⟩)
  have hu64 := hr.units
  have hu65 := hu65_of hr
  have hu1 := hu_of hr
  have tk0 := takes_of (X := cxOf (L2.CX P w) P w A.K mg base ["self", "place", "step", "number"] "Room.write" (defScope s_Room_write) T.f_Room_write cdv Ar outer s H E) rfl rfl rfl rfl
  exact (pss_cons (ps_expr (by exact (pe_meth (pv 0) T.cl_Room T.m_Room__check_step (ok_Room__check_step T) (hr.mono (by decide)) T.b_Room__check_step .nil (passes_call tk0 (fun _ _ _ _ h => h)) (pa_cons (pv 1) (pa_cons (pv 2) pa_nil)))))
  (pss_one (ps_asg (pv 3) (pg_sub (pe_dget hu1 (pe_fld (pv 0) rfl) (pv 1) (fun _ _ => rfl)) (pv 2) set_list))))
theorem ok_Room__move_things (T : Txt A mg) (TB : LamX.TabB base mg A.lamC A.lamP) : FnOk P w A.K mg base (L2.CX P w) 4 T.f_Room__move_things T.fd_Room__move_things ["self", "leaving", "staying"] (sp_Room__move_things A) := by
  refine T.F_Room__move_things.okX sc_Room__move_things (fun vs H Q E h => len_Room__move_things A h) (fun Ar outer s H vs Q E hr h => ⟨t_Room__move_things A E, ?_, pure_Room__move_things A T.na vs H Q E h⟩)
  have hu64 := hr.units
  have hu65 := hu65_of hr
  have hu1 := hu_of hr
  have tk0 := takes_of (X := cxOf (L2.CX P w) P w A.K mg base ["self", "leaving", "staying", "pages", "place", "places", "rising", "moves", "with_room", "new", "shelf"] "Room._move_things" (defScope s_Room__move_things) T.f_Room__move_things (.ref A.lamC) Ar outer s H E) rfl rfl rfl rfl
  have po0 := passes_of (X := cxOf (L2.CX P w) P w A.K mg base ["self", "leaving", "staying", "pages", "place", "places", "rising", "moves", "with_room", "new", "shelf"] "Room._move_things" (defScope s_Room__move_things) T.f_Room__move_things (.ref A.lamC) Ar outer s H E) rfl
  exact (pss_cons (ps_set (i := 3) sc_Room__move_things.nd rfl (Or.inr rfl) (by exact (pe_lc (own := [("shelf", 10)]) (g := (gName 10)) (tt := tYes) rfl sc_Room__move_things.nd (pi_list (pv 1)) (blkOk_by (own := [("shelf", 10)]) (N := ["self", "leaving", "staying", "pages", "place", "places", "rising", "moves", "with_room", "new", "shelf"]) (sc := defScope s_Room__move_things) (by decide +kernel)) (fun _ _ _ _ _ => (pg_name (i := 10) sc_Room__move_things.nd rfl (Or.inl rfl))) (fun _ _ _ _ _ => pts_nil) (fun _ _ _ _ _ => (pe_fld (pv 10) rfl)))))
  (pss_cons (ps_setLc (i := 5) (own := [("place", 4)]) (g := (gName 4)) (tt := (tTest (tOp (rInP A.K) (tMeth A.c_Room "_page_of" (sp_Room__page_of A) [] E0 (tVar 0) (tCons (tVar 4) tNil)) (tVar 3)))) rfl sc_Room__move_things.nd rfl rfl (sw_true rfl rfl rfl (by decide +kernel)) (pi_list (pe_callB (call_sortedA rfl) (by rfl) T.n_sorted (by decide +kernel) (pa_cons (pe_fld (pv 0) rfl) pa_nil))) (blkOk_by (own := [("place", 4)]) (N := ["self", "leaving", "staying", "pages", "place", "places", "rising", "moves", "with_room", "new", "shelf"]) (sc := defScope s_Room__move_things) (by decide +kernel)) (fun _ _ _ _ _ => (pg_name (i := 4) sc_Room__move_things.nd rfl (Or.inl rfl))) (fun _ _ _ _ _ => (pts_one (pt_cmpR (op_inP hu65) (pe_meth (pv 0) T.cl_Room T.m_Room__page_of (ok_Room__page_of T) (hr.mono (by decide)) T.b_Room__page_of .nil pass0 (pa_cons (pv 4) pa_nil)) (pv 3) (by first | exact nomark _ | rfl)))) (fun _ _ _ _ _ => (pv 4)))
  (pss_cons (ps_set (i := 6) sc_Room__move_things.nd rfl (Or.inl rfl) (by exact (pe_callBK (cr_sortBy (kcall_lam3 (k := 0) T.lamO_eq (NdefX.nscope_by (by decide +kernel)) (fun pm ctv c' us hl => match us, hl with | [_], _ => rfl) (fun f A outer s H E c' hr => by exact (pe_fld (pv 0) rfl)) (Room.in1 (Room.in1 (hr.mono (by decide)))) (fun e => e.in1.in1))) (by rfl) T.n_sorted (by decide +kernel) (pa_cons (pv 2) pa_nil) (pk_cons (pe_lam3 TB rfl T.lamQ_eq T.lamO_eq) pk_nil))))
  (pss_cons (ps_set (i := 7) sc_Room__move_things.nd rfl (Or.inl rfl) (by exact (pe_lst pa_nil)))
  (pss_cons (ps_for po0 rfl (pi_list (pv 5)) (pg_name (i := 4) sc_Room__move_things.nd rfl (Or.inl rfl))
    (pss_cons (ps_setLc (i := 8) (own := [("shelf", 10)]) (g := (gName 10)) (tt := (tTru A.K (tMeth A.c_Shelf "free" (sp_Shelf_free A) [] E0 (tVar 10) tNil))) rfl sc_Room__move_things.nd rfl rfl (sw_true rfl rfl rfl (by decide +kernel)) (pi_list (pv 6)) (blkOk_by (own := [("shelf", 10)]) (N := ["self", "leaving", "staying", "pages", "place", "places", "rising", "moves", "with_room", "new", "shelf"]) (sc := defScope s_Room__move_things) (by decide +kernel)) (fun _ _ _ _ _ => (pg_name (i := 10) sc_Room__move_things.nd rfl (Or.inl rfl))) (fun _ _ _ _ _ => (pts_one (pt_truth (pe_meth0 (pv 10) T.cl_Shelf T.m_Shelf_free (ok_Shelf_free T) (hr.mono (by decide)) T.b_Shelf_free .nil pass0) (by intro _; rfl)))) (fun _ _ _ _ _ => (pv 10)))
    (pss_cons (ps_set (i := 9) sc_Room__move_things.nd rfl (Or.inl rfl) (by exact (pe_meth (pv 0) T.cl_Room T.m_Room__take_place (ok_Room__take_place T) (hr.mono (by decide)) T.b_Room__take_place .nil (passes_call tk0 (fun _ _ _ _ h => h)) (pa_cons (pe_ix ix_A (pv 8) pe_int (fun _ _ => rfl)) pa_nil))))
    (pss_cons (ps_dput hu1 (pe_fld (pv 0) rfl) (pv 9) (pe_dpop1 (pe_fld (pv 0) rfl) (pv 4) ⟨by rfl, by rfl, by rfl, by rfl⟩) rfl)
    (pss_one (ps_expr (by exact (pe_bm PySem.F.plainAttrs_list PySem.F.slot_list_append PySem.F.type_list_append mt_append (pv 7) (pa_cons (pe_tup (pa_cons (pv 4) (pa_cons (pv 9) pa_nil))) pa_nil)))))))))
  (pss_one (ps_ret (by exact (pv 7)))))))))
theorem ok_Plan_init (T : Txt A mg) : FnOk P w A.K mg base (L2.CX P w) 4 T.f_Plan_init T.fd_Plan_init ["self", "pages", "length", "sizes"] (sp_Plan_init A) := by
  refine T.F_Plan_init.okX sc_Plan_init (fun vs H Q E h => len_Plan_init A h) (fun cdv Ar outer s H vs Q E hr h => ⟨t_Plan_init A E, ?_, pure_Plan_init A T.na vs H Q E h⟩)
  have hu64 := hr.units
  have hu65 := hu65_of hr
  have hu1 := hu_of hr
  have tk0 := takes_of (X := cxOf (L2.CX P w) P w A.K mg base ["self", "pages", "length", "sizes"] "Plan.__init__" (defScope s_Plan_init) T.f_Plan_init cdv Ar outer s H E) rfl rfl rfl rfl
  exact (pss_cons (ps_if (by exact (pt_not (pt_val (pe_call (ok_is_within T) (hr.mono (by decide)) rfl T.g_is_within T.k_is_within T.b_is_within .nil pass0 (pa_cons (pv 1) (pa_cons pe_int (pa_cons (pe_glob (v := .int 40) (by rfl) T.v_MOST_PAGES ⟨_, rfl⟩) pa_nil)))))))
    (pss_one (ps_raise rfl tk0 (SkE.pmk_own1 PySem.F.excBase_ValueError T.x_BadPlan T.g_BadPlan T.k_BadPlan (raises_own T.bs_BadPlan T.ty_BadPlan) rfl (pe_joined (PJ.cons pe_str (PJ.cons (pe_fmt (pe_glob (v := .int 40) (by rfl) T.v_MOST_PAGES ⟨_, rfl⟩)) (PJ.cons pe_str PJ.nil)))))))
    pss_nil)
  (pss_cons (ps_if (by exact (pt_not (pt_val (pe_call (ok_is_within T) (hr.mono (by decide)) rfl T.g_is_within T.k_is_within T.b_is_within .nil pass0 (pa_cons (pv 2) (pa_cons pe_int (pa_cons (pe_glob (v := .int 60) (by rfl) T.v_MOST_LENGTH ⟨_, rfl⟩) pa_nil)))))))
    (pss_one (ps_raise rfl tk0 (SkE.pmk_own1 PySem.F.excBase_ValueError T.x_BadPlan T.g_BadPlan T.k_BadPlan (raises_own T.bs_BadPlan T.ty_BadPlan) rfl (pe_joined (PJ.cons pe_str (PJ.cons (pe_fmt (pe_glob (v := .int 60) (by rfl) T.v_MOST_LENGTH ⟨_, rfl⟩)) PJ.nil))))))
    pss_nil)
  (pss_cons (ps_expr (by exact (pe_call (ok_check_sizes T) (hr.mono (by decide)) rfl T.g_check_sizes T.k_check_sizes T.b_check_sizes .nil (passes_call tk0 (fun _ _ _ _ h => h)) (pa_cons (pv 3) (pa_cons (pv 2) pa_nil)))))
  (pss_cons (ps_fld (pv 0) (pv 1) rfl)
  (pss_cons (ps_fld (pv 0) (pv 2) rfl)
  (pss_one (ps_fld (pv 0) (pe_callTy call_listA (by rfl) T.n_list (by decide +kernel) (pa_cons (pv 3) pa_nil)) rfl)))))))
theorem ok_l_told (T : Txt A mg) : FnOk P w A.K mg base CX0 4 T.f_l_told T.fd_l_told ["_law_room", "_law_model", "_law_drawn", "_law_wish"] (sp_l_told A) := by
  refine T.F_l_told.ok sc_l_told (fun vs H Q E h => len_l_told A h) (fun cdv Ar outer s H vs Q E hr h => ⟨t_l_told A E, ?_, pure_l_told A T.na vs H Q E h⟩)
  have hu64 := hr.units
  have hu65 := hu65_of hr
  have hu1 := hu_of hr
  exact (pss_cons (ps_set (i := 4) sc_l_told.nd rfl (Or.inl rfl) (by exact (pe_call (ok_l_size_by T) (hr.mono (by decide)) rfl T.g_l_size_by T.k_l_size_by T.b_l_size_by .nil pass0 (pa_cons (pe_ix ix_A (pv 2) pe_int (fun _ _ => rfl)) (pa_cons (pv 3) pa_nil)))))
  (pss_cons (ps_try_only (tb := fun W0 => (tAsg (tMethS A.c_Room "room_for" (sp_Room_room_for A) (WE W0) (tVar 0) (tCons (tVar 3) tNil)) (gName 5))) (ts := fun _ _ _ => (tRet (tOp (rEqA A.K) (tVar 4) (tC (.int 0))))) (Wout := (fun _ _ _ _ => False)) rfl rfl ⟨rfl, by decide, Or.inl T.g_TooLarge⟩ takes0 (fun W0 pn xe tk1 _ => by exact (pss_one (ps_set (i := 5) sc_l_told.nd rfl (Or.inl rfl) (by exact (pe_methS1 (pv 0) T.cl_Room T.m_Room_room_for (ok_Room_room_for T) (hr.mono (by decide)) T.b_Room_room_for (fun σ => passAt tk1 σ) (pa_cons (pv 3) pa_nil)))))) (fun a oe cls d pn _ _ => by exact (pss_one (ps_ret (by exact (pe_cmpR (op_eqA hu64) (pv 4) pe_int (nomark _)))))))
  (pss_one (ps_ret (by exact (pe_and (pe_cmpR op_gtA (pv 4) pe_int (nomark _)) (pe_and (pe_call (ok_l_whole T) (hr.mono (by decide)) rfl T.g_l_whole T.k_l_whole T.b_l_whole .nil pass0 (pa_cons (pv 5) pa_nil)) (pe_one (pe_cmpR (op_eqA hu64) (pv 5) (pe_call (ok_l_left T) (hr.mono (by decide)) rfl T.g_l_left T.k_l_left T.b_l_left .nil pass0 (pa_cons (pv 1) (pa_cons (pv 2) (pa_cons (pv 4) pa_nil)))) (nomark _))))))))))
theorem ok_Room_gather (T : Txt A mg) (TB : LamX.TabB base mg A.lamC A.lamP) : FnOk P w A.K mg base (L2.CX P w) 5 T.f_Room_gather T.fd_Room_gather ["self", "size"] (sp_Room_gather A) := by
  refine T.F_Room_gather.okX sc_Room_gather (fun vs H Q E h => len_Room_gather A h) (fun cdv Ar outer s H vs Q E hr h => ⟨t_Room_gather A E, ?_, pure_Room_gather A T.na vs H Q E h⟩)
  have hu64 := hr.units
  have hu65 := hu65_of hr
  have hu1 := hu_of hr
  have tk0 := takes_of (X := cxOf (L2.CX P w) P w A.K mg base ["self", "size", "per", "shelves", "things", "needed", "staying", "leaving", "moves", "shelf"] "Room.gather" (defScope s_Room_gather) T.f_Room_gather cdv Ar outer s H E) rfl rfl rfl rfl
  exact (pss_cons (ps_set (i := 2) sc_Room_gather.nd rfl (Or.inl rfl) (by exact (pe_meth (pe_fld (pv 0) rfl) T.cl_Plan T.m_Plan_per (ok_Plan_per T) (hr.mono (by decide)) T.b_Plan_per .nil (passes_call tk0 (fun _ _ _ _ h => h)) (pa_cons (pv 1) pa_nil))))
  (pss_cons (ps_set (i := 3) sc_Room_gather.nd rfl (Or.inl rfl) (by exact (pe_callBK (cr_sortBy (kcall_at (kcall_of (k := 2) (ok_fullest_first T) (Room.in1 (Room.in1 (hr.mono (by decide)))) T.b_fullest_first (fun e => e.in1.in1)))) (by rfl) T.n_sorted (by decide +kernel) (pa_cons (pe_meth (pv 0) T.cl_Room T.m_Room__of_size (ok_Room__of_size T) (hr.mono (by decide)) T.b_Room__of_size .nil pass0 (pa_cons (pv 1) pa_nil)) pa_nil) (pk_cons (pe_glob rfl T.g_fullest_first rfl) pk_nil))))
  (pss_cons (ps_set (i := 4) sc_Room_gather.nd rfl (Or.inl rfl) (by exact (pe_callB (cr_sum rfl) (by rfl) T.n_sum (by decide +kernel) (pa_cons (pe_lc (own := [("shelf", 9)]) (g := (gName 9)) (tt := tYes) rfl sc_Room_gather.nd (pi_list (pv 3)) (blkOk_by (own := [("shelf", 9)]) (N := ["self", "size", "per", "shelves", "things", "needed", "staying", "leaving", "moves", "shelf"]) (sc := defScope s_Room_gather) (by decide +kernel)) (fun _ _ _ _ _ => (pg_name (i := 9) sc_Room_gather.nd rfl (Or.inl rfl))) (fun _ _ _ _ _ => pts_nil) (fun _ _ _ _ _ => (pe_meth0 (pv 9) T.cl_Shelf T.m_Shelf_out (ok_Shelf_out T) (hr.mono (by decide)) T.b_Shelf_out .nil pass0))) pa_nil))))
  (pss_cons (ps_set (i := 5) sc_Room_gather.nd rfl (Or.inl rfl) (by exact (pe_op op_divA (pe_op op_subA (pe_op op_addA (pv 4) (pv 2)) pe_int) (pv 2))))
  (pss_cons (ps_set (i := 6) sc_Room_gather.nd rfl (Or.inl rfl) (by exact (pe_slice sl_list (pv 3) po_none (po_some (pv 5)))))
  (pss_cons (ps_set (i := 7) sc_Room_gather.nd rfl (Or.inl rfl) (by exact (pe_slice sl_list (pv 3) (po_some (pv 5)) po_none)))
  (pss_cons (ps_set (i := 8) sc_Room_gather.nd rfl (Or.inl rfl) (by exact (pe_meth (pv 0) T.cl_Room T.m_Room__move_things (ok_Room__move_things T TB) (hr.mono (by decide)) T.b_Room__move_things .nil (passes_call tk0 (fun _ _ _ _ h => h)) (pa_cons (pv 7) (pa_cons (pv 6) pa_nil)))))
  (pss_cons (ps_expr (by exact (pe_meth (pv 0) T.cl_Room T.m_Room__give_back_shelves (ok_Room__give_back_shelves T) (hr.mono (by decide)) T.b_Room__give_back_shelves .nil pass0 (pa_cons (pv 7) pa_nil))))
  (pss_one (ps_ret (by exact (pv 8))))))))))))
theorem ok_Room__shelf_for (T : Txt A mg) : FnOk P w A.K mg base (L2.CX P w) 5 T.f_Room__shelf_for T.fd_Room__shelf_for ["self", "size"] (sp_Room__shelf_for A) := by
  refine T.F_Room__shelf_for.okX sc_Room__shelf_for (fun vs H Q E h => len_Room__shelf_for A h) (fun cdv Ar outer s H vs Q E hr h => ⟨t_Room__shelf_for A E, ?_, pure_Room__shelf_for A T.na vs H Q E h⟩)
  have hu64 := hr.units
  have hu65 := hu65_of hr
  have hu1 := hu_of hr
  have tk0 := takes_of (X := cxOf (L2.CX P w) P w A.K mg base ["self", "size", "shelves", "page", "shelf"] "Room._shelf_for" (defScope s_Room__shelf_for) T.f_Room__shelf_for cdv Ar outer s H E) rfl rfl rfl rfl
  exact (pss_cons (ps_setLc (i := 2) (own := [("shelf", 4)]) (g := (gName 4)) (tt := (tTru A.K (tMeth A.c_Shelf "free" (sp_Shelf_free A) [] E0 (tVar 4) tNil))) rfl sc_Room__shelf_for.nd rfl rfl (sw_true rfl rfl rfl (by decide +kernel)) (pi_list (pe_meth (pv 0) T.cl_Room T.m_Room__of_size (ok_Room__of_size T) (hr.mono (by decide)) T.b_Room__of_size .nil pass0 (pa_cons (pv 1) pa_nil))) (blkOk_by (own := [("shelf", 4)]) (N := ["self", "size", "shelves", "page", "shelf"]) (sc := defScope s_Room__shelf_for) (by decide +kernel)) (fun _ _ _ _ _ => (pg_name (i := 4) sc_Room__shelf_for.nd rfl (Or.inl rfl))) (fun _ _ _ _ _ => (pts_one (pt_truth (pe_meth0 (pv 4) T.cl_Shelf T.m_Shelf_free (ok_Shelf_free T) (hr.mono (by decide)) T.b_Shelf_free .nil pass0) (by intro _; rfl)))) (fun _ _ _ _ _ => (pv 4)))
  (pss_cons (ps_if (by exact (pt_truth (pv 2) (by intro _; rfl)))
    (pss_one (ps_ret (by exact (pe_callBK (cr_minBy (kcall_at (kcall_of (k := 2) (ok_fullest_first T) (Room.in1 (hr.mono (by decide))) T.b_fullest_first (fun e => e.in1))) hr.hd hu1) (by rfl) T.n_min (by decide +kernel) (pa_cons (pv 2) pa_nil) (pk_cons (pe_glob rfl T.g_fullest_first rfl) pk_nil)))))
    pss_nil)
  (pss_cons (ps_set (i := 3) sc_Room__shelf_for.nd rfl (Or.inl rfl) (by exact (pe_meth0 (pv 0) T.cl_Room T.m_Room__page_for_shelf (ok_Room__page_for_shelf T) (hr.mono (by decide)) T.b_Room__page_for_shelf .nil (passes_call tk0 (fun _ _ _ _ h => h)))))
  (pss_cons (ps_dput hu1 (pe_fld (pv 0) rfl) (pv 3) (pe_make T.mk_Shelf (ok_Shelf_init T) (hr.mono (by decide)) rfl T.g_Shelf T.b_Shelf_init .nil pass0 (pa_cons (pv 3) (pa_cons (pv 1) (pa_cons (pe_meth (pe_fld (pv 0) rfl) T.cl_Plan T.m_Plan_per (ok_Plan_per T) (hr.mono (by decide)) T.b_Plan_per .nil (passes_call tk0 (fun _ _ _ _ h => h)) (pa_cons (pv 1) pa_nil)) pa_nil)))) rfl)
  (pss_one (ps_ret (by exact (pe_dget hu1 (pe_fld (pv 0) rfl) (pv 3) (fun _ _ => rfl)))))))))
theorem ok_Room_wish (T : Txt A mg) : FnOk P w A.K mg base (L2.CX P w) 6 T.f_Room_wish T.fd_Room_wish ["self", "places"] (sp_Room_wish A) := by
  refine T.F_Room_wish.okX sc_Room_wish (fun vs H Q E h => len_Room_wish A h) (fun cdv Ar outer s H vs Q E hr h => ⟨t_Room_wish A E, ?_, pure_Room_wish A T.na vs H Q E h⟩)
  have hu64 := hr.units
  have hu65 := hu65_of hr
  have hu1 := hu_of hr
  have tk0 := takes_of (X := cxOf (L2.CX P w) P w A.K mg base ["self", "places", "size", "place"] "Room.wish" (defScope s_Room_wish) T.f_Room_wish cdv Ar outer s H E) rfl rfl rfl rfl
  exact (pss_cons (ps_set (i := 2) sc_Room_wish.nd rfl (Or.inl rfl) (by exact (pe_meth (pe_fld (pv 0) rfl) T.cl_Plan T.m_Plan_size_for (ok_Plan_size_for T) (hr.mono (by decide)) T.b_Plan_size_for .nil (passes_call tk0 (fun _ _ _ _ h => h)) (pa_cons (pv 1) pa_nil))))
  (pss_cons (ps_set (i := 3) sc_Room_wish.nd rfl (Or.inl rfl) (by exact (pe_meth (pv 0) T.cl_Room T.m_Room__take_place (ok_Room__take_place T) (hr.mono (by decide)) T.b_Room__take_place .nil (passes_call tk0 (fun _ _ _ _ h => h)) (pa_cons (pe_meth (pv 0) T.cl_Room T.m_Room__shelf_for (ok_Room__shelf_for T) (hr.mono (by decide)) T.b_Room__shelf_for .nil (passes_call tk0 (fun _ _ _ _ h => h)) (pa_cons (pv 2) pa_nil)) pa_nil))))
  (pss_cons (ps_dput hu1 (pe_fld (pv 0) rfl) (pv 3) (pe_op op_mulA (pe_lst (pa_cons pe_int pa_nil)) (pv 2)) rfl)
  (pss_one (ps_ret (by exact (pv 3)))))))
theorem ok_l_got (T : Txt A mg) : FnOk P w A.K mg base CX0 7 T.f_l_got T.fd_l_got ["_law_room", "_law_wish"] (sp_l_got A) := by
  refine T.F_l_got.ok sc_l_got (fun vs H Q E h => len_l_got A h) (fun cdv Ar outer s H vs Q E hr h => ⟨t_l_got A E, ?_, pure_l_got A T.na vs H Q E h⟩)
  have hu64 := hr.units
  have hu65 := hu65_of hr
  have hu1 := hu_of hr
  exact (pss_one (ps_try_many (tb := fun W0 => (tRet (tMethS A.c_Room "wish" (sp_Room_wish A) (WE W0) (tVar 0) (tCons (tVar 1) tNil)))) (l := [(Value.ref A.c_NoRoom, fun _ _ _ => (tRet (tUn (rU fun i => .int (-i)) (tC (.int 1))))), (Value.ref A.c_TooLarge, fun _ _ _ => (tRet (tUn (rU fun i => .int (-i)) (tC (.int 2)))))]) (Wout := (fun _ _ _ _ => False)) rfl rfl takes0 (fun W0 pn xe tk1 _ => by exact (pss_one (ps_ret (by exact (pe_methS1 (pv 0) T.cl_Room T.m_Room_wish (ok_Room_wish T) (hr.mono (by decide)) T.b_Room_wish (fun σ => passAt tk1 σ) (pa_cons (pv 1) pa_nil)))))) (HdsOk.cons (ts := fun _ _ _ => (tRet (tUn (rU fun i => .int (-i)) (tC (.int 1))))) ⟨rfl, by decide, Or.inl T.g_NoRoom⟩ (fun a oe cls d pn hz hf => by exact (pss_one (ps_ret (by exact (pe_un un_neg pe_int))))) (HdsOk.cons (ts := fun _ _ _ => (tRet (tUn (rU fun i => .int (-i)) (tC (.int 2))))) ⟨rfl, by decide, Or.inl T.g_TooLarge⟩ (fun a oe cls d pn hz hf => by exact (pss_one (ps_ret (by exact (pe_un un_neg pe_int))))) HdsOk.nil))))
theorem ok_l_deed (T : Txt A mg) (TB : LamX.TabB base mg A.lamC A.lamP) : FnOk P w A.K mg base CX0 8 T.f_l_deed T.fd_l_deed ["_law_room", "_law_model", "_law_drawn", "_law_kept", "_law_cell"] (sp_l_deed A) := by
  refine T.F_l_deed.ok sc_l_deed (fun vs H Q E h => len_l_deed A h) (fun cdv Ar outer s H vs Q E hr h => ⟨t_l_deed A E, ?_, pure_l_deed A T.na vs H Q E h⟩)
  have hu64 := hr.units
  have hu65 := hu65_of hr
  have hu1 := hu_of hr
  exact (pss_cons (ps_set (i := 5) sc_l_deed.nd rfl (Or.inl rfl) (by exact (pe_op op_divA (pv 4) pe_int)))
  (pss_cons (ps_if (by exact (pt_cmpR op_ltA (pe_op op_modA (pv 4) pe_int) pe_int (nomark _)))
    (pss_cons (ps_set (i := 6) sc_l_deed.nd rfl (Or.inl rfl) (by exact pe_int))
    (pss_cons (ps_if (by exact (pt_cmpR (op_eqA hu64) (pe_op op_modA (pv 4) pe_int) pe_int (nomark _)))
      (pss_one (ps_set (i := 6) sc_l_deed.nd rfl (Or.inl rfl) (by exact (pe_op op_addA pe_int (pe_op op_modA (pe_op op_divA (pv 5) pe_int) pe_int)))))
      pss_nil)
    (pss_cons (ps_for PassesOwn.never rfl (pi_range1 (by rfl) T.n_range (pa_cons (pv 6) pa_nil)) (pg_name (i := 7) sc_l_deed.nd rfl (Or.inl rfl))
      (pss_cons (ps_set (i := 8) sc_l_deed.nd rfl (Or.inl rfl) (by exact (pe_call (ok_l_got T) (hr.mono (by decide)) rfl T.g_l_got T.k_l_got T.b_l_got .nil pass0 (pa_cons (pv 0) (pa_cons (pe_op op_addA pe_int (pe_op op_modA (pv 5) (pe_ix ix_A (pv 2) pe_int (fun _ _ => rfl)))) pa_nil)))))
      (pss_one (ps_if (by exact (PW.pt (pw_or (pt_not (pt_val (pe_call (ok_l_whole T) (hr.mono (by decide)) rfl T.g_l_whole T.k_l_whole T.b_l_whole .nil pass0 (pa_cons (pv 8) pa_nil)))) (pw_or1 (pt_cmpR (op_neA hu64) (pv 8) (pe_call (ok_l_wished T) (hr.mono (by decide)) rfl T.g_l_wished T.k_l_wished T.b_l_wished .nil pass0 (pa_cons (pv 1) (pa_cons (pv 2) (pa_cons (pe_op op_addA pe_int (pe_op op_modA (pv 5) (pe_ix ix_A (pv 2) pe_int (fun _ _ => rfl)))) pa_nil)))) (nomark _))))))
        (pss_one (ps_ret (by exact pe_bl)))
        pss_nil))))
    (pss_one (ps_ret (by exact pe_bl))))))
    pss_nil)
  (pss_cons (ps_if (by exact (pt_cmpR (op_eqA hu64) (pe_op op_modA (pv 4) pe_int) pe_int (nomark _)))
    (pss_one (ps_ret (by exact (pe_call (ok_l_told T) (hr.mono (by decide)) rfl T.g_l_told T.k_l_told T.b_l_told .nil pass0 (pa_cons (pv 0) (pa_cons (pv 1) (pa_cons (pv 2) (pa_cons (pe_op op_addA pe_int (pe_op op_modA (pv 5) (pe_ix ix_A (pv 2) pe_int (fun _ _ => rfl)))) pa_nil))))))))
    pss_nil)
  (pss_cons (ps_if (by exact (pt_cmpR (op_neA hu64) (pe_op op_modA (pv 4) pe_int) pe_int (nomark _)))
    (pss_cons (ps_set (i := 9) sc_l_deed.nd rfl (Or.inl rfl) (by exact (pe_call (ok_l_places T) (hr.mono (by decide)) rfl T.g_l_places T.k_l_places T.b_l_places .nil pass0 (pa_cons (pv 1) (pa_cons (pe_ix ix_A (pv 2) pe_int (fun _ _ => rfl)) pa_nil)))))
    (pss_cons (ps_if (by exact (pt_cmpR (op_eqA hu64) (pv 9) (pe_lst pa_nil) (nomark _)))
      (pss_one (ps_ret (by exact pe_bl)))
      pss_nil)
    (pss_cons (ps_asg (pe_ix ix_A (pv 9) (pe_op op_modA (pv 5) (pe_callB call_lenA (by rfl) T.n_len (by decide +kernel) (pa_cons (pv 9) pa_nil))) (fun _ _ => rfl)) (pg_tup rfl (pgs_cons (pg_name (i := 10) sc_l_deed.nd rfl (Or.inl rfl)) (pgs_cons (pg_name (i := 11) sc_l_deed.nd rfl (Or.inl rfl)) pgs_nil))))
    (pss_cons (ps_if (by exact (pt_cmpR (op_eqA hu64) (pe_op op_modA (pv 4) pe_int) pe_int (nomark _)))
      (pss_cons (ps_expr (by exact (pe_meth (pv 0) T.cl_Room T.m_Room_write (ok_Room_write T) (hr.mono (by decide)) T.b_Room_write .nil passL (pa_cons (pv 10) (pa_cons (pe_op op_modA (pv 5) (pv 11)) (pa_cons (pv 5) pa_nil))))))
      (pss_one (ps_ret (by exact (pe_cmpR (op_eqA hu64) (pe_meth (pv 0) T.cl_Room T.m_Room_read (ok_Room_read T) (hr.mono (by decide)) T.b_Room_read .nil passL (pa_cons (pv 10) (pa_cons (pe_op op_modA (pv 5) (pv 11)) pa_nil))) (pv 5) (nomark _))))))
      pss_nil)
    (pss_cons (ps_expr (by exact (pe_call (ok_l_given T) (hr.mono (by decide)) rfl T.g_l_given T.k_l_given T.b_l_given .nil pass0 (pa_cons (pv 1) (pa_cons (pe_ix ix_A (pv 2) pe_int (fun _ _ => rfl)) (pa_cons (pv 10) pa_nil))))))
    (pss_one (ps_ret (by exact (pe_cmpR op_isNon (pe_meth (pv 0) T.cl_Room T.m_Room_give_back (ok_Room_give_back T) (hr.mono (by decide)) T.b_Room_give_back .nil passL (pa_cons (pv 10) pa_nil)) pe_non (nomark _))))))))))
    pss_nil)
  (pss_cons (ps_if (by exact (pt_cmpR op_gtA (pe_op op_modA (pv 5) pe_int) pe_int (nomark _)))
    (pss_cons (ps_set (i := 11) sc_l_deed.nd rfl (Or.inl rfl) (by exact (pe_ix ix_A (pe_ix ix_A (pv 2) pe_int (fun _ _ => rfl)) (pe_op op_modA (pe_op op_divA (pv 5) pe_int) (pe_callB call_lenA (by rfl) T.n_len (by decide +kernel) (pa_cons (pe_ix ix_A (pv 2) pe_int (fun _ _ => rfl)) pa_nil))) (fun _ _ => rfl))))
    (pss_cons (ps_set (i := 8) sc_l_deed.nd rfl (Or.inl rfl) (by exact (pe_meth (pv 0) T.cl_Room T.m_Room_gather (ok_Room_gather T TB) (hr.mono (by decide)) T.b_Room_gather .nil passL (pa_cons (pv 11) pa_nil))))
    (pss_cons (ps_expr (by exact (pe_bm PySem.F.plainAttrs_list PySem.F.slot_list_append PySem.F.type_list_append mt_append (pv 3) (pa_cons (pe_tup (pa_cons (pv 8) (pa_cons (pe_callTy call_listA (by rfl) T.n_list (by decide +kernel) (pa_cons (pv 8) pa_nil)) pa_nil))) pa_nil))))
    (pss_one (ps_ret (by exact (pe_cmpR (op_eqA hu64) (pv 8) (pe_call (ok_l_gathered_by T) (hr.mono (by decide)) rfl T.g_l_gathered_by T.k_l_gathered_by T.b_l_gathered_by .nil pass0 (pa_cons (pv 1) (pa_cons (pe_ix ix_A (pv 2) pe_int (fun _ _ => rfl)) (pa_cons (pv 11) pa_nil)))) (nomark _))))))))
    pss_nil)
  (pss_cons (ps_setLc (i := 13) (own := [("_law_page", 12)]) (g := (gName 12)) (tt := (tTest (tOp (rInN A.K) (tC (.bl true)) (tOp (rIxA A.K) (tDGet (tVar 1) (tVar 12)) (tC (.int 1)))))) rfl sc_l_deed.nd rfl rfl (sw_true rfl rfl rfl (by decide +kernel)) (pi_list (pe_callB (call_sortedA rfl) (by rfl) T.n_sorted (by decide +kernel) (pa_cons (pv 1) pa_nil))) (blkOk_by (own := [("_law_page", 12)]) (N := ["_law_room", "_law_model", "_law_drawn", "_law_kept", "_law_cell", "_law_more", "_law_many", "_law_turn", "_law_found", "_law_places_here", "_law_place", "_law_size", "_law_page", "_law_empty"]) (sc := defScope s_l_deed) (by decide +kernel)) (fun _ _ _ _ _ => (pg_name (i := 12) sc_l_deed.nd rfl (Or.inl rfl))) (fun _ _ _ _ _ => (pts_one (pt_cmpR (op_inN hu65) pe_bl (pe_ix ix_A (pe_dget hu1 (pv 1) (pv 12) (fun _ _ => rfl)) pe_int (fun _ _ => rfl)) (by first | exact nomark _ | rfl)))) (fun _ _ _ _ _ => (pv 12)))
  (pss_cons (ps_for PassesOwn.never rfl (pi_list (pv 13)) (pg_name (i := 12) sc_l_deed.nd rfl (Or.inl rfl))
    (pss_one (ps_expr (by exact (pe_dpop1 (pv 1) (pv 12) ⟨by rfl, by rfl, by rfl, by rfl⟩)))))
  (pss_cons (ps_set (i := 8) sc_l_deed.nd rfl (Or.inl rfl) (by exact (pe_meth0 (pv 0) T.cl_Room T.m_Room_trim (ok_Room_trim T) (hr.mono (by decide)) T.b_Room_trim .nil pass0)))
  (pss_one (ps_ret (by exact (pe_and (pe_call (ok_l_whole T) (hr.mono (by decide)) rfl T.g_l_whole T.k_l_whole T.b_l_whole .nil pass0 (pa_cons (pv 8) pa_nil)) (pe_one (pe_cmpR (op_eqA hu64) (pv 8) (pe_callB call_lenA (by rfl) T.n_len (by decide +kernel) (pa_cons (pv 13) pa_nil)) (nomark _)))))))))))))))
theorem ok_law (T : Txt A mg) (TB : LamX.TabB base mg A.lamC A.lamP) : FnOk P w A.K mg base CX0 9 T.f_law T.fd_law ["_law_script"] (sp_law A) := by
  refine T.F_law.ok sc_law (fun vs H Q E h => len_law A h) (fun cdv Ar outer s H vs Q E hr h => ⟨t_law A E, ?_, pure_law A T.na vs H Q E h⟩)
  have hu64 := hr.units
  have hu65 := hu65_of hr
  have hu1 := hu_of hr
  exact (pss_cons (ps_set (i := 1) sc_law.nd rfl (Or.inl rfl) (by exact (pe_call (ok_l_plan_by T) (hr.mono (by decide)) rfl T.g_l_plan_by T.k_l_plan_by T.b_l_plan_by .nil pass0 (pa_cons (pv 0) pa_nil))))
  (pss_cons (ps_set (i := 2) sc_law.nd rfl (Or.inl rfl) (by exact (pe_make T.mk_Plan (ok_Plan_init T) (hr.mono (by decide)) rfl T.g_Plan T.b_Plan_init .nil passL (pa_cons (pe_ix ix_A (pv 1) pe_int (fun _ _ => rfl)) (pa_cons (pe_ix ix_A (pv 1) pe_int (fun _ _ => rfl)) (pa_cons (pe_callTy call_listA (by rfl) T.n_list (by decide +kernel) (pa_cons (pe_ix ix_A (pv 1) pe_int (fun _ _ => rfl)) pa_nil)) pa_nil))))))
  (pss_cons (ps_set (i := 3) sc_law.nd rfl (Or.inl rfl) (by exact (pe_lst (pa_cons (pe_make T.mk_Room (ok_Room_init T) (hr.mono (by decide)) rfl T.g_Room T.b_Room_init .nil pass0 (pa_cons (pv 2) pa_nil)) (pa_cons (pe_make T.mk_Room (ok_Room_init T) (hr.mono (by decide)) rfl T.g_Room T.b_Room_init .nil pass0 (pa_cons (pv 2) pa_nil)) pa_nil)))))
  (pss_cons (ps_set (i := 4) sc_law.nd rfl (Or.inl rfl) (by exact (pe_lst (pa_cons pe_dnewK (pa_cons pe_dnewK pa_nil)))))
  (pss_cons (ps_set (i := 5) sc_law.nd rfl (Or.inl rfl) (by exact (pe_lst (pa_cons (pe_lst pa_nil) (pa_cons (pe_lst pa_nil) pa_nil)))))
  (pss_cons (ps_for PassesOwn.never rfl (pi_enum (by rfl) T.n_enumerate (pa_cons (pe_slice sl_list (pv 0) (po_some pe_int) po_none) pa_nil)) (pg_tup rfl (pgs_cons (pg_name (i := 6) sc_law.nd rfl (Or.inl rfl)) (pgs_cons (pg_name (i := 7) sc_law.nd rfl (Or.inl rfl)) pgs_nil)))
    (pss_cons (ps_set (i := 8) sc_law.nd rfl (Or.inl rfl) (by exact (pe_callTy call_intA (by rfl) T.n_int (by decide +kernel) (pa_cons (pe_cmpR (op_eqA hu64) (pe_op op_modA (pv 6) pe_int) pe_int (nomark _)) pa_nil))))
    (pss_cons (ps_set (i := 9) sc_law.nd rfl (Or.inl rfl) (by exact (pe_ix ix_A (pv 3) (pv 8) (fun _ _ => rfl))))
    (pss_cons (ps_set (i := 10) sc_law.nd rfl (Or.inl rfl) (by exact (pe_ix ix_A (pv 4) (pv 8) (fun _ _ => rfl))))
    (pss_cons (ps_if (by exact (pt_not (pt_val (pe_call (ok_l_deed T TB) (hr.mono (by decide)) rfl T.g_l_deed T.k_l_deed T.b_l_deed .nil pass0 (pa_cons (pv 9) (pa_cons (pv 10) (pa_cons (pv 1) (pa_cons (pe_ix ix_A (pv 5) (pv 8) (fun _ _ => rfl)) (pa_cons (pv 7) pa_nil)))))))))
      (pss_one (ps_ret (by exact pe_bl)))
      pss_nil)
    (pss_one (ps_if (by exact (PW.pt (pw_and (pt_cmpR (op_eqA hu64) (pe_op op_modA (pv 6) pe_int) pe_int (nomark _)) (pw_and1 (pt_not (pt_val (pe_call (ok_l_stands T) (hr.mono (by decide)) rfl T.g_l_stands T.k_l_stands T.b_l_stands .nil pass0 (pa_cons (pv 9) (pa_cons (pv 10) (pa_cons (pv 1) (pa_cons (pe_ix ix_A (pv 5) (pv 8) (fun _ _ => rfl)) pa_nil)))))))))))
      (pss_one (ps_ret (by exact pe_bl)))
      pss_nil)))))))
  (pss_cons (ps_if (by exact (PW.pt (pw_or (pt_cmpR (op_neA hu64) (pe_tup (pa_cons (pe_fld (pv 2) rfl) (pa_cons (pe_fld (pv 2) rfl) pa_nil))) (pe_tup (pa_cons (pe_ix ix_A (pv 1) pe_int (fun _ _ => rfl)) (pa_cons (pe_ix ix_A (pv 1) pe_int (fun _ _ => rfl)) pa_nil))) (nomark _)) (pw_or1 (pt_cmpR (op_neA hu64) (pe_fld (pv 2) rfl) (pe_ix ix_A (pv 1) pe_int (fun _ _ => rfl)) (nomark _))))))
    (pss_one (ps_ret (by exact pe_bl)))
    pss_nil)
  (pss_cons (ps_if (by exact (pt_not (pt_val (pe_call (ok_l_stands T) (hr.mono (by decide)) rfl T.g_l_stands T.k_l_stands T.b_l_stands .nil pass0 (pa_cons (pe_ix ix_A (pv 3) pe_int (fun _ _ => rfl)) (pa_cons (pe_ix ix_A (pv 4) pe_int (fun _ _ => rfl)) (pa_cons (pv 1) (pa_cons (pe_ix ix_A (pv 5) pe_int (fun _ _ => rfl)) pa_nil))))))))
    (pss_one (ps_ret (by exact pe_bl)))
    pss_nil)
  (pss_one (ps_ret (by exact (pe_call (ok_l_stands T) (hr.mono (by decide)) rfl T.g_l_stands T.k_l_stands T.b_l_stands .nil pass0 (pa_cons (pe_ix ix_A (pv 3) pe_int (fun _ _ => rfl)) (pa_cons (pe_ix ix_A (pv 4) pe_int (fun _ _ => rfl)) (pa_cons (pv 1) (pa_cons (pe_ix ix_A (pv 5) pe_int (fun _ _ => rfl)) pa_nil))))))))))))))))
end

theorem all_mk {l : PySem.W.OpenLaw} {w : World} {K : PySem.W.Frag} {h : Heap} {mg : Str → Option Value} {fa : Addr} (X : K.In h) (G : h.Ns mainGlobals mg) (hfa : mg "law" = some (.ref fa))
    {f0 : Addr} {od0 an0 : Option Addr} {sl0 : Array (Option Value)} {oc0 kV0 dc0 pm0 cd0 ct0 : Value}
    {f1 : Addr} {od1 an1 : Option Addr} {sl1 : Array (Option Value)} {oc1 kV1 dc1 pm1 cd1 ct1 : Value}
    {f2 : Addr} {od2 an2 : Option Addr} {sl2 : Array (Option Value)} {oc2 kV2 dc2 pm2 cd2 ct2 : Value}
    {f3 : Addr} {od3 an3 : Option Addr} {sl3 : Array (Option Value)} {oc3 kV3 dc3 pm3 cd3 ct3 : Value}
    {f4 : Addr} {od4 an4 : Option Addr} {sl4 : Array (Option Value)} {oc4 kV4 dc4 pm4 cd4 ct4 : Value}
    {f5 : Addr} {od5 an5 : Option Addr} {sl5 : Array (Option Value)} {oc5 kV5 dc5 pm5 cd5 ct5 : Value}
    {f6 : Addr} {od6 an6 : Option Addr} {sl6 : Array (Option Value)} {oc6 kV6 dc6 pm6 cd6 ct6 : Value}
    {f7 : Addr} {od7 an7 : Option Addr} {sl7 : Array (Option Value)} {oc7 kV7 dc7 pm7 cd7 ct7 : Value}
    {f8 : Addr} {od8 an8 : Option Addr} {sl8 : Array (Option Value)} {oc8 kV8 dc8 pm8 cd8 ct8 : Value}
    {f9 : Addr} {od9 an9 : Option Addr} {sl9 : Array (Option Value)} {oc9 kV9 dc9 pm9 cd9 ct9 : Value}
    {f10 : Addr} {od10 an10 : Option Addr} {sl10 : Array (Option Value)} {oc10 kV10 dc10 pm10 cd10 ct10 : Value}
    {f11 : Addr} {od11 an11 : Option Addr} {sl11 : Array (Option Value)} {oc11 kV11 dc11 pm11 cd11 ct11 : Value}
    {f12 : Addr} {od12 an12 : Option Addr} {sl12 : Array (Option Value)} {oc12 kV12 dc12 pm12 cd12 ct12 : Value}
    {f13 : Addr} {od13 an13 : Option Addr} {sl13 : Array (Option Value)} {oc13 kV13 dc13 pm13 cd13 ct13 : Value}
    {f14 : Addr} {od14 an14 : Option Addr} {sl14 : Array (Option Value)} {oc14 kV14 dc14 pm14 cd14 ct14 : Value}
    {f15 : Addr} {od15 an15 : Option Addr} {sl15 : Array (Option Value)} {oc15 kV15 dc15 pm15 cd15 ct15 : Value}
    {f16 : Addr} {od16 an16 : Option Addr} {sl16 : Array (Option Value)} {oc16 kV16 dc16 pm16 cd16 ct16 : Value}
    {f17 : Addr} {od17 an17 : Option Addr} {sl17 : Array (Option Value)} {oc17 kV17 dc17 pm17 cd17 ct17 : Value}
    {f18 : Addr} {od18 an18 : Option Addr} {sl18 : Array (Option Value)} {oc18 kV18 dc18 pm18 cd18 ct18 : Value}
    {f19 : Addr} {od19 an19 : Option Addr} {sl19 : Array (Option Value)} {oc19 kV19 dc19 pm19 cd19 ct19 : Value}
    {f20 : Addr} {od20 an20 : Option Addr} {sl20 : Array (Option Value)} {oc20 kV20 dc20 pm20 cd20 ct20 : Value}
    {f21 : Addr} {od21 an21 : Option Addr} {sl21 : Array (Option Value)} {oc21 kV21 dc21 pm21 cd21 ct21 : Value}
    {f22 : Addr} {od22 an22 : Option Addr} {sl22 : Array (Option Value)} {oc22 kV22 dc22 pm22 cd22 ct22 : Value}
    {f23 : Addr} {od23 an23 : Option Addr} {sl23 : Array (Option Value)} {oc23 kV23 dc23 pm23 cd23 ct23 : Value}
    {f24 : Addr} {od24 an24 : Option Addr} {sl24 : Array (Option Value)} {oc24 kV24 dc24 pm24 cd24 ct24 : Value}
    {f25 : Addr} {od25 an25 : Option Addr} {sl25 : Array (Option Value)} {oc25 kV25 dc25 pm25 cd25 ct25 : Value}
    {f26 : Addr} {od26 an26 : Option Addr} {sl26 : Array (Option Value)} {oc26 kV26 dc26 pm26 cd26 ct26 : Value}
    {f27 c_lam P_lam : Addr} {od27 an27 : Option Addr} {sl27 : Array (Option Value)} {oc27 kV27 dc27 pm27 ct27 : Value}
    {f28 : Addr} {od28 an28 : Option Addr} {sl28 : Array (Option Value)} {oc28 kV28 dc28 pm28 cd28 ct28 : Value}
    {f29 : Addr} {od29 an29 : Option Addr} {sl29 : Array (Option Value)} {oc29 kV29 dc29 pm29 cd29 ct29 : Value}
    {f30 : Addr} {od30 an30 : Option Addr} {sl30 : Array (Option Value)} {oc30 kV30 dc30 pm30 cd30 ct30 : Value}
    {f31 : Addr} {od31 an31 : Option Addr} {sl31 : Array (Option Value)} {oc31 kV31 dc31 pm31 cd31 ct31 : Value}
    {f32 : Addr} {od32 an32 : Option Addr} {sl32 : Array (Option Value)} {oc32 kV32 dc32 pm32 cd32 ct32 : Value}
    {f33 : Addr} {od33 an33 : Option Addr} {sl33 : Array (Option Value)} {oc33 kV33 dc33 pm33 cd33 ct33 : Value}
    {f34 : Addr} {od34 an34 : Option Addr} {sl34 : Array (Option Value)} {oc34 kV34 dc34 pm34 cd34 ct34 : Value}
    {f35 : Addr} {od35 an35 : Option Addr} {sl35 : Array (Option Value)} {oc35 kV35 dc35 pm35 cd35 ct35 : Value}
    {f36 : Addr} {od36 an36 : Option Addr} {sl36 : Array (Option Value)} {oc36 kV36 dc36 pm36 cd36 ct36 : Value}
    {f37 : Addr} {od37 an37 : Option Addr} {sl37 : Array (Option Value)} {oc37 kV37 dc37 pm37 cd37 ct37 : Value}
    {f38 : Addr} {od38 an38 : Option Addr} {sl38 : Array (Option Value)} {oc38 kV38 dc38 pm38 cd38 ct38 : Value}
    {f39 : Addr} {od39 an39 : Option Addr} {sl39 : Array (Option Value)} {oc39 kV39 dc39 pm39 cd39 ct39 : Value}
    {f40 : Addr} {od40 an40 : Option Addr} {sl40 : Array (Option Value)} {oc40 kV40 dc40 pm40 cd40 ct40 : Value}
    {f41 : Addr} {od41 an41 : Option Addr} {sl41 : Array (Option Value)} {oc41 kV41 dc41 pm41 cd41 ct41 : Value}
    {f42 : Addr} {od42 an42 : Option Addr} {sl42 : Array (Option Value)} {oc42 kV42 dc42 pm42 cd42 ct42 : Value}
    {f43 : Addr} {od43 an43 : Option Addr} {sl43 : Array (Option Value)} {oc43 kV43 dc43 pm43 cd43 ct43 : Value}
    {f44 : Addr} {od44 an44 : Option Addr} {sl44 : Array (Option Value)} {oc44 kV44 dc44 pm44 cd44 ct44 : Value}
    {f45 : Addr} {od45 an45 : Option Addr} {sl45 : Array (Option Value)} {oc45 kV45 dc45 pm45 cd45 ct45 : Value}
    {f46 : Addr} {od46 an46 : Option Addr} {sl46 : Array (Option Value)} {oc46 kV46 dc46 pm46 cd46 ct46 : Value}
    {f47 : Addr} {od47 an47 : Option Addr} {sl47 : Array (Option Value)} {oc47 kV47 dc47 pm47 cd47 ct47 : Value}
    {f48 : Addr} {od48 an48 : Option Addr} {sl48 : Array (Option Value)} {oc48 kV48 dc48 pm48 cd48 ct48 : Value}
    {f49 : Addr} {od49 an49 : Option Addr} {sl49 : Array (Option Value)} {oc49 kV49 dc49 pm49 cd49 ct49 : Value}
    {f50 : Addr} {od50 an50 : Option Addr} {sl50 : Array (Option Value)} {oc50 kV50 dc50 pm50 cd50 ct50 : Value}
    {C_Shelf : Addr}
    {C_Room : Addr}
    {C_Plan : Addr}
    {C_RoomError : Addr}
    {C_BadPlan : Addr}
    {C_BadWish : Addr}
    {C_TooLarge : Addr}
    {C_NoSize : Addr}
    {C_NoRoom : Addr}
    {C_NotOut : Addr}
    {C_OutOfThing : Addr}
    {tk_MOST_LENGTH : Tok}
    {tk_MOST_PAGES : Tok}
    {tk_MOST_SIZES : Tok}
    (aC_Shelf : PySem.W.nsIn K mainGlobals "Shelf" = some (some (.ref C_Shelf)))
    (aC_Room : PySem.W.nsIn K mainGlobals "Room" = some (some (.ref C_Room)))
    (aC_Plan : PySem.W.nsIn K mainGlobals "Plan" = some (some (.ref C_Plan)))
    (aC_RoomError : PySem.W.nsIn K mainGlobals "RoomError" = some (some (.ref C_RoomError)))
    (aC_BadPlan : PySem.W.nsIn K mainGlobals "BadPlan" = some (some (.ref C_BadPlan)))
    (aC_BadWish : PySem.W.nsIn K mainGlobals "BadWish" = some (some (.ref C_BadWish)))
    (aC_TooLarge : PySem.W.nsIn K mainGlobals "TooLarge" = some (some (.ref C_TooLarge)))
    (aC_NoSize : PySem.W.nsIn K mainGlobals "NoSize" = some (some (.ref C_NoSize)))
    (aC_NoRoom : PySem.W.nsIn K mainGlobals "NoRoom" = some (some (.ref C_NoRoom)))
    (aC_NotOut : PySem.W.nsIn K mainGlobals "NotOut" = some (some (.ref C_NotOut)))
    (aC_OutOfThing : PySem.W.nsIn K mainGlobals "OutOfThing" = some (some (.ref C_OutOfThing)))
    (a0 : PySem.W.findIn K (.ref C_Shelf) "__init__" = some (some (.ref f0)))
    (i0 : PySem.W.isFn K (.ref f0) = true)
    (l0 : K.lookup f0 = some ⟨oc0, od0, .func (PySem.W.fnOf "__init__" "Shelf.__init__" (defArgs s_Shelf_init) (defBody s_Shelf_init) (defScope s_Shelf_init) .none kV0 dc0 pm0 an0 cd0 ct0), sl0⟩)
    (c0 : PySem.W.codeIn K cd0 "Shelf.__init__" = true)
    (k0 : PySem.W.keepIn K (.ref f0) = true)
    (a1 : PySem.W.findIn K (.ref C_Shelf) "out" = some (some (.ref f1)))
    (i1 : PySem.W.isFn K (.ref f1) = true)
    (l1 : K.lookup f1 = some ⟨oc1, od1, .func (PySem.W.fnOf "out" "Shelf.out" (defArgs s_Shelf_out) (defBody s_Shelf_out) (defScope s_Shelf_out) .none kV1 dc1 pm1 an1 cd1 ct1), sl1⟩)
    (c1 : PySem.W.codeIn K cd1 "Shelf.out" = true)
    (k1 : PySem.W.keepIn K (.ref f1) = true)
    (a2 : PySem.W.findIn K (.ref C_Shelf) "free" = some (some (.ref f2)))
    (i2 : PySem.W.isFn K (.ref f2) = true)
    (l2 : K.lookup f2 = some ⟨oc2, od2, .func (PySem.W.fnOf "free" "Shelf.free" (defArgs s_Shelf_free) (defBody s_Shelf_free) (defScope s_Shelf_free) .none kV2 dc2 pm2 an2 cd2 ct2), sl2⟩)
    (c2 : PySem.W.codeIn K cd2 "Shelf.free" = true)
    (k2 : PySem.W.keepIn K (.ref f2) = true)
    (a3 : PySem.W.findIn K (.ref C_Shelf) "take" = some (some (.ref f3)))
    (i3 : PySem.W.isFn K (.ref f3) = true)
    (l3 : K.lookup f3 = some ⟨oc3, od3, .func (PySem.W.fnOf "take" "Shelf.take" (defArgs s_Shelf_take) (defBody s_Shelf_take) (defScope s_Shelf_take) .none kV3 dc3 pm3 an3 cd3 ct3), sl3⟩)
    (c3 : PySem.W.codeIn K cd3 "Shelf.take" = true)
    (k3 : PySem.W.keepIn K (.ref f3) = true)
    (a4 : PySem.W.findIn K (.ref C_Shelf) "give" = some (some (.ref f4)))
    (i4 : PySem.W.isFn K (.ref f4) = true)
    (l4 : K.lookup f4 = some ⟨oc4, od4, .func (PySem.W.fnOf "give" "Shelf.give" (defArgs s_Shelf_give) (defBody s_Shelf_give) (defScope s_Shelf_give) .none kV4 dc4 pm4 an4 cd4 ct4), sl4⟩)
    (c4 : PySem.W.codeIn K cd4 "Shelf.give" = true)
    (k4 : PySem.W.keepIn K (.ref f4) = true)
    (a5 : PySem.W.nsIn K mainGlobals "fullest_first" = some (some (.ref f5)))
    (l5 : K.lookup f5 = some ⟨oc5, od5, .func (PySem.W.fnOf "fullest_first" "fullest_first" (defArgs s_fullest_first) (defBody s_fullest_first) (defScope s_fullest_first) .none kV5 dc5 pm5 an5 cd5 ct5), sl5⟩)
    (c5 : PySem.W.codeIn K cd5 "fullest_first" = true)
    (k5 : PySem.W.keepIn K (.ref f5) = true)
    (a6 : PySem.W.findIn K (.ref C_Room) "__init__" = some (some (.ref f6)))
    (i6 : PySem.W.isFn K (.ref f6) = true)
    (l6 : K.lookup f6 = some ⟨oc6, od6, .func (PySem.W.fnOf "__init__" "Room.__init__" (defArgs s_Room_init) (defBody s_Room_init) (defScope s_Room_init) .none kV6 dc6 pm6 an6 cd6 ct6), sl6⟩)
    (c6 : PySem.W.codeIn K cd6 "Room.__init__" = true)
    (k6 : PySem.W.keepIn K (.ref f6) = true)
    (a7 : PySem.W.findIn K (.ref C_Room) "wish" = some (some (.ref f7)))
    (i7 : PySem.W.isFn K (.ref f7) = true)
    (l7 : K.lookup f7 = some ⟨oc7, od7, .func (PySem.W.fnOf "wish" "Room.wish" (defArgs s_Room_wish) (defBody s_Room_wish) (defScope s_Room_wish) .none kV7 dc7 pm7 an7 cd7 ct7), sl7⟩)
    (c7 : PySem.W.codeIn K cd7 "Room.wish" = true)
    (k7 : PySem.W.keepIn K (.ref f7) = true)
    (a8 : PySem.W.findIn K (.ref C_Room) "give_back" = some (some (.ref f8)))
    (i8 : PySem.W.isFn K (.ref f8) = true)
    (l8 : K.lookup f8 = some ⟨oc8, od8, .func (PySem.W.fnOf "give_back" "Room.give_back" (defArgs s_Room_give_back) (defBody s_Room_give_back) (defScope s_Room_give_back) .none kV8 dc8 pm8 an8 cd8 ct8), sl8⟩)
    (c8 : PySem.W.codeIn K cd8 "Room.give_back" = true)
    (k8 : PySem.W.keepIn K (.ref f8) = true)
    (a9 : PySem.W.findIn K (.ref C_Room) "trim" = some (some (.ref f9)))
    (i9 : PySem.W.isFn K (.ref f9) = true)
    (l9 : K.lookup f9 = some ⟨oc9, od9, .func (PySem.W.fnOf "trim" "Room.trim" (defArgs s_Room_trim) (defBody s_Room_trim) (defScope s_Room_trim) .none kV9 dc9 pm9 an9 cd9 ct9), sl9⟩)
    (c9 : PySem.W.codeIn K cd9 "Room.trim" = true)
    (k9 : PySem.W.keepIn K (.ref f9) = true)
    (a10 : PySem.W.findIn K (.ref C_Room) "room_for" = some (some (.ref f10)))
    (i10 : PySem.W.isFn K (.ref f10) = true)
    (l10 : K.lookup f10 = some ⟨oc10, od10, .func (PySem.W.fnOf "room_for" "Room.room_for" (defArgs s_Room_room_for) (defBody s_Room_room_for) (defScope s_Room_room_for) .none kV10 dc10 pm10 an10 cd10 ct10), sl10⟩)
    (c10 : PySem.W.codeIn K cd10 "Room.room_for" = true)
    (k10 : PySem.W.keepIn K (.ref f10) = true)
    (a11 : PySem.W.findIn K (.ref C_Room) "read" = some (some (.ref f11)))
    (i11 : PySem.W.isFn K (.ref f11) = true)
    (l11 : K.lookup f11 = some ⟨oc11, od11, .func (PySem.W.fnOf "read" "Room.read" (defArgs s_Room_read) (defBody s_Room_read) (defScope s_Room_read) .none kV11 dc11 pm11 an11 cd11 ct11), sl11⟩)
    (c11 : PySem.W.codeIn K cd11 "Room.read" = true)
    (k11 : PySem.W.keepIn K (.ref f11) = true)
    (a12 : PySem.W.findIn K (.ref C_Room) "write" = some (some (.ref f12)))
    (i12 : PySem.W.isFn K (.ref f12) = true)
    (l12 : K.lookup f12 = some ⟨oc12, od12, .func (PySem.W.fnOf "write" "Room.write" (defArgs s_Room_write) (defBody s_Room_write) (defScope s_Room_write) .none kV12 dc12 pm12 an12 cd12 ct12), sl12⟩)
    (c12 : PySem.W.codeIn K cd12 "Room.write" = true)
    (k12 : PySem.W.keepIn K (.ref f12) = true)
    (a13 : PySem.W.findIn K (.ref C_Room) "gather" = some (some (.ref f13)))
    (i13 : PySem.W.isFn K (.ref f13) = true)
    (l13 : K.lookup f13 = some ⟨oc13, od13, .func (PySem.W.fnOf "gather" "Room.gather" (defArgs s_Room_gather) (defBody s_Room_gather) (defScope s_Room_gather) .none kV13 dc13 pm13 an13 cd13 ct13), sl13⟩)
    (c13 : PySem.W.codeIn K cd13 "Room.gather" = true)
    (k13 : PySem.W.keepIn K (.ref f13) = true)
    (a14 : PySem.W.findIn K (.ref C_Room) "things" = some (some (.ref f14)))
    (i14 : PySem.W.isFn K (.ref f14) = true)
    (l14 : K.lookup f14 = some ⟨oc14, od14, .func (PySem.W.fnOf "things" "Room.things" (defArgs s_Room_things) (defBody s_Room_things) (defScope s_Room_things) .none kV14 dc14 pm14 an14 cd14 ct14), sl14⟩)
    (c14 : PySem.W.codeIn K cd14 "Room.things" = true)
    (k14 : PySem.W.keepIn K (.ref f14) = true)
    (a15 : PySem.W.findIn K (.ref C_Room) "shelves" = some (some (.ref f15)))
    (i15 : PySem.W.isFn K (.ref f15) = true)
    (l15 : K.lookup f15 = some ⟨oc15, od15, .func (PySem.W.fnOf "shelves" "Room.shelves" (defArgs s_Room_shelves) (defBody s_Room_shelves) (defScope s_Room_shelves) .none kV15 dc15 pm15 an15 cd15 ct15), sl15⟩)
    (c15 : PySem.W.codeIn K cd15 "Room.shelves" = true)
    (k15 : PySem.W.keepIn K (.ref f15) = true)
    (a16 : PySem.W.findIn K (.ref C_Room) "pile" = some (some (.ref f16)))
    (i16 : PySem.W.isFn K (.ref f16) = true)
    (l16 : K.lookup f16 = some ⟨oc16, od16, .func (PySem.W.fnOf "pile" "Room.pile" (defArgs s_Room_pile) (defBody s_Room_pile) (defScope s_Room_pile) .none kV16 dc16 pm16 an16 cd16 ct16), sl16⟩)
    (c16 : PySem.W.codeIn K cd16 "Room.pile" = true)
    (k16 : PySem.W.keepIn K (.ref f16) = true)
    (a17 : PySem.W.findIn K (.ref C_Room) "_all" = some (some (.ref f17)))
    (i17 : PySem.W.isFn K (.ref f17) = true)
    (l17 : K.lookup f17 = some ⟨oc17, od17, .func (PySem.W.fnOf "_all" "Room._all" (defArgs s_Room__all) (defBody s_Room__all) (defScope s_Room__all) .none kV17 dc17 pm17 an17 cd17 ct17), sl17⟩)
    (c17 : PySem.W.codeIn K cd17 "Room._all" = true)
    (k17 : PySem.W.keepIn K (.ref f17) = true)
    (a18 : PySem.W.findIn K (.ref C_Room) "_of_size" = some (some (.ref f18)))
    (i18 : PySem.W.isFn K (.ref f18) = true)
    (l18 : K.lookup f18 = some ⟨oc18, od18, .func (PySem.W.fnOf "_of_size" "Room._of_size" (defArgs s_Room__of_size) (defBody s_Room__of_size) (defScope s_Room__of_size) .none kV18 dc18 pm18 an18 cd18 ct18), sl18⟩)
    (c18 : PySem.W.codeIn K cd18 "Room._of_size" = true)
    (k18 : PySem.W.keepIn K (.ref f18) = true)
    (a19 : PySem.W.findIn K (.ref C_Room) "_unused" = some (some (.ref f19)))
    (i19 : PySem.W.isFn K (.ref f19) = true)
    (l19 : K.lookup f19 = some ⟨oc19, od19, .func (PySem.W.fnOf "_unused" "Room._unused" (defArgs s_Room__unused) (defBody s_Room__unused) (defScope s_Room__unused) .none kV19 dc19 pm19 an19 cd19 ct19), sl19⟩)
    (c19 : PySem.W.codeIn K cd19 "Room._unused" = true)
    (k19 : PySem.W.keepIn K (.ref f19) = true)
    (a20 : PySem.W.findIn K (.ref C_Room) "_page_of" = some (some (.ref f20)))
    (i20 : PySem.W.isFn K (.ref f20) = true)
    (l20 : K.lookup f20 = some ⟨oc20, od20, .func (PySem.W.fnOf "_page_of" "Room._page_of" (defArgs s_Room__page_of) (defBody s_Room__page_of) (defScope s_Room__page_of) .none kV20 dc20 pm20 an20 cd20 ct20), sl20⟩)
    (c20 : PySem.W.codeIn K cd20 "Room._page_of" = true)
    (k20 : PySem.W.keepIn K (.ref f20) = true)
    (a21 : PySem.W.findIn K (.ref C_Room) "_check_out" = some (some (.ref f21)))
    (i21 : PySem.W.isFn K (.ref f21) = true)
    (l21 : K.lookup f21 = some ⟨oc21, od21, .func (PySem.W.fnOf "_check_out" "Room._check_out" (defArgs s_Room__check_out) (defBody s_Room__check_out) (defScope s_Room__check_out) .none kV21 dc21 pm21 an21 cd21 ct21), sl21⟩)
    (c21 : PySem.W.codeIn K cd21 "Room._check_out" = true)
    (k21 : PySem.W.keepIn K (.ref f21) = true)
    (a22 : PySem.W.findIn K (.ref C_Room) "_check_step" = some (some (.ref f22)))
    (i22 : PySem.W.isFn K (.ref f22) = true)
    (l22 : K.lookup f22 = some ⟨oc22, od22, .func (PySem.W.fnOf "_check_step" "Room._check_step" (defArgs s_Room__check_step) (defBody s_Room__check_step) (defScope s_Room__check_step) .none kV22 dc22 pm22 an22 cd22 ct22), sl22⟩)
    (c22 : PySem.W.codeIn K cd22 "Room._check_step" = true)
    (k22 : PySem.W.keepIn K (.ref f22) = true)
    (a23 : PySem.W.findIn K (.ref C_Room) "_shelf_for" = some (some (.ref f23)))
    (i23 : PySem.W.isFn K (.ref f23) = true)
    (l23 : K.lookup f23 = some ⟨oc23, od23, .func (PySem.W.fnOf "_shelf_for" "Room._shelf_for" (defArgs s_Room__shelf_for) (defBody s_Room__shelf_for) (defScope s_Room__shelf_for) .none kV23 dc23 pm23 an23 cd23 ct23), sl23⟩)
    (c23 : PySem.W.codeIn K cd23 "Room._shelf_for" = true)
    (k23 : PySem.W.keepIn K (.ref f23) = true)
    (a24 : PySem.W.findIn K (.ref C_Room) "_page_for_shelf" = some (some (.ref f24)))
    (i24 : PySem.W.isFn K (.ref f24) = true)
    (l24 : K.lookup f24 = some ⟨oc24, od24, .func (PySem.W.fnOf "_page_for_shelf" "Room._page_for_shelf" (defArgs s_Room__page_for_shelf) (defBody s_Room__page_for_shelf) (defScope s_Room__page_for_shelf) .none kV24 dc24 pm24 an24 cd24 ct24), sl24⟩)
    (c24 : PySem.W.codeIn K cd24 "Room._page_for_shelf" = true)
    (k24 : PySem.W.keepIn K (.ref f24) = true)
    (a25 : PySem.W.findIn K (.ref C_Room) "_take_place" = some (some (.ref f25)))
    (i25 : PySem.W.isFn K (.ref f25) = true)
    (l25 : K.lookup f25 = some ⟨oc25, od25, .func (PySem.W.fnOf "_take_place" "Room._take_place" (defArgs s_Room__take_place) (defBody s_Room__take_place) (defScope s_Room__take_place) .none kV25 dc25 pm25 an25 cd25 ct25), sl25⟩)
    (c25 : PySem.W.codeIn K cd25 "Room._take_place" = true)
    (k25 : PySem.W.keepIn K (.ref f25) = true)
    (a26 : PySem.W.findIn K (.ref C_Room) "_give_back_shelves" = some (some (.ref f26)))
    (i26 : PySem.W.isFn K (.ref f26) = true)
    (l26 : K.lookup f26 = some ⟨oc26, od26, .func (PySem.W.fnOf "_give_back_shelves" "Room._give_back_shelves" (defArgs s_Room__give_back_shelves) (defBody s_Room__give_back_shelves) (defScope s_Room__give_back_shelves) .none kV26 dc26 pm26 an26 cd26 ct26), sl26⟩)
    (c26 : PySem.W.codeIn K cd26 "Room._give_back_shelves" = true)
    (k26 : PySem.W.keepIn K (.ref f26) = true)
    (a27 : PySem.W.findIn K (.ref C_Room) "_move_things" = some (some (.ref f27)))
    (i27 : PySem.W.isFn K (.ref f27) = true)
    (l27 : K.lookup f27 = some ⟨oc27, od27, .func (PySem.W.fnOf "_move_things" "Room._move_things" (defArgs s_Room__move_things) (defBody s_Room__move_things) (defScope s_Room__move_things) .none kV27 dc27 pm27 an27 (.ref c_lam) ct27), sl27⟩)
    (c27 : PySem.W.codeIn K (.ref c_lam) "Room._move_things" = true)
    (hT_lam : h.get? P_lam = some (PySem.W.tabObj #[]))
    (hd_lam : PySem.W.codeHdIn K c_lam P_lam = true)
    (nl_lam : K.lookup P_lam = none)
    (k27 : PySem.W.keepIn K (.ref f27) = true)
    (a28 : PySem.W.nsIn K mainGlobals "is_whole" = some (some (.ref f28)))
    (l28 : K.lookup f28 = some ⟨oc28, od28, .func (PySem.W.fnOf "is_whole" "is_whole" (defArgs s_is_whole) (defBody s_is_whole) (defScope s_is_whole) .none kV28 dc28 pm28 an28 cd28 ct28), sl28⟩)
    (c28 : PySem.W.codeIn K cd28 "is_whole" = true)
    (k28 : PySem.W.keepIn K (.ref f28) = true)
    (a29 : PySem.W.nsIn K mainGlobals "is_within" = some (some (.ref f29)))
    (l29 : K.lookup f29 = some ⟨oc29, od29, .func (PySem.W.fnOf "is_within" "is_within" (defArgs s_is_within) (defBody s_is_within) (defScope s_is_within) .none kV29 dc29 pm29 an29 cd29 ct29), sl29⟩)
    (c29 : PySem.W.codeIn K cd29 "is_within" = true)
    (k29 : PySem.W.keepIn K (.ref f29) = true)
    (a30 : PySem.W.nsIn K mainGlobals "check_sizes" = some (some (.ref f30)))
    (l30 : K.lookup f30 = some ⟨oc30, od30, .func (PySem.W.fnOf "check_sizes" "check_sizes" (defArgs s_check_sizes) (defBody s_check_sizes) (defScope s_check_sizes) .none kV30 dc30 pm30 an30 cd30 ct30), sl30⟩)
    (c30 : PySem.W.codeIn K cd30 "check_sizes" = true)
    (k30 : PySem.W.keepIn K (.ref f30) = true)
    (a31 : PySem.W.findIn K (.ref C_Plan) "__init__" = some (some (.ref f31)))
    (i31 : PySem.W.isFn K (.ref f31) = true)
    (l31 : K.lookup f31 = some ⟨oc31, od31, .func (PySem.W.fnOf "__init__" "Plan.__init__" (defArgs s_Plan_init) (defBody s_Plan_init) (defScope s_Plan_init) .none kV31 dc31 pm31 an31 cd31 ct31), sl31⟩)
    (c31 : PySem.W.codeIn K cd31 "Plan.__init__" = true)
    (k31 : PySem.W.keepIn K (.ref f31) = true)
    (a32 : PySem.W.findIn K (.ref C_Plan) "size_for" = some (some (.ref f32)))
    (i32 : PySem.W.isFn K (.ref f32) = true)
    (l32 : K.lookup f32 = some ⟨oc32, od32, .func (PySem.W.fnOf "size_for" "Plan.size_for" (defArgs s_Plan_size_for) (defBody s_Plan_size_for) (defScope s_Plan_size_for) .none kV32 dc32 pm32 an32 cd32 ct32), sl32⟩)
    (c32 : PySem.W.codeIn K cd32 "Plan.size_for" = true)
    (k32 : PySem.W.keepIn K (.ref f32) = true)
    (a33 : PySem.W.findIn K (.ref C_Plan) "per" = some (some (.ref f33)))
    (i33 : PySem.W.isFn K (.ref f33) = true)
    (l33 : K.lookup f33 = some ⟨oc33, od33, .func (PySem.W.fnOf "per" "Plan.per" (defArgs s_Plan_per) (defBody s_Plan_per) (defScope s_Plan_per) .none kV33 dc33 pm33 an33 cd33 ct33), sl33⟩)
    (c33 : PySem.W.codeIn K cd33 "Plan.per" = true)
    (k33 : PySem.W.keepIn K (.ref f33) = true)
    (a34 : PySem.W.nsIn K mainGlobals "_law_cell_at" = some (some (.ref f34)))
    (l34 : K.lookup f34 = some ⟨oc34, od34, .func (PySem.W.fnOf "_law_cell_at" "_law_cell_at" (defArgs s_l_cell_at) (defBody s_l_cell_at) (defScope s_l_cell_at) .none kV34 dc34 pm34 an34 cd34 ct34), sl34⟩)
    (c34 : PySem.W.codeIn K cd34 "_law_cell_at" = true)
    (k34 : PySem.W.keepIn K (.ref f34) = true)
    (a35 : PySem.W.nsIn K mainGlobals "_law_whole" = some (some (.ref f35)))
    (l35 : K.lookup f35 = some ⟨oc35, od35, .func (PySem.W.fnOf "_law_whole" "_law_whole" (defArgs s_l_whole) (defBody s_l_whole) (defScope s_l_whole) .none kV35 dc35 pm35 an35 cd35 ct35), sl35⟩)
    (c35 : PySem.W.codeIn K cd35 "_law_whole" = true)
    (k35 : PySem.W.keepIn K (.ref f35) = true)
    (a36 : PySem.W.nsIn K mainGlobals "_law_sizes_by" = some (some (.ref f36)))
    (l36 : K.lookup f36 = some ⟨oc36, od36, .func (PySem.W.fnOf "_law_sizes_by" "_law_sizes_by" (defArgs s_l_sizes_by) (defBody s_l_sizes_by) (defScope s_l_sizes_by) .none kV36 dc36 pm36 an36 cd36 ct36), sl36⟩)
    (c36 : PySem.W.codeIn K cd36 "_law_sizes_by" = true)
    (k36 : PySem.W.keepIn K (.ref f36) = true)
    (a37 : PySem.W.nsIn K mainGlobals "_law_plan_by" = some (some (.ref f37)))
    (l37 : K.lookup f37 = some ⟨oc37, od37, .func (PySem.W.fnOf "_law_plan_by" "_law_plan_by" (defArgs s_l_plan_by) (defBody s_l_plan_by) (defScope s_l_plan_by) .none kV37 dc37 pm37 an37 cd37 ct37), sl37⟩)
    (c37 : PySem.W.codeIn K cd37 "_law_plan_by" = true)
    (k37 : PySem.W.keepIn K (.ref f37) = true)
    (a38 : PySem.W.nsIn K mainGlobals "_law_size_by" = some (some (.ref f38)))
    (l38 : K.lookup f38 = some ⟨oc38, od38, .func (PySem.W.fnOf "_law_size_by" "_law_size_by" (defArgs s_l_size_by) (defBody s_l_size_by) (defScope s_l_size_by) .none kV38 dc38 pm38 an38 cd38 ct38), sl38⟩)
    (c38 : PySem.W.codeIn K cd38 "_law_size_by" = true)
    (k38 : PySem.W.keepIn K (.ref f38) = true)
    (a39 : PySem.W.nsIn K mainGlobals "_law_fullest" = some (some (.ref f39)))
    (l39 : K.lookup f39 = some ⟨oc39, od39, .func (PySem.W.fnOf "_law_fullest" "_law_fullest" (defArgs s_l_fullest) (defBody s_l_fullest) (defScope s_l_fullest) .none kV39 dc39 pm39 an39 cd39 ct39), sl39⟩)
    (c39 : PySem.W.codeIn K cd39 "_law_fullest" = true)
    (k39 : PySem.W.keepIn K (.ref f39) = true)
    (a40 : PySem.W.nsIn K mainGlobals "_law_fresh" = some (some (.ref f40)))
    (l40 : K.lookup f40 = some ⟨oc40, od40, .func (PySem.W.fnOf "_law_fresh" "_law_fresh" (defArgs s_l_fresh) (defBody s_l_fresh) (defScope s_l_fresh) .none kV40 dc40 pm40 an40 cd40 ct40), sl40⟩)
    (c40 : PySem.W.codeIn K cd40 "_law_fresh" = true)
    (k40 : PySem.W.keepIn K (.ref f40) = true)
    (a41 : PySem.W.nsIn K mainGlobals "_law_wished" = some (some (.ref f41)))
    (l41 : K.lookup f41 = some ⟨oc41, od41, .func (PySem.W.fnOf "_law_wished" "_law_wished" (defArgs s_l_wished) (defBody s_l_wished) (defScope s_l_wished) .none kV41 dc41 pm41 an41 cd41 ct41), sl41⟩)
    (c41 : PySem.W.codeIn K cd41 "_law_wished" = true)
    (k41 : PySem.W.keepIn K (.ref f41) = true)
    (a42 : PySem.W.nsIn K mainGlobals "_law_places" = some (some (.ref f42)))
    (l42 : K.lookup f42 = some ⟨oc42, od42, .func (PySem.W.fnOf "_law_places" "_law_places" (defArgs s_l_places) (defBody s_l_places) (defScope s_l_places) .none kV42 dc42 pm42 an42 cd42 ct42), sl42⟩)
    (c42 : PySem.W.codeIn K cd42 "_law_places" = true)
    (k42 : PySem.W.keepIn K (.ref f42) = true)
    (a43 : PySem.W.nsIn K mainGlobals "_law_given" = some (some (.ref f43)))
    (l43 : K.lookup f43 = some ⟨oc43, od43, .func (PySem.W.fnOf "_law_given" "_law_given" (defArgs s_l_given) (defBody s_l_given) (defScope s_l_given) .none kV43 dc43 pm43 an43 cd43 ct43), sl43⟩)
    (c43 : PySem.W.codeIn K cd43 "_law_given" = true)
    (k43 : PySem.W.keepIn K (.ref f43) = true)
    (a44 : PySem.W.nsIn K mainGlobals "_law_gathered_by" = some (some (.ref f44)))
    (l44 : K.lookup f44 = some ⟨oc44, od44, .func (PySem.W.fnOf "_law_gathered_by" "_law_gathered_by" (defArgs s_l_gathered_by) (defBody s_l_gathered_by) (defScope s_l_gathered_by) .none kV44 dc44 pm44 an44 cd44 ct44), sl44⟩)
    (c44 : PySem.W.codeIn K cd44 "_law_gathered_by" = true)
    (k44 : PySem.W.keepIn K (.ref f44) = true)
    (a45 : PySem.W.nsIn K mainGlobals "_law_left" = some (some (.ref f45)))
    (l45 : K.lookup f45 = some ⟨oc45, od45, .func (PySem.W.fnOf "_law_left" "_law_left" (defArgs s_l_left) (defBody s_l_left) (defScope s_l_left) .none kV45 dc45 pm45 an45 cd45 ct45), sl45⟩)
    (c45 : PySem.W.codeIn K cd45 "_law_left" = true)
    (k45 : PySem.W.keepIn K (.ref f45) = true)
    (a46 : PySem.W.nsIn K mainGlobals "_law_told" = some (some (.ref f46)))
    (l46 : K.lookup f46 = some ⟨oc46, od46, .func (PySem.W.fnOf "_law_told" "_law_told" (defArgs s_l_told) (defBody s_l_told) (defScope s_l_told) .none kV46 dc46 pm46 an46 cd46 ct46), sl46⟩)
    (c46 : PySem.W.codeIn K cd46 "_law_told" = true)
    (k46 : PySem.W.keepIn K (.ref f46) = true)
    (a47 : PySem.W.nsIn K mainGlobals "_law_got" = some (some (.ref f47)))
    (l47 : K.lookup f47 = some ⟨oc47, od47, .func (PySem.W.fnOf "_law_got" "_law_got" (defArgs s_l_got) (defBody s_l_got) (defScope s_l_got) .none kV47 dc47 pm47 an47 cd47 ct47), sl47⟩)
    (c47 : PySem.W.codeIn K cd47 "_law_got" = true)
    (k47 : PySem.W.keepIn K (.ref f47) = true)
    (a48 : PySem.W.nsIn K mainGlobals "_law_deed" = some (some (.ref f48)))
    (l48 : K.lookup f48 = some ⟨oc48, od48, .func (PySem.W.fnOf "_law_deed" "_law_deed" (defArgs s_l_deed) (defBody s_l_deed) (defScope s_l_deed) .none kV48 dc48 pm48 an48 cd48 ct48), sl48⟩)
    (c48 : PySem.W.codeIn K cd48 "_law_deed" = true)
    (k48 : PySem.W.keepIn K (.ref f48) = true)
    (a49 : PySem.W.nsIn K mainGlobals "_law_stands" = some (some (.ref f49)))
    (l49 : K.lookup f49 = some ⟨oc49, od49, .func (PySem.W.fnOf "_law_stands" "_law_stands" (defArgs s_l_stands) (defBody s_l_stands) (defScope s_l_stands) .none kV49 dc49 pm49 an49 cd49 ct49), sl49⟩)
    (c49 : PySem.W.codeIn K cd49 "_law_stands" = true)
    (k49 : PySem.W.keepIn K (.ref f49) = true)
    (a50 : PySem.W.nsIn K mainGlobals "law" = some (some (.ref f50)))
    (l50 : K.lookup f50 = some ⟨oc50, od50, .func (PySem.W.fnOf "law" "law" (defArgs s_law) (defBody s_law) (defScope s_law) .none kV50 dc50 pm50 an50 cd50 ct50), sl50⟩)
    (c50 : PySem.W.codeIn K cd50 "law" = true)
    (k50 : PySem.W.keepIn K (.ref f50) = true)
    (pg_Shelf : PySem.W.plainGet K C_Shelf Str.empty = true)
    (hd_Shelf : PySem.W.hasDictIn K C_Shelf = true)
    (po_Shelf : PySem.W.plainOver K C_Shelf = true)
    (sa_Shelf : PySem.W.findIn K (.ref C_Shelf) "__setattr__" = some (some (.builtin "object.__setattr__")))
    (mk_Shelf : PySem.W.makesIn K C_Shelf = true)
    (kc_Shelf : PySem.W.keepIn K (.ref C_Shelf) = true)
    (na_Shelf_page : PySem.W.findIn K (.ref C_Shelf) "page" = some none)
    (na_Shelf_size : PySem.W.findIn K (.ref C_Shelf) "size" = some none)
    (na_Shelf__free : PySem.W.findIn K (.ref C_Shelf) "_free" = some none)
    (na_Shelf__taken : PySem.W.findIn K (.ref C_Shelf) "_taken" = some none)
    (pg_Room : PySem.W.plainGet K C_Room Str.empty = true)
    (hd_Room : PySem.W.hasDictIn K C_Room = true)
    (po_Room : PySem.W.plainOver K C_Room = true)
    (sa_Room : PySem.W.findIn K (.ref C_Room) "__setattr__" = some (some (.builtin "object.__setattr__")))
    (mk_Room : PySem.W.makesIn K C_Room = true)
    (kc_Room : PySem.W.keepIn K (.ref C_Room) = true)
    (na_Room__plan : PySem.W.findIn K (.ref C_Room) "_plan" = some none)
    (na_Room__shelves : PySem.W.findIn K (.ref C_Room) "_shelves" = some none)
    (na_Room__held : PySem.W.findIn K (.ref C_Room) "_held" = some none)
    (pg_Plan : PySem.W.plainGet K C_Plan Str.empty = true)
    (hd_Plan : PySem.W.hasDictIn K C_Plan = true)
    (po_Plan : PySem.W.plainOver K C_Plan = true)
    (sa_Plan : PySem.W.findIn K (.ref C_Plan) "__setattr__" = some (some (.builtin "object.__setattr__")))
    (mk_Plan : PySem.W.makesIn K C_Plan = true)
    (kc_Plan : PySem.W.keepIn K (.ref C_Plan) = true)
    (na_Plan_pages : PySem.W.findIn K (.ref C_Plan) "pages" = some none)
    (na_Plan_length : PySem.W.findIn K (.ref C_Plan) "length" = some none)
    (na_Plan_sizes : PySem.W.findIn K (.ref C_Plan) "sizes" = some none)
    (x_RoomError : PySem.W.excIn K C_RoomError [.type "ValueError", .type "Exception", .type "BaseException", .type "object"] "ValueError.__new__" = true)
    (ke_RoomError : PySem.W.keepIn K (.ref C_RoomError) = true)
    (bs_RoomError : PySem.W.subIn K (.ref C_RoomError) (.type "BaseException") = some true)
    (ty_RoomError : PySem.W.typeIn K (.ref C_RoomError) = some (.type "type"))
    (ic_RoomError : PySem.W.isClsIn K C_RoomError = true)
    (x_BadPlan : PySem.W.excIn K C_BadPlan [.type "ValueError", .type "Exception", .type "BaseException", .type "object"] "ValueError.__new__" = true)
    (ke_BadPlan : PySem.W.keepIn K (.ref C_BadPlan) = true)
    (bs_BadPlan : PySem.W.subIn K (.ref C_BadPlan) (.type "BaseException") = some true)
    (ty_BadPlan : PySem.W.typeIn K (.ref C_BadPlan) = some (.type "type"))
    (ic_BadPlan : PySem.W.isClsIn K C_BadPlan = true)
    (x_BadWish : PySem.W.excIn K C_BadWish [.type "ValueError", .type "Exception", .type "BaseException", .type "object"] "ValueError.__new__" = true)
    (ke_BadWish : PySem.W.keepIn K (.ref C_BadWish) = true)
    (bs_BadWish : PySem.W.subIn K (.ref C_BadWish) (.type "BaseException") = some true)
    (ty_BadWish : PySem.W.typeIn K (.ref C_BadWish) = some (.type "type"))
    (ic_BadWish : PySem.W.isClsIn K C_BadWish = true)
    (x_TooLarge : PySem.W.excIn K C_TooLarge [.type "ValueError", .type "Exception", .type "BaseException", .type "object"] "ValueError.__new__" = true)
    (ke_TooLarge : PySem.W.keepIn K (.ref C_TooLarge) = true)
    (bs_TooLarge : PySem.W.subIn K (.ref C_TooLarge) (.type "BaseException") = some true)
    (ty_TooLarge : PySem.W.typeIn K (.ref C_TooLarge) = some (.type "type"))
    (ic_TooLarge : PySem.W.isClsIn K C_TooLarge = true)
    (x_NoSize : PySem.W.excIn K C_NoSize [.type "ValueError", .type "Exception", .type "BaseException", .type "object"] "ValueError.__new__" = true)
    (ke_NoSize : PySem.W.keepIn K (.ref C_NoSize) = true)
    (bs_NoSize : PySem.W.subIn K (.ref C_NoSize) (.type "BaseException") = some true)
    (ty_NoSize : PySem.W.typeIn K (.ref C_NoSize) = some (.type "type"))
    (ic_NoSize : PySem.W.isClsIn K C_NoSize = true)
    (x_NoRoom : PySem.W.excIn K C_NoRoom [.type "ValueError", .type "Exception", .type "BaseException", .type "object"] "ValueError.__new__" = true)
    (ke_NoRoom : PySem.W.keepIn K (.ref C_NoRoom) = true)
    (bs_NoRoom : PySem.W.subIn K (.ref C_NoRoom) (.type "BaseException") = some true)
    (ty_NoRoom : PySem.W.typeIn K (.ref C_NoRoom) = some (.type "type"))
    (ic_NoRoom : PySem.W.isClsIn K C_NoRoom = true)
    (x_NotOut : PySem.W.excIn K C_NotOut [.type "ValueError", .type "Exception", .type "BaseException", .type "object"] "ValueError.__new__" = true)
    (ke_NotOut : PySem.W.keepIn K (.ref C_NotOut) = true)
    (bs_NotOut : PySem.W.subIn K (.ref C_NotOut) (.type "BaseException") = some true)
    (ty_NotOut : PySem.W.typeIn K (.ref C_NotOut) = some (.type "type"))
    (ic_NotOut : PySem.W.isClsIn K C_NotOut = true)
    (x_OutOfThing : PySem.W.excIn K C_OutOfThing [.type "ValueError", .type "Exception", .type "BaseException", .type "object"] "ValueError.__new__" = true)
    (ke_OutOfThing : PySem.W.keepIn K (.ref C_OutOfThing) = true)
    (bs_OutOfThing : PySem.W.subIn K (.ref C_OutOfThing) (.type "BaseException") = some true)
    (ty_OutOfThing : PySem.W.typeIn K (.ref C_OutOfThing) = some (.type "type"))
    (ic_OutOfThing : PySem.W.isClsIn K C_OutOfThing = true)
    (sb_BadPlan_NoRoom : PySem.W.subIn K (.ref C_BadPlan) (.ref C_NoRoom) = some false)
    (sb_BadPlan_TooLarge : PySem.W.subIn K (.ref C_BadPlan) (.ref C_TooLarge) = some false)
    (sb_BadWish_NoRoom : PySem.W.subIn K (.ref C_BadWish) (.ref C_NoRoom) = some false)
    (sb_BadWish_TooLarge : PySem.W.subIn K (.ref C_BadWish) (.ref C_TooLarge) = some false)
    (sb_NoRoom_NoRoom : PySem.W.subIn K (.ref C_NoRoom) (.ref C_NoRoom) = some true)
    (sb_NoRoom_TooLarge : PySem.W.subIn K (.ref C_NoRoom) (.ref C_TooLarge) = some false)
    (sb_NoSize_NoRoom : PySem.W.subIn K (.ref C_NoSize) (.ref C_NoRoom) = some false)
    (sb_NoSize_TooLarge : PySem.W.subIn K (.ref C_NoSize) (.ref C_TooLarge) = some false)
    (sb_NotOut_NoRoom : PySem.W.subIn K (.ref C_NotOut) (.ref C_NoRoom) = some false)
    (sb_NotOut_TooLarge : PySem.W.subIn K (.ref C_NotOut) (.ref C_TooLarge) = some false)
    (sb_OutOfThing_NoRoom : PySem.W.subIn K (.ref C_OutOfThing) (.ref C_NoRoom) = some false)
    (sb_OutOfThing_TooLarge : PySem.W.subIn K (.ref C_OutOfThing) (.ref C_TooLarge) = some false)
    (sb_TooLarge_NoRoom : PySem.W.subIn K (.ref C_TooLarge) (.ref C_NoRoom) = some false)
    (sb_TooLarge_TooLarge : PySem.W.subIn K (.ref C_TooLarge) (.ref C_TooLarge) = some true)
    (n_bool : PySem.W.nsIn K mainGlobals "bool" = some none)
    (n_enumerate : PySem.W.nsIn K mainGlobals "enumerate" = some none)
    (n_int : PySem.W.nsIn K mainGlobals "int" = some none)
    (n_isinstance : PySem.W.nsIn K mainGlobals "isinstance" = some none)
    (n_len : PySem.W.nsIn K mainGlobals "len" = some none)
    (n_list : PySem.W.nsIn K mainGlobals "list" = some none)
    (n_min : PySem.W.nsIn K mainGlobals "min" = some none)
    (n_range : PySem.W.nsIn K mainGlobals "range" = some none)
    (n_sorted : PySem.W.nsIn K mainGlobals "sorted" = some none)
    (n_sum : PySem.W.nsIn K mainGlobals "sum" = some none)
    (h_heappop : PySem.W.nsIn K mainGlobals "heappop" = some (some (.builtin "_heapq.heappop")))
    (h_heappush : PySem.W.nsIn K mainGlobals "heappush" = some (some (.builtin "_heapq.heappush")))
    (v_MOST_LENGTH : PySem.W.nsIn K mainGlobals "MOST_LENGTH" = some (some (.int 60 tk_MOST_LENGTH)))
    (v_MOST_PAGES : PySem.W.nsIn K mainGlobals "MOST_PAGES" = some (some (.int 40 tk_MOST_PAGES)))
    (v_MOST_SIZES : PySem.W.nsIn K mainGlobals "MOST_SIZES" = some (some (.int 8 tk_MOST_SIZES))) :
    LamX.LawAtS l w K CX0 9 63 "_law_script" mg fa h := by
  have e := hfa.symm.trans (PySem.W.mg_of X G a50)
  cases e
  have F0 := fun_mk (st := s_Shelf_init) l0 c0 k0
  have b0 := F0.binds (ps := ["self", "page", "size", "slots"]) fun _ _ _ _ _ _ us hl => match us, hl with | [_, _, _, _], _ => rfl
  have F1 := fun_mk (st := s_Shelf_out) l1 c1 k1
  have b1 := F1.binds (ps := ["self"]) fun _ _ _ _ _ _ us hl => match us, hl with | [_], _ => rfl
  have F2 := fun_mk (st := s_Shelf_free) l2 c2 k2
  have b2 := F2.binds (ps := ["self"]) fun _ _ _ _ _ _ us hl => match us, hl with | [_], _ => rfl
  have F3 := fun_mk (st := s_Shelf_take) l3 c3 k3
  have b3 := F3.binds (ps := ["self"]) fun _ _ _ _ _ _ us hl => match us, hl with | [_], _ => rfl
  have F4 := fun_mk (st := s_Shelf_give) l4 c4 k4
  have b4 := F4.binds (ps := ["self", "slot"]) fun _ _ _ _ _ _ us hl => match us, hl with | [_, _], _ => rfl
  have F5 := fun_mk (st := s_fullest_first) l5 c5 k5
  have b5 := F5.binds (ps := ["shelf"]) fun _ _ _ _ _ _ us hl => match us, hl with | [_], _ => rfl
  have F6 := fun_mk (st := s_Room_init) l6 c6 k6
  have b6 := F6.binds (ps := ["self", "plan"]) fun _ _ _ _ _ _ us hl => match us, hl with | [_, _], _ => rfl
  have F7 := fun_mk (st := s_Room_wish) l7 c7 k7
  have b7 := F7.binds (ps := ["self", "places"]) fun _ _ _ _ _ _ us hl => match us, hl with | [_, _], _ => rfl
  have F8 := fun_mk (st := s_Room_give_back) l8 c8 k8
  have b8 := F8.binds (ps := ["self", "place"]) fun _ _ _ _ _ _ us hl => match us, hl with | [_, _], _ => rfl
  have F9 := fun_mk (st := s_Room_trim) l9 c9 k9
  have b9 := F9.binds (ps := ["self"]) fun _ _ _ _ _ _ us hl => match us, hl with | [_], _ => rfl
  have F10 := fun_mk (st := s_Room_room_for) l10 c10 k10
  have b10 := F10.binds (ps := ["self", "places"]) fun _ _ _ _ _ _ us hl => match us, hl with | [_, _], _ => rfl
  have F11 := fun_mk (st := s_Room_read) l11 c11 k11
  have b11 := F11.binds (ps := ["self", "place", "step"]) fun _ _ _ _ _ _ us hl => match us, hl with | [_, _, _], _ => rfl
  have F12 := fun_mk (st := s_Room_write) l12 c12 k12
  have b12 := F12.binds (ps := ["self", "place", "step", "number"]) fun _ _ _ _ _ _ us hl => match us, hl with | [_, _, _, _], _ => rfl
  have F13 := fun_mk (st := s_Room_gather) l13 c13 k13
  have b13 := F13.binds (ps := ["self", "size"]) fun _ _ _ _ _ _ us hl => match us, hl with | [_, _], _ => rfl
  have F14 := fun_mk (st := s_Room_things) l14 c14 k14
  have b14 := F14.binds (ps := ["self"]) fun _ _ _ _ _ _ us hl => match us, hl with | [_], _ => rfl
  have F15 := fun_mk (st := s_Room_shelves) l15 c15 k15
  have b15 := F15.binds (ps := ["self"]) fun _ _ _ _ _ _ us hl => match us, hl with | [_], _ => rfl
  have F16 := fun_mk (st := s_Room_pile) l16 c16 k16
  have b16 := F16.binds (ps := ["self"]) fun _ _ _ _ _ _ us hl => match us, hl with | [_], _ => rfl
  have F17 := fun_mk (st := s_Room__all) l17 c17 k17
  have b17 := F17.binds (ps := ["self"]) fun _ _ _ _ _ _ us hl => match us, hl with | [_], _ => rfl
  have F18 := fun_mk (st := s_Room__of_size) l18 c18 k18
  have b18 := F18.binds (ps := ["self", "size"]) fun _ _ _ _ _ _ us hl => match us, hl with | [_, _], _ => rfl
  have F19 := fun_mk (st := s_Room__unused) l19 c19 k19
  have b19 := F19.binds (ps := ["self"]) fun _ _ _ _ _ _ us hl => match us, hl with | [_], _ => rfl
  have F20 := fun_mk (st := s_Room__page_of) l20 c20 k20
  have b20 := F20.binds (ps := ["self", "place"]) fun _ _ _ _ _ _ us hl => match us, hl with | [_, _], _ => rfl
  have F21 := fun_mk (st := s_Room__check_out) l21 c21 k21
  have b21 := F21.binds (ps := ["self", "place"]) fun _ _ _ _ _ _ us hl => match us, hl with | [_, _], _ => rfl
  have F22 := fun_mk (st := s_Room__check_step) l22 c22 k22
  have b22 := F22.binds (ps := ["self", "place", "step"]) fun _ _ _ _ _ _ us hl => match us, hl with | [_, _, _], _ => rfl
  have F23 := fun_mk (st := s_Room__shelf_for) l23 c23 k23
  have b23 := F23.binds (ps := ["self", "size"]) fun _ _ _ _ _ _ us hl => match us, hl with | [_, _], _ => rfl
  have F24 := fun_mk (st := s_Room__page_for_shelf) l24 c24 k24
  have b24 := F24.binds (ps := ["self"]) fun _ _ _ _ _ _ us hl => match us, hl with | [_], _ => rfl
  have F25 := fun_mk (st := s_Room__take_place) l25 c25 k25
  have b25 := F25.binds (ps := ["self", "shelf"]) fun _ _ _ _ _ _ us hl => match us, hl with | [_, _], _ => rfl
  have F26 := fun_mk (st := s_Room__give_back_shelves) l26 c26 k26
  have b26 := F26.binds (ps := ["self", "shelves"]) fun _ _ _ _ _ _ us hl => match us, hl with | [_, _], _ => rfl
  have F27 : FunC K "_move_things" "Room._move_things" s_Room__move_things f27 _ c_lam := ⟨⟨_, _, _, _, _, _, _, _, rfl, l27, c27⟩⟩
  have b27 : Binds K (PySem.W.fnOf "_move_things" "Room._move_things" (defArgs s_Room__move_things) (defBody s_Room__move_things) (defScope s_Room__move_things) .none kV27 dc27 pm27 an27 (.ref c_lam) ct27) ["self", "leaving", "staying"] [] := .all fun us hl => match us, hl with | [_, _, _], _ => rfl
  have F28 := fun_mk (st := s_is_whole) l28 c28 k28
  have b28 := F28.binds (ps := ["number"]) fun _ _ _ _ _ _ us hl => match us, hl with | [_], _ => rfl
  have F29 := fun_mk (st := s_is_within) l29 c29 k29
  have b29 := F29.binds (ps := ["number", "least", "most"]) fun _ _ _ _ _ _ us hl => match us, hl with | [_, _, _], _ => rfl
  have F30 := fun_mk (st := s_check_sizes) l30 c30 k30
  have b30 := F30.binds (ps := ["sizes", "length"]) fun _ _ _ _ _ _ us hl => match us, hl with | [_, _], _ => rfl
  have F31 := fun_mk (st := s_Plan_init) l31 c31 k31
  have b31 := F31.binds (ps := ["self", "pages", "length", "sizes"]) fun _ _ _ _ _ _ us hl => match us, hl with | [_, _, _, _], _ => rfl
  have F32 := fun_mk (st := s_Plan_size_for) l32 c32 k32
  have b32 := F32.binds (ps := ["self", "wish"]) fun _ _ _ _ _ _ us hl => match us, hl with | [_, _], _ => rfl
  have F33 := fun_mk (st := s_Plan_per) l33 c33 k33
  have b33 := F33.binds (ps := ["self", "size"]) fun _ _ _ _ _ _ us hl => match us, hl with | [_, _], _ => rfl
  have F34 := fun_mk (st := s_l_cell_at) l34 c34 k34
  have b34 := F34.binds (ps := ["_law_script", "_law_k"]) fun _ _ _ _ _ _ us hl => match us, hl with | [_, _], _ => rfl
  have F35 := fun_mk (st := s_l_whole) l35 c35 k35
  have b35 := F35.binds (ps := ["_law_found"]) fun _ _ _ _ _ _ us hl => match us, hl with | [_], _ => rfl
  have F36 := fun_mk (st := s_l_sizes_by) l36 c36 k36
  have b36 := F36.binds (ps := ["_law_cell", "_law_length", "_law_many"]) fun _ _ _ _ _ _ us hl => match us, hl with | [_, _, _], _ => rfl
  have F37 := fun_mk (st := s_l_plan_by) l37 c37 k37
  have b37 := F37.binds (ps := ["_law_script"]) fun _ _ _ _ _ _ us hl => match us, hl with | [_], _ => rfl
  have F38 := fun_mk (st := s_l_size_by) l38 c38 k38
  have b38 := F38.binds (ps := ["_law_sizes", "_law_wish"]) fun _ _ _ _ _ _ us hl => match us, hl with | [_, _], _ => rfl
  have F39 := fun_mk (st := s_l_fullest) l39 c39 k39
  have b39 := F39.binds (ps := ["_law_model", "_law_size"]) fun _ _ _ _ _ _ us hl => match us, hl with | [_, _], _ => rfl
  have F40 := fun_mk (st := s_l_fresh) l40 c40 k40
  have b40 := F40.binds (ps := ["_law_model", "_law_pages"]) fun _ _ _ _ _ _ us hl => match us, hl with | [_, _], _ => rfl
  have F41 := fun_mk (st := s_l_wished) l41 c41 k41
  have b41 := F41.binds (ps := ["_law_model", "_law_drawn", "_law_wish"]) fun _ _ _ _ _ _ us hl => match us, hl with | [_, _, _], _ => rfl
  have F42 := fun_mk (st := s_l_places) l42 c42 k42
  have b42 := F42.binds (ps := ["_law_model", "_law_length"]) fun _ _ _ _ _ _ us hl => match us, hl with | [_, _], _ => rfl
  have F43 := fun_mk (st := s_l_given) l43 c43 k43
  have b43 := F43.binds (ps := ["_law_model", "_law_length", "_law_place"]) fun _ _ _ _ _ _ us hl => match us, hl with | [_, _, _], _ => rfl
  have F44 := fun_mk (st := s_l_gathered_by) l44 c44 k44
  have b44 := F44.binds (ps := ["_law_model", "_law_length", "_law_size"]) fun _ _ _ _ _ _ us hl => match us, hl with | [_, _, _], _ => rfl
  have F45 := fun_mk (st := s_l_left) l45 c45 k45
  have b45 := F45.binds (ps := ["_law_model", "_law_drawn", "_law_size"]) fun _ _ _ _ _ _ us hl => match us, hl with | [_, _, _], _ => rfl
  have F46 := fun_mk (st := s_l_told) l46 c46 k46
  have b46 := F46.binds (ps := ["_law_room", "_law_model", "_law_drawn", "_law_wish"]) fun _ _ _ _ _ _ us hl => match us, hl with | [_, _, _, _], _ => rfl
  have F47 := fun_mk (st := s_l_got) l47 c47 k47
  have b47 := F47.binds (ps := ["_law_room", "_law_wish"]) fun _ _ _ _ _ _ us hl => match us, hl with | [_, _], _ => rfl
  have F48 := fun_mk (st := s_l_deed) l48 c48 k48
  have b48 := F48.binds (ps := ["_law_room", "_law_model", "_law_drawn", "_law_kept", "_law_cell"]) fun _ _ _ _ _ _ us hl => match us, hl with | [_, _, _, _, _], _ => rfl
  have F49 := fun_mk (st := s_l_stands) l49 c49 k49
  have b49 := F49.binds (ps := ["_law_room", "_law_model", "_law_drawn", "_law_kept"]) fun _ _ _ _ _ _ us hl => match us, hl with | [_, _, _, _], _ => rfl
  have F50 := fun_mk (st := s_law) l50 c50 k50
  have b50 := F50.binds (ps := ["_law_script"]) fun _ _ _ _ _ _ us hl => match us, hl with | [_], _ => rfl
  let A : Ad := ⟨K, C_Shelf, C_Room, C_Plan, C_RoomError, C_BadPlan, C_BadWish, C_TooLarge, C_NoSize, C_NoRoom, C_NotOut, C_OutOfThing, f5, c_lam, P_lam, ("Room._move_things" : Str) ++ ".<locals>." ++ "<lambda>", fun f c' => LamO (("Room._move_things" : Str) ++ ".<locals>." ++ "<lambda>") (lamPar lam1) (lamSc lam1) (lamBd lam1) f c'⟩
  let T : Txt A mg := {
    f_Shelf_init := f0,
    fd_Shelf_init := _,
    F_Shelf_init := F0,
    b_Shelf_init := b0,
    mk_Shelf := ⟨mk_Shelf, a0, i0, kc_Shelf⟩,
    f_Shelf_out := f1,
    fd_Shelf_out := _,
    F_Shelf_out := F1,
    b_Shelf_out := b1,
    m_Shelf_out := ⟨a1, i1, k1⟩,
    f_Shelf_free := f2,
    fd_Shelf_free := _,
    F_Shelf_free := F2,
    b_Shelf_free := b2,
    m_Shelf_free := ⟨a2, i2, k2⟩,
    f_Shelf_take := f3,
    fd_Shelf_take := _,
    F_Shelf_take := F3,
    b_Shelf_take := b3,
    m_Shelf_take := ⟨a3, i3, k3⟩,
    f_Shelf_give := f4,
    fd_Shelf_give := _,
    F_Shelf_give := F4,
    b_Shelf_give := b4,
    m_Shelf_give := ⟨a4, i4, k4⟩,
    f_fullest_first := f5,
    fd_fullest_first := _,
    F_fullest_first := F5,
    b_fullest_first := b5,
    v_fullest_first := rfl,
    g_fullest_first := PySem.W.mg_of X G a5,
    k_fullest_first := k5,
    f_Room_init := f6,
    fd_Room_init := _,
    F_Room_init := F6,
    b_Room_init := b6,
    mk_Room := ⟨mk_Room, a6, i6, kc_Room⟩,
    f_Room_wish := f7,
    fd_Room_wish := _,
    F_Room_wish := F7,
    b_Room_wish := b7,
    m_Room_wish := ⟨a7, i7, k7⟩,
    f_Room_give_back := f8,
    fd_Room_give_back := _,
    F_Room_give_back := F8,
    b_Room_give_back := b8,
    m_Room_give_back := ⟨a8, i8, k8⟩,
    f_Room_trim := f9,
    fd_Room_trim := _,
    F_Room_trim := F9,
    b_Room_trim := b9,
    m_Room_trim := ⟨a9, i9, k9⟩,
    f_Room_room_for := f10,
    fd_Room_room_for := _,
    F_Room_room_for := F10,
    b_Room_room_for := b10,
    m_Room_room_for := ⟨a10, i10, k10⟩,
    f_Room_read := f11,
    fd_Room_read := _,
    F_Room_read := F11,
    b_Room_read := b11,
    m_Room_read := ⟨a11, i11, k11⟩,
    f_Room_write := f12,
    fd_Room_write := _,
    F_Room_write := F12,
    b_Room_write := b12,
    m_Room_write := ⟨a12, i12, k12⟩,
    f_Room_gather := f13,
    fd_Room_gather := _,
    F_Room_gather := F13,
    b_Room_gather := b13,
    m_Room_gather := ⟨a13, i13, k13⟩,
    f_Room_things := f14,
    fd_Room_things := _,
    F_Room_things := F14,
    b_Room_things := b14,
    m_Room_things := ⟨a14, i14, k14⟩,
    f_Room_shelves := f15,
    fd_Room_shelves := _,
    F_Room_shelves := F15,
    b_Room_shelves := b15,
    m_Room_shelves := ⟨a15, i15, k15⟩,
    f_Room_pile := f16,
    fd_Room_pile := _,
    F_Room_pile := F16,
    b_Room_pile := b16,
    m_Room_pile := ⟨a16, i16, k16⟩,
    f_Room__all := f17,
    fd_Room__all := _,
    F_Room__all := F17,
    b_Room__all := b17,
    m_Room__all := ⟨a17, i17, k17⟩,
    f_Room__of_size := f18,
    fd_Room__of_size := _,
    F_Room__of_size := F18,
    b_Room__of_size := b18,
    m_Room__of_size := ⟨a18, i18, k18⟩,
    f_Room__unused := f19,
    fd_Room__unused := _,
    F_Room__unused := F19,
    b_Room__unused := b19,
    m_Room__unused := ⟨a19, i19, k19⟩,
    f_Room__page_of := f20,
    fd_Room__page_of := _,
    F_Room__page_of := F20,
    b_Room__page_of := b20,
    m_Room__page_of := ⟨a20, i20, k20⟩,
    f_Room__check_out := f21,
    fd_Room__check_out := _,
    F_Room__check_out := F21,
    b_Room__check_out := b21,
    m_Room__check_out := ⟨a21, i21, k21⟩,
    f_Room__check_step := f22,
    fd_Room__check_step := _,
    F_Room__check_step := F22,
    b_Room__check_step := b22,
    m_Room__check_step := ⟨a22, i22, k22⟩,
    f_Room__shelf_for := f23,
    fd_Room__shelf_for := _,
    F_Room__shelf_for := F23,
    b_Room__shelf_for := b23,
    m_Room__shelf_for := ⟨a23, i23, k23⟩,
    f_Room__page_for_shelf := f24,
    fd_Room__page_for_shelf := _,
    F_Room__page_for_shelf := F24,
    b_Room__page_for_shelf := b24,
    m_Room__page_for_shelf := ⟨a24, i24, k24⟩,
    f_Room__take_place := f25,
    fd_Room__take_place := _,
    F_Room__take_place := F25,
    b_Room__take_place := b25,
    m_Room__take_place := ⟨a25, i25, k25⟩,
    f_Room__give_back_shelves := f26,
    fd_Room__give_back_shelves := _,
    F_Room__give_back_shelves := F26,
    b_Room__give_back_shelves := b26,
    m_Room__give_back_shelves := ⟨a26, i26, k26⟩,
    f_Room__move_things := f27,
    fd_Room__move_things := _,
    F_Room__move_things := F27,
    b_Room__move_things := b27,
    lamQ_eq := rfl,
    lamO_eq := fun _ _ => rfl,
    m_Room__move_things := ⟨a27, i27, k27⟩,
    f_is_whole := f28,
    fd_is_whole := _,
    F_is_whole := F28,
    b_is_whole := b28,
    g_is_whole := PySem.W.mg_of X G a28,
    k_is_whole := k28,
    f_is_within := f29,
    fd_is_within := _,
    F_is_within := F29,
    b_is_within := b29,
    g_is_within := PySem.W.mg_of X G a29,
    k_is_within := k29,
    f_check_sizes := f30,
    fd_check_sizes := _,
    F_check_sizes := F30,
    b_check_sizes := b30,
    g_check_sizes := PySem.W.mg_of X G a30,
    k_check_sizes := k30,
    f_Plan_init := f31,
    fd_Plan_init := _,
    F_Plan_init := F31,
    b_Plan_init := b31,
    mk_Plan := ⟨mk_Plan, a31, i31, kc_Plan⟩,
    f_Plan_size_for := f32,
    fd_Plan_size_for := _,
    F_Plan_size_for := F32,
    b_Plan_size_for := b32,
    m_Plan_size_for := ⟨a32, i32, k32⟩,
    f_Plan_per := f33,
    fd_Plan_per := _,
    F_Plan_per := F33,
    b_Plan_per := b33,
    m_Plan_per := ⟨a33, i33, k33⟩,
    f_l_cell_at := f34,
    fd_l_cell_at := _,
    F_l_cell_at := F34,
    b_l_cell_at := b34,
    g_l_cell_at := PySem.W.mg_of X G a34,
    k_l_cell_at := k34,
    f_l_whole := f35,
    fd_l_whole := _,
    F_l_whole := F35,
    b_l_whole := b35,
    g_l_whole := PySem.W.mg_of X G a35,
    k_l_whole := k35,
    f_l_sizes_by := f36,
    fd_l_sizes_by := _,
    F_l_sizes_by := F36,
    b_l_sizes_by := b36,
    g_l_sizes_by := PySem.W.mg_of X G a36,
    k_l_sizes_by := k36,
    f_l_plan_by := f37,
    fd_l_plan_by := _,
    F_l_plan_by := F37,
    b_l_plan_by := b37,
    g_l_plan_by := PySem.W.mg_of X G a37,
    k_l_plan_by := k37,
    f_l_size_by := f38,
    fd_l_size_by := _,
    F_l_size_by := F38,
    b_l_size_by := b38,
    g_l_size_by := PySem.W.mg_of X G a38,
    k_l_size_by := k38,
    f_l_fullest := f39,
    fd_l_fullest := _,
    F_l_fullest := F39,
    b_l_fullest := b39,
    g_l_fullest := PySem.W.mg_of X G a39,
    k_l_fullest := k39,
    f_l_fresh := f40,
    fd_l_fresh := _,
    F_l_fresh := F40,
    b_l_fresh := b40,
    g_l_fresh := PySem.W.mg_of X G a40,
    k_l_fresh := k40,
    f_l_wished := f41,
    fd_l_wished := _,
    F_l_wished := F41,
    b_l_wished := b41,
    g_l_wished := PySem.W.mg_of X G a41,
    k_l_wished := k41,
    f_l_places := f42,
    fd_l_places := _,
    F_l_places := F42,
    b_l_places := b42,
    g_l_places := PySem.W.mg_of X G a42,
    k_l_places := k42,
    f_l_given := f43,
    fd_l_given := _,
    F_l_given := F43,
    b_l_given := b43,
    g_l_given := PySem.W.mg_of X G a43,
    k_l_given := k43,
    f_l_gathered_by := f44,
    fd_l_gathered_by := _,
    F_l_gathered_by := F44,
    b_l_gathered_by := b44,
    g_l_gathered_by := PySem.W.mg_of X G a44,
    k_l_gathered_by := k44,
    f_l_left := f45,
    fd_l_left := _,
    F_l_left := F45,
    b_l_left := b45,
    g_l_left := PySem.W.mg_of X G a45,
    k_l_left := k45,
    f_l_told := f46,
    fd_l_told := _,
    F_l_told := F46,
    b_l_told := b46,
    g_l_told := PySem.W.mg_of X G a46,
    k_l_told := k46,
    f_l_got := f47,
    fd_l_got := _,
    F_l_got := F47,
    b_l_got := b47,
    g_l_got := PySem.W.mg_of X G a47,
    k_l_got := k47,
    f_l_deed := f48,
    fd_l_deed := _,
    F_l_deed := F48,
    b_l_deed := b48,
    g_l_deed := PySem.W.mg_of X G a48,
    k_l_deed := k48,
    f_l_stands := f49,
    fd_l_stands := _,
    F_l_stands := F49,
    b_l_stands := b49,
    g_l_stands := PySem.W.mg_of X G a49,
    k_l_stands := k49,
    f_law := fa,
    fd_law := _,
    F_law := F50,
    b_law := b50,
    g_law := PySem.W.mg_of X G a50,
    k_law := k50,
    cl_Shelf := ⟨pg_Shelf, hd_Shelf, po_Shelf, sa_Shelf⟩,
    g_Shelf := PySem.W.mg_of X G aC_Shelf,
    cl_Room := ⟨pg_Room, hd_Room, po_Room, sa_Room⟩,
    g_Room := PySem.W.mg_of X G aC_Room,
    cl_Plan := ⟨pg_Plan, hd_Plan, po_Plan, sa_Plan⟩,
    g_Plan := PySem.W.mg_of X G aC_Plan,
    g_RoomError := PySem.W.mg_of X G aC_RoomError,
    x_RoomError := x_RoomError,
    k_RoomError := ke_RoomError,
    bs_RoomError := bs_RoomError,
    ty_RoomError := ty_RoomError,
    g_BadPlan := PySem.W.mg_of X G aC_BadPlan,
    x_BadPlan := x_BadPlan,
    k_BadPlan := ke_BadPlan,
    bs_BadPlan := bs_BadPlan,
    ty_BadPlan := ty_BadPlan,
    g_BadWish := PySem.W.mg_of X G aC_BadWish,
    x_BadWish := x_BadWish,
    k_BadWish := ke_BadWish,
    bs_BadWish := bs_BadWish,
    ty_BadWish := ty_BadWish,
    g_TooLarge := PySem.W.mg_of X G aC_TooLarge,
    x_TooLarge := x_TooLarge,
    k_TooLarge := ke_TooLarge,
    bs_TooLarge := bs_TooLarge,
    ty_TooLarge := ty_TooLarge,
    g_NoSize := PySem.W.mg_of X G aC_NoSize,
    x_NoSize := x_NoSize,
    k_NoSize := ke_NoSize,
    bs_NoSize := bs_NoSize,
    ty_NoSize := ty_NoSize,
    g_NoRoom := PySem.W.mg_of X G aC_NoRoom,
    x_NoRoom := x_NoRoom,
    k_NoRoom := ke_NoRoom,
    bs_NoRoom := bs_NoRoom,
    ty_NoRoom := ty_NoRoom,
    g_NotOut := PySem.W.mg_of X G aC_NotOut,
    x_NotOut := x_NotOut,
    k_NotOut := ke_NotOut,
    bs_NotOut := bs_NotOut,
    ty_NotOut := ty_NotOut,
    g_OutOfThing := PySem.W.mg_of X G aC_OutOfThing,
    x_OutOfThing := x_OutOfThing,
    k_OutOfThing := ke_OutOfThing,
    bs_OutOfThing := bs_OutOfThing,
    ty_OutOfThing := ty_OutOfThing,
    n_bool := PySem.W.mg_none_of X G n_bool,
    n_enumerate := PySem.W.mg_none_of X G n_enumerate,
    n_int := PySem.W.mg_none_of X G n_int,
    n_isinstance := PySem.W.mg_none_of X G n_isinstance,
    n_len := PySem.W.mg_none_of X G n_len,
    n_list := PySem.W.mg_none_of X G n_list,
    n_min := PySem.W.mg_none_of X G n_min,
    n_range := PySem.W.mg_none_of X G n_range,
    n_sorted := PySem.W.mg_none_of X G n_sorted,
    n_sum := PySem.W.mg_none_of X G n_sum,
    h_heappop := PySem.W.mg_of X G h_heappop,
    h_heappush := PySem.W.mg_of X G h_heappush,
    tk_MOST_LENGTH := tk_MOST_LENGTH,
    v_MOST_LENGTH := PySem.W.mg_of X G v_MOST_LENGTH,
    tk_MOST_PAGES := tk_MOST_PAGES,
    v_MOST_PAGES := PySem.W.mg_of X G v_MOST_PAGES,
    tk_MOST_SIZES := tk_MOST_SIZES,
    v_MOST_SIZES := PySem.W.mg_of X G v_MOST_SIZES,
    na := { cl_Shelf := ⟨pg_Shelf, hd_Shelf, po_Shelf, sa_Shelf⟩, na_Shelf_page := na_Shelf_page, na_Shelf_size := na_Shelf_size, na_Shelf__free := na_Shelf__free, na_Shelf__taken := na_Shelf__taken, cl_Room := ⟨pg_Room, hd_Room, po_Room, sa_Room⟩, na_Room__plan := na_Room__plan, na_Room__shelves := na_Room__shelves, na_Room__held := na_Room__held, cl_Plan := ⟨pg_Plan, hd_Plan, po_Plan, sa_Plan⟩, na_Plan_pages := na_Plan_pages, na_Plan_length := na_Plan_length, na_Plan_sizes := na_Plan_sizes, ex_BadPlan_NoRoom := exm_mk rfl bs_NoRoom ic_NoRoom ty_NoRoom sb_BadPlan_NoRoom, ex_BadPlan_TooLarge := exm_mk rfl bs_TooLarge ic_TooLarge ty_TooLarge sb_BadPlan_TooLarge, ex_BadWish_NoRoom := exm_mk rfl bs_NoRoom ic_NoRoom ty_NoRoom sb_BadWish_NoRoom, ex_BadWish_TooLarge := exm_mk rfl bs_TooLarge ic_TooLarge ty_TooLarge sb_BadWish_TooLarge, ex_NoRoom_NoRoom := exm_mk rfl bs_NoRoom ic_NoRoom ty_NoRoom sb_NoRoom_NoRoom, ex_NoRoom_TooLarge := exm_mk rfl bs_TooLarge ic_TooLarge ty_TooLarge sb_NoRoom_TooLarge, ex_NoSize_NoRoom := exm_mk rfl bs_NoRoom ic_NoRoom ty_NoRoom sb_NoSize_NoRoom, ex_NoSize_TooLarge := exm_mk rfl bs_TooLarge ic_TooLarge ty_TooLarge sb_NoSize_TooLarge, ex_NotOut_NoRoom := exm_mk rfl bs_NoRoom ic_NoRoom ty_NoRoom sb_NotOut_NoRoom, ex_NotOut_TooLarge := exm_mk rfl bs_TooLarge ic_TooLarge ty_TooLarge sb_NotOut_TooLarge, ex_OutOfThing_NoRoom := exm_mk rfl bs_NoRoom ic_NoRoom ty_NoRoom sb_OutOfThing_NoRoom, ex_OutOfThing_TooLarge := exm_mk rfl bs_TooLarge ic_TooLarge ty_TooLarge sb_OutOfThing_TooLarge, ex_TooLarge_NoRoom := exm_mk rfl bs_NoRoom ic_NoRoom ty_NoRoom sb_TooLarge_NoRoom, ex_TooLarge_TooLarge := exm_mk rfl bs_TooLarge ic_TooLarge ty_TooLarge sb_TooLarge_TooLarge } }
  refine ⟨PySem.W.fnOf "law" "law" (defArgs s_law) (defBody s_law) (defScope s_law) .none kV50 dc50 pm50 an50 cd50 ct50, [(c_lam, P_lam)], sp_law A, ?_, ?_, ?_, fun s v => .of_eq rfl, ?_, ?_⟩
  · intro p hp; rw [List.mem_singleton.mp hp]; exact hT_lam
  · intro p hp; rw [List.mem_singleton.mp hp]; exact nl_lam
  · intro p hp; rw [List.mem_singleton.mp hp]; exact PySem.W.codeHd_of_K X hd_lam
  · exact fun H a ns hl hb hp hs => ⟨a, ns, rfl, hs, hl, hb, hp (c_lam, P_lam) (List.mem_singleton.mpr rfl), fun _ => rfl⟩
  · exact fun base _ _ TB => (ok_law T (TB (c_lam, P_lam) (List.mem_singleton.mpr rfl)) : FnOk l.prog w A.K mg base CX0 9 T.f_law T.fd_law ["_law_script"] (sp_law A))
theorem walk {l : PySem.W.OpenLaw} {q : Program} {loose : List Str} {XP : (Str → Option Value) → Heap → Prop} {YP : World → Heap → Prop} {d : DefRec} {K : Params → PySem.W.Frag} (hn : l.most = some 63) (hdf : d.params.defaults = [])
    (hY : ∀ (w : World) (h : Heap), YP w h → (K w.params).In h)
    (F : ∀ (w : World) (mg : Str → Option Value) (fa : Addr) (h : Heap), YP w h → (K w.params).In h → h.Ns mainGlobals mg → mg d.name = some (.ref fa) → LamX.LawAtS l w (K w.params) CX0 9 63 "_law_script" mg fa h) :
    PySem.W.WalkO q loose XP YP l.row.toRowW d [] (fun f vs => PySem.call f vs) :=
  LamX.walk_ofTs (n := 63) (k := 9) (x := "_law_script") (CX := fun _ => CX0) hn (by decide) hdf ⟨rfl, by decide, by decide⟩ hY F fun _ _ _ _ _ z => z


end My
open PySem PySem.W PyProof.Rows
set_option maxRecDepth 100000 in
set_option maxHeartbeats 0 in
theorem PySem.Challenge.cw_slabroom_k10_whole_every_deed_holds : PySem.Challenge.rw_slabroom_k10_whole_every_deed.Holds := by
  w_on; o_law; k_head; (case hw => w_witness2)
  k_fill
  refine My.walk (l := PySem.Challenge.rw_slabroom_k10_whole_every_deed) rfl rfl (fun w h Y => PySem.W.km_in_of Y) ?F
  case F =>
    intro w mg fa h Y KX G hmg
    refine' My.all_mk KX G hmg ?aC_Shelf ?aC_Room ?aC_Plan ?aC_RoomError ?aC_BadPlan ?aC_BadWish ?aC_TooLarge ?aC_NoSize ?aC_NoRoom ?aC_NotOut ?aC_OutOfThing ?a0 ?i0 ?l0 ?c0 ?k0 ?a1 ?i1 ?l1 ?c1 ?k1 ?a2 ?i2 ?l2 ?c2 ?k2 ?a3 ?i3 ?l3 ?c3 ?k3 ?a4 ?i4 ?l4 ?c4 ?k4 ?a5 ?l5 ?c5 ?k5 ?a6 ?i6 ?l6 ?c6 ?k6 ?a7 ?i7 ?l7 ?c7 ?k7 ?a8 ?i8 ?l8 ?c8 ?k8 ?a9 ?i9 ?l9 ?c9 ?k9 ?a10 ?i10 ?l10 ?c10 ?k10 ?a11 ?i11 ?l11 ?c11 ?k11 ?a12 ?i12 ?l12 ?c12 ?k12 ?a13 ?i13 ?l13 ?c13 ?k13 ?a14 ?i14 ?l14 ?c14 ?k14 ?a15 ?i15 ?l15 ?c15 ?k15 ?a16 ?i16 ?l16 ?c16 ?k16 ?a17 ?i17 ?l17 ?c17 ?k17 ?a18 ?i18 ?l18 ?c18 ?k18 ?a19 ?i19 ?l19 ?c19 ?k19 ?a20 ?i20 ?l20 ?c20 ?k20 ?a21 ?i21 ?l21 ?c21 ?k21 ?a22 ?i22 ?l22 ?c22 ?k22 ?a23 ?i23 ?l23 ?c23 ?k23 ?a24 ?i24 ?l24 ?c24 ?k24 ?a25 ?i25 ?l25 ?c25 ?k25 ?a26 ?i26 ?l26 ?c26 ?k26 ?a27 ?i27 ?l27 ?c27 ?hT_lam ?hd_lam ?nl_lam ?k27 ?a28 ?l28 ?c28 ?k28 ?a29 ?l29 ?c29 ?k29 ?a30 ?l30 ?c30 ?k30 ?a31 ?i31 ?l31 ?c31 ?k31 ?a32 ?i32 ?l32 ?c32 ?k32 ?a33 ?i33 ?l33 ?c33 ?k33 ?a34 ?l34 ?c34 ?k34 ?a35 ?l35 ?c35 ?k35 ?a36 ?l36 ?c36 ?k36 ?a37 ?l37 ?c37 ?k37 ?a38 ?l38 ?c38 ?k38 ?a39 ?l39 ?c39 ?k39 ?a40 ?l40 ?c40 ?k40 ?a41 ?l41 ?c41 ?k41 ?a42 ?l42 ?c42 ?k42 ?a43 ?l43 ?c43 ?k43 ?a44 ?l44 ?c44 ?k44 ?a45 ?l45 ?c45 ?k45 ?a46 ?l46 ?c46 ?k46 ?a47 ?l47 ?c47 ?k47 ?a48 ?l48 ?c48 ?k48 ?a49 ?l49 ?c49 ?k49 ?a50 ?l50 ?c50 ?k50 ?pg_Shelf ?hd_Shelf ?po_Shelf ?sa_Shelf ?mk_Shelf ?kc_Shelf ?na_Shelf_page ?na_Shelf_size ?na_Shelf__free ?na_Shelf__taken ?pg_Room ?hd_Room ?po_Room ?sa_Room ?mk_Room ?kc_Room ?na_Room__plan ?na_Room__shelves ?na_Room__held ?pg_Plan ?hd_Plan ?po_Plan ?sa_Plan ?mk_Plan ?kc_Plan ?na_Plan_pages ?na_Plan_length ?na_Plan_sizes ?x_RoomError ?ke_RoomError ?bs_RoomError ?ty_RoomError ?ic_RoomError ?x_BadPlan ?ke_BadPlan ?bs_BadPlan ?ty_BadPlan ?ic_BadPlan ?x_BadWish ?ke_BadWish ?bs_BadWish ?ty_BadWish ?ic_BadWish ?x_TooLarge ?ke_TooLarge ?bs_TooLarge ?ty_TooLarge ?ic_TooLarge ?x_NoSize ?ke_NoSize ?bs_NoSize ?ty_NoSize ?ic_NoSize ?x_NoRoom ?ke_NoRoom ?bs_NoRoom ?ty_NoRoom ?ic_NoRoom ?x_NotOut ?ke_NotOut ?bs_NotOut ?ty_NotOut ?ic_NotOut ?x_OutOfThing ?ke_OutOfThing ?bs_OutOfThing ?ty_OutOfThing ?ic_OutOfThing ?sb_BadPlan_NoRoom ?sb_BadPlan_TooLarge ?sb_BadWish_NoRoom ?sb_BadWish_TooLarge ?sb_NoRoom_NoRoom ?sb_NoRoom_TooLarge ?sb_NoSize_NoRoom ?sb_NoSize_TooLarge ?sb_NotOut_NoRoom ?sb_NotOut_TooLarge ?sb_OutOfThing_NoRoom ?sb_OutOfThing_TooLarge ?sb_TooLarge_NoRoom ?sb_TooLarge_TooLarge ?n_bool ?n_enumerate ?n_int ?n_isinstance ?n_len ?n_list ?n_min ?n_range ?n_sorted ?n_sum ?h_heappop ?h_heappush ?v_MOST_LENGTH ?v_MOST_PAGES ?v_MOST_SIZES
    (case aC_Shelf => k_is)
    (case aC_Room => k_is)
    (case aC_Plan => k_is)
    (case aC_RoomError => k_is)
    (case aC_BadPlan => k_is)
    (case aC_BadWish => k_is)
    (case aC_TooLarge => k_is)
    (case aC_NoSize => k_is)
    (case aC_NoRoom => k_is)
    (case aC_NotOut => k_is)
    (case aC_OutOfThing => k_is)
    (case a0 => k_is)
    (case i0 => k_is)
    (case l0 => k_is)
    (case c0 => k_is)
    (case k0 => k_is)
    (case a1 => k_is)
    (case i1 => k_is)
    (case l1 => k_is)
    (case c1 => k_is)
    (case k1 => k_is)
    (case a2 => k_is)
    (case i2 => k_is)
    (case l2 => k_is)
    (case c2 => k_is)
    (case k2 => k_is)
    (case a3 => k_is)
    (case i3 => k_is)
    (case l3 => k_is)
    (case c3 => k_is)
    (case k3 => k_is)
    (case a4 => k_is)
    (case i4 => k_is)
    (case l4 => k_is)
    (case c4 => k_is)
    (case k4 => k_is)
    (case a5 => k_is)
    (case l5 => k_is)
    (case c5 => k_is)
    (case k5 => k_is)
    (case a6 => k_is)
    (case i6 => k_is)
    (case l6 => k_is)
    (case c6 => k_is)
    (case k6 => k_is)
    (case a7 => k_is)
    (case i7 => k_is)
    (case l7 => k_is)
    (case c7 => k_is)
    (case k7 => k_is)
    (case a8 => k_is)
    (case i8 => k_is)
    (case l8 => k_is)
    (case c8 => k_is)
    (case k8 => k_is)
    (case a9 => k_is)
    (case i9 => k_is)
    (case l9 => k_is)
    (case c9 => k_is)
    (case k9 => k_is)
    (case a10 => k_is)
    (case i10 => k_is)
    (case l10 => k_is)
    (case c10 => k_is)
    (case k10 => k_is)
    (case a11 => k_is)
    (case i11 => k_is)
    (case l11 => k_is)
    (case c11 => k_is)
    (case k11 => k_is)
    (case a12 => k_is)
    (case i12 => k_is)
    (case l12 => k_is)
    (case c12 => k_is)
    (case k12 => k_is)
    (case a13 => k_is)
    (case i13 => k_is)
    (case l13 => k_is)
    (case c13 => k_is)
    (case k13 => k_is)
    (case a14 => k_is)
    (case i14 => k_is)
    (case l14 => k_is)
    (case c14 => k_is)
    (case k14 => k_is)
    (case a15 => k_is)
    (case i15 => k_is)
    (case l15 => k_is)
    (case c15 => k_is)
    (case k15 => k_is)
    (case a16 => k_is)
    (case i16 => k_is)
    (case l16 => k_is)
    (case c16 => k_is)
    (case k16 => k_is)
    (case a17 => k_is)
    (case i17 => k_is)
    (case l17 => k_is)
    (case c17 => k_is)
    (case k17 => k_is)
    (case a18 => k_is)
    (case i18 => k_is)
    (case l18 => k_is)
    (case c18 => k_is)
    (case k18 => k_is)
    (case a19 => k_is)
    (case i19 => k_is)
    (case l19 => k_is)
    (case c19 => k_is)
    (case k19 => k_is)
    (case a20 => k_is)
    (case i20 => k_is)
    (case l20 => k_is)
    (case c20 => k_is)
    (case k20 => k_is)
    (case a21 => k_is)
    (case i21 => k_is)
    (case l21 => k_is)
    (case c21 => k_is)
    (case k21 => k_is)
    (case a22 => k_is)
    (case i22 => k_is)
    (case l22 => k_is)
    (case c22 => k_is)
    (case k22 => k_is)
    (case a23 => k_is)
    (case i23 => k_is)
    (case l23 => k_is)
    (case c23 => k_is)
    (case k23 => k_is)
    (case a24 => k_is)
    (case i24 => k_is)
    (case l24 => k_is)
    (case c24 => k_is)
    (case k24 => k_is)
    (case a25 => k_is)
    (case i25 => k_is)
    (case l25 => k_is)
    (case c25 => k_is)
    (case k25 => k_is)
    (case a26 => k_is)
    (case i26 => k_is)
    (case l26 => k_is)
    (case c26 => k_is)
    (case k26 => k_is)
    (case a27 => k_is)
    (case i27 => k_is)
    (case l27 => k_is)
    (case c27 => k_is)
    (case hT_lam => exact PySem.W.km_tabs_of Y _ (List.mem_singleton.mpr rfl))
    (case hd_lam => kernel_rfl)
    (case nl_lam => kernel_rfl)
    (case k27 => k_is)
    (case a28 => k_is)
    (case l28 => k_is)
    (case c28 => k_is)
    (case k28 => k_is)
    (case a29 => k_is)
    (case l29 => k_is)
    (case c29 => k_is)
    (case k29 => k_is)
    (case a30 => k_is)
    (case l30 => k_is)
    (case c30 => k_is)
    (case k30 => k_is)
    (case a31 => k_is)
    (case i31 => k_is)
    (case l31 => k_is)
    (case c31 => k_is)
    (case k31 => k_is)
    (case a32 => k_is)
    (case i32 => k_is)
    (case l32 => k_is)
    (case c32 => k_is)
    (case k32 => k_is)
    (case a33 => k_is)
    (case i33 => k_is)
    (case l33 => k_is)
    (case c33 => k_is)
    (case k33 => k_is)
    (case a34 => k_is)
    (case l34 => k_is)
    (case c34 => k_is)
    (case k34 => k_is)
    (case a35 => k_is)
    (case l35 => k_is)
    (case c35 => k_is)
    (case k35 => k_is)
    (case a36 => k_is)
    (case l36 => k_is)
    (case c36 => k_is)
    (case k36 => k_is)
    (case a37 => k_is)
    (case l37 => k_is)
    (case c37 => k_is)
    (case k37 => k_is)
    (case a38 => k_is)
    (case l38 => k_is)
    (case c38 => k_is)
    (case k38 => k_is)
    (case a39 => k_is)
    (case l39 => k_is)
    (case c39 => k_is)
    (case k39 => k_is)
    (case a40 => k_is)
    (case l40 => k_is)
    (case c40 => k_is)
    (case k40 => k_is)
    (case a41 => k_is)
    (case l41 => k_is)
    (case c41 => k_is)
    (case k41 => k_is)
    (case a42 => k_is)
    (case l42 => k_is)
    (case c42 => k_is)
    (case k42 => k_is)
    (case a43 => k_is)
    (case l43 => k_is)
    (case c43 => k_is)
    (case k43 => k_is)
    (case a44 => k_is)
    (case l44 => k_is)
    (case c44 => k_is)
    (case k44 => k_is)
    (case a45 => k_is)
    (case l45 => k_is)
    (case c45 => k_is)
    (case k45 => k_is)
    (case a46 => k_is)
    (case l46 => k_is)
    (case c46 => k_is)
    (case k46 => k_is)
    (case a47 => k_is)
    (case l47 => k_is)
    (case c47 => k_is)
    (case k47 => k_is)
    (case a48 => k_is)
    (case l48 => k_is)
    (case c48 => k_is)
    (case k48 => k_is)
    (case a49 => k_is)
    (case l49 => k_is)
    (case c49 => k_is)
    (case k49 => k_is)
    (case a50 => k_is)
    (case l50 => k_is)
    (case c50 => k_is)
    (case k50 => k_is)
    (case pg_Shelf => k_is)
    (case hd_Shelf => k_is)
    (case po_Shelf => k_is)
    (case sa_Shelf => k_is)
    (case mk_Shelf => k_is)
    (case kc_Shelf => k_is)
    (case na_Shelf_page => k_is)
    (case na_Shelf_size => k_is)
    (case na_Shelf__free => k_is)
    (case na_Shelf__taken => k_is)
    (case pg_Room => k_is)
    (case hd_Room => k_is)
    (case po_Room => k_is)
    (case sa_Room => k_is)
    (case mk_Room => k_is)
    (case kc_Room => k_is)
    (case na_Room__plan => k_is)
    (case na_Room__shelves => k_is)
    (case na_Room__held => k_is)
    (case pg_Plan => k_is)
    (case hd_Plan => k_is)
    (case po_Plan => k_is)
    (case sa_Plan => k_is)
    (case mk_Plan => k_is)
    (case kc_Plan => k_is)
    (case na_Plan_pages => k_is)
    (case na_Plan_length => k_is)
    (case na_Plan_sizes => k_is)
    (case x_RoomError => k_exc)
    (case ke_RoomError => k_is)
    (case bs_RoomError => k_is)
    (case ty_RoomError => k_is)
    (case ic_RoomError => k_is)
    (case x_BadPlan => k_exc)
    (case ke_BadPlan => k_is)
    (case bs_BadPlan => k_is)
    (case ty_BadPlan => k_is)
    (case ic_BadPlan => k_is)
    (case x_BadWish => k_exc)
    (case ke_BadWish => k_is)
    (case bs_BadWish => k_is)
    (case ty_BadWish => k_is)
    (case ic_BadWish => k_is)
    (case x_TooLarge => k_exc)
    (case ke_TooLarge => k_is)
    (case bs_TooLarge => k_is)
    (case ty_TooLarge => k_is)
    (case ic_TooLarge => k_is)
    (case x_NoSize => k_exc)
    (case ke_NoSize => k_is)
    (case bs_NoSize => k_is)
    (case ty_NoSize => k_is)
    (case ic_NoSize => k_is)
    (case x_NoRoom => k_exc)
    (case ke_NoRoom => k_is)
    (case bs_NoRoom => k_is)
    (case ty_NoRoom => k_is)
    (case ic_NoRoom => k_is)
    (case x_NotOut => k_exc)
    (case ke_NotOut => k_is)
    (case bs_NotOut => k_is)
    (case ty_NotOut => k_is)
    (case ic_NotOut => k_is)
    (case x_OutOfThing => k_exc)
    (case ke_OutOfThing => k_is)
    (case bs_OutOfThing => k_is)
    (case ty_OutOfThing => k_is)
    (case ic_OutOfThing => k_is)
    (case sb_BadPlan_NoRoom => k_is)
    (case sb_BadPlan_TooLarge => k_is)
    (case sb_BadWish_NoRoom => k_is)
    (case sb_BadWish_TooLarge => k_is)
    (case sb_NoRoom_NoRoom => k_is)
    (case sb_NoRoom_TooLarge => k_is)
    (case sb_NoSize_NoRoom => k_is)
    (case sb_NoSize_TooLarge => k_is)
    (case sb_NotOut_NoRoom => k_is)
    (case sb_NotOut_TooLarge => k_is)
    (case sb_OutOfThing_NoRoom => k_is)
    (case sb_OutOfThing_TooLarge => k_is)
    (case sb_TooLarge_NoRoom => k_is)
    (case sb_TooLarge_TooLarge => k_is)
    (case n_bool => k_is)
    (case n_enumerate => k_is)
    (case n_int => k_is)
    (case n_isinstance => k_is)
    (case n_len => k_is)
    (case n_list => k_is)
    (case n_min => k_is)
    (case n_range => k_is)
    (case n_sorted => k_is)
    (case n_sum => k_is)
    (case h_heappop => k_is)
    (case h_heappush => k_is)
    (case v_MOST_LENGTH => k_is)
    (case v_MOST_PAGES => k_is)
    (case v_MOST_SIZES => k_is)
#print axioms PySem.Challenge.cw_slabroom_k10_whole_every_deed_holds
