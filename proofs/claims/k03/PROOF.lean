import PyProof.Rows.All
import Wide.All
import OpenK.AllK
import Wide.FinOn
import HandS.ForMost
import HandS.ForExc
import HandS.IsInst
import HandS.TryMany
import HandS.RaiseMore
import HandS.FStr
import HandS.Deep
import HandS.Conv
import HandS.SortInts
import HandS.ExcIs
import HandS.Base
import HandS.Call
import HandS.List
import HandS.Words
import HandS.WordsList
import HandS.SortKw
import HandS.SetFor
import HandS.SortRule
import HandS.Keys
import HandS.Gcd
import KE.KSortKey
import KE.DataMinKey
import HandS.Lambda
import HandS.Nested
import HandS.EndTab
import KE.KLam
import KE.KNestM
import PySem.Challenge.RW_slabroom_k03_a_shelf
set_option Elab.async false
set_option linter.all false
set_option maxRecDepth 100000
set_option maxHeartbeats 4000000
/-! Pre: rules that leave the choice of the kind to the reading, and the readings' steps (walk_at "rd"). -/

namespace My
open PySem PySem.Spec PyProof.Rows L2

/-! ### rules whose kind the reading chooses -/
section
variable {X : Cx}
theorem orR {f : Value → Value → Sem Value} {r1 r2 : R2} (h1 : OpR X f r1) (h2 : OpR X f r2) : OpR X f (fun x y H Q => r1 x y H Q ∨ r2 x y H Q) :=
  fun pins s σ H x y v u Q I rx ry q => q.elim (h1 pins s σ H x y v u Q I rx ry) (h2 pins s σ H x y v u Q I rx ry)
theorem orC {f : Value} {r1 r2 : List V → Hp → VK → Prop} (h1 : CallR X f r1) (h2 : CallR X f r2) : CallR X f (fun xs H Q => r1 xs H Q ∨ r2 xs H Q) :=
  fun pins s σ H xs us Q I r q => q.elim (h1 pins s σ H xs us Q I r) (h2 pins s σ H xs us Q I r)
def rAddA : R2 := fun x y H Q => rI0 (fun i j => .int (i + j)) x y H Q ∨ rCat x y H Q
theorem op_addA : OpR X (binaryOp .Add) rAddA := orR op_add op_cat
def rMulA : R2 := fun x y H Q => rI CMul (fun i j => .int (i * j)) x y H Q ∨ rRep x y H Q
theorem op_mulA : OpR X (binaryOp .Mult) rMulA := orR op_mul op_rep
def rSubI : R2 := rI0 fun i j => .int (i - j)
theorem op_subA : OpR X (binaryOp .Sub) rSubI := op_sub
def rDivI : R2 := rI CDivN fun i j => .int (i.fdiv j)
theorem op_divA : OpR X (binaryOp .FloorDiv) rDivI := op_fdivN
def rModI : R2 := rI (fun _ j => j ≠ 0) fun i j => .int (i.fmod j)
theorem op_modA : OpR X (binaryOp .Mod) rModI := op_modN
def rPowI : R2 := rI CPow fun i j => .int (i ^ j.toNat)
theorem op_powA : OpR X (binaryOp .Pow) rPowI := op_pow
def rLtI : R2 := rI0 fun i j => .bl (decide (i < j))
def rLeI : R2 := rI0 fun i j => .bl (decide (i ≤ j))
def rGtI : R2 := rI0 fun i j => .bl (decide (j < i))
def rGeI : R2 := rI0 fun i j => .bl (decide (j ≤ i))
theorem op_ltA : OpR X (compareOp .Lt) rLtI := op_lt
theorem op_leA : OpR X (compareOp .LtE) rLeI := op_le
theorem op_gtA : OpR X (compareOp .Gt) rGtI := op_gt
theorem op_geA : OpR X (compareOp .GtE) rGeI := op_ge
def rEqA (K : PySem.W.Frag) : R2 := fun x y H Q => rEq x y H Q ∨ rEqD K x y H Q
def rNeA (K : PySem.W.Frag) : R2 := fun x y H Q => rNe x y H Q ∨ rNeD K x y H Q
theorem op_eqA (hu : X.A.units + 64 < cLine) : OpR X (compareOp .Eq) (rEqA X.K) := orR op_eq (op_eqD hu)
theorem op_neA (hu : X.A.units + 64 < cLine) : OpR X (compareOp .NotEq) (rNeA X.K) := orR op_ne (op_neD hu)
def rInP (K : PySem.W.Frag) : R2 := fun x y H Q => rIn K false x y H Q ∨ rInD K x y H Q
def rInN (K : PySem.W.Frag) : R2 := fun x y H Q => rIn K true x y H Q ∨ rNotInD K x y H Q
theorem op_inP (hu : X.A.units + 65 < cLine) : OpR X (compareOp .In) (rInP X.K) := orR op_in_seq (op_inD hu)
theorem op_inN (hu : X.A.units + 65 < cLine) : OpR X (compareOp .NotIn) (rInN X.K) := orR op_notIn_seq (op_notInD hu)
def rIsNon : R2 := fun x y H Q => y = .non ∧ Q (.bl (decide (x = .non))) H
def rNotNon : R2 := fun x y H Q => y = .non ∧ Q (.bl (!decide (x = .non))) H
theorem op_isNon : OpR X (compareOp .Is) rIsNon := op_isN
theorem op_notNon : OpR X (compareOp .IsNot) rNotNon := op_notN
def rIxA (K : PySem.W.Frag) : R2 := rIx K
theorem ix_A : IxR X (rIxA X.K) := ix_seq
def rLenA (K : PySem.W.Frag) : List V → Hp → VK → Prop := fun xs H Q => ∃ x n, xs = [x] ∧ LenV K x H n ∧ Q (.int n) H
theorem call_lenA : CallR X (.builtin "len") (rLenA X.K) := call_len
def rAbsI : List V → Hp → VK → Prop := fun xs H Q => ∃ i, xs = [.int i] ∧ Q (.int (if i < 0 then -i else i)) H
theorem call_absA : CallR X (.builtin "abs") rAbsI := call_abs
def rInt1 : List V → Hp → VK → Prop := fun xs H Q => (∃ i, xs = [.int i] ∧ Q (.int i) H) ∨ ∃ k, xs = [.bl k] ∧ Q (.int (if k then 1 else 0)) H
theorem call_intA : CallR X (.type "int") rInt1 := call_int1
def rListA (K : PySem.W.Frag) : List V → Hp → VK → Prop := fun xs H Q => ∃ p ys, xs = [.ref p] ∧ (SqL K H p ys ∨ SqT K H p ys) ∧ ∀ l, H l = none → Q (.ref l) (upd H l (.lst ys))
theorem call_listA : CallR X (.type "list") (rListA X.K) := call_list_of
def rTupA (K : PySem.W.Frag) : List V → Hp → VK → Prop := fun xs H Q => ∃ p ys, xs = [.ref p] ∧ ((SqL K H p ys ∧ ∀ l, H l = none → Q (.ref l) (upd H l (.tup ys))) ∨ (SqT K H p ys ∧ Q (.ref p) H))
theorem call_tupA : CallR X (.type "tuple") (rTupA X.K) := call_tuple_of
def rIndexA (K : PySem.W.Frag) : V → List V → Hp → VK → Prop := fun x xs H Q => rIndex K x xs H Q ∨ rIndexD K x xs H Q
theorem mt_indexA (hu : X.A.units + 65 < cLine) : MtR X "list.index" (rIndexA X.K) := MtR.or mt_index (mt_indexD hu)
def tJoin (ts : List TE) : TE := fun σ H Q => tJs ts Str.empty σ H fun out H1 => Q (.str out) H1
theorem hu65_of {A : Around} {k : Nat} (hr : Room k A) : A.units + 65 < cLine := by have := hr.un; omega
end

/-! ### calls in a try: what is raised is wished for at the caller's slots -/
def tMethS (C : Addr) (m : Str) (sp : Sp) (E : L2.St → XK) (ta : TE) (t : TA) : TE := fun σ H Q => ta σ H fun x H1 => ∃ a dx fs, x = .ref a ∧ H1 a = some (.ins C dx fs) ∧ fs.lookup m = none ∧
  t σ H1 fun vs H2 => sp (x :: vs) H2 Q (E σ)
def tMakeS (C : Addr) (sp : Sp) (E : L2.St → XK) (t : TA) : TE := fun σ H Q => t σ H fun vs H1 => ∀ x dx, H1 x = none → H1 dx = none → dx ≠ x →
  sp (.ref x :: vs) (upd (upd H1 dx (.own x)) x (.ins C dx [])) (fun v H2 => v = .non ∧ Q (.ref x) H2) fun cls d H2 => E σ cls d H2
section
variable {X : Cx} {CX : CXT} {k : Nat} {f C : Addr} {fd : FuncData} {ps : List Str} {sp : Sp} {E : L2.St → XK} {x m : Str} {p pos apos : Pos} {e o : Expr} {es : List Expr} {ta : TE} {t : TA}
theorem pe_methS1 {pl : Sem Bool} (he : PE X o ta) (c : Cls X.K C) (hm : Meth X.K C m f) (F : FnOk X.prog X.w X.K X.mg X.base CX k f fd ps sp) (hr : Room k X.A) (hb : Binds X.K fd ps []) (hx : ∀ σ, PassesAt CX X σ (E σ)) (ha : PA X (e :: es) t)
    (hst : starEach (e :: es) X.env = (false, eval e X.env) :: starEach es X.env := by rfl) (hpl : (backTo pos (starEach es X.env)).any (·.1) = false := by rfl)
    (ht : eval (.Call (.Attribute o m apos) (e :: es) [] pos) X.env = (do
      let ov ← eval o X.env
      standAt apos.atName
      let (f, first) ← holding [ov] (getMethod ov m pl)
      callWith pos f first (backTo pos (starEach (e :: es) X.env)) (backToKw pos (keywordEach [] X.env))) := by rfl) :
    PE X (.Call (.Attribute o m apos) (e :: es) [] pos) (tMethS C m sp E ta t) :=
  ⟨fun pins s σ H Q I h => PySem.W.methodCall_KW (pl := pl) (thn (he.run pins s σ H _ I h) fun u s1 hh => by
    obtain ⟨x, H1, I1, rx, a, dx, fs, ex, ea, l, q⟩ := hh
    subst ex
    obtain rfl : u = Value.ref a := rx
    exact getmeth_ok I1 ea c hm l (PySem.W.callWith_K (first := [.ref a]) (h₀ := X.base) I.ok.mod.kin hm.kp (thn (ha.run pos pins s1 σ H1 _ I1 q) fun us s2 hh2 => by
      obtain ⟨vs, H2, I2, r, q2⟩ := hh2
      exact ⟨I2.kIn, run_fnS (us := .ref a :: us) (vs := .ref a :: vs) F hr hb (hx σ) I2 (.cons rfl r) q2⟩) hst hpl)) ht⟩
theorem pe_methS0 {pl : Sem Bool} (he : PE X o ta) (c : Cls X.K C) (hm : Meth X.K C m f) (F : FnOk X.prog X.w X.K X.mg X.base CX k f fd ps sp) (hr : Room k X.A) (hb : Binds X.K fd ps []) (hx : ∀ σ, PassesAt CX X σ (E σ))
    (ht : eval (.Call (.Attribute o m apos) [] [] pos) X.env = (do
      let ov ← eval o X.env
      standAt apos.atName
      let (f, first) ← holding [ov] (getMethod ov m pl)
      callWith pos f first (backTo pos (starEach [] X.env)) (backToKw pos (keywordEach [] X.env))) := by rfl) :
    PE X (.Call (.Attribute o m apos) [] [] pos) (tMethS C m sp E ta tNil) :=
  ⟨fun pins s σ H Q I h => PySem.W.methodCall_KW (pl := pl) (thn (he.run pins s σ H _ I h) fun u s1 hh => by
    obtain ⟨x, H1, I1, rx, a, dx, fs, ex, ea, l, q⟩ := hh
    subst ex
    obtain rfl : u = Value.ref a := rx
    exact getmeth_ok I1 ea c hm l (PySem.W.callWith_K0 (first := [.ref a]) I1.kIn hm.kp (run_fnS (us := [.ref a]) (vs := [.ref a]) F hr hb (hx σ) I1 (.cons rfl .nil) q))) ht⟩
/-- the new instance's __init__ may raise; what is wished of that is asked of the heap in which the instance stands -/
theorem pe_makeS (M : Mk X.K C f) (F : FnOk X.prog X.w X.K X.mg X.base (L2.CX X.prog X.w) k f fd ps sp) (hr : Room (k + 1) X.A) (hg : Gl X x) (hm : X.mg x = some (.ref C)) (hb : Binds X.K fd ps []) (hx : ∀ σ, PassesAt (L2.CX X.prog X.w) X σ (E σ))
    (ha : PA X (e :: es) t) (hdb : (x == ("__debug__" : Str)) = false := by decide) (he : starEach (e :: es) X.env = (false, eval e X.env) :: starEach es X.env := by rfl) (hpl : (backTo pos (starEach es X.env)).any (·.1) = false := by rfl) :
    PE X (.Call (.Name x p) (e :: es) [] pos) (tMakeS C sp E t) :=
  ⟨fun pins s σ H Q I h => wpAny_Call_Name_kw (ld_glob I hg hm (PySem.W.callWith_K (h₀ := X.base) I.ok.mod.kin M.kp (thn (ha.run pos pins s σ H _ I h) fun us s1 hh => by
    obtain ⟨vs, H1, I1, r, q⟩ := hh
    refine ⟨I1.kIn, ?_⟩
    have hq := q (s1.heap.objs.size + 1) s1.heap.objs.size (I1.hok.fresh (Nat.le_succ _)) (I1.hok.fresh (Nat.le_refl _)) (Nat.ne_of_lt (Nat.lt_succ_self _))
    have I2 := Inv.made (C := C) I1
    have r2 : Vals (V.ref (s1.heap.objs.size + 1) :: vs) (Value.ref (s1.heap.objs.size + 1) :: us) := .cons rfl r
    have hl : (Value.ref (s1.heap.objs.size + 1) :: us).length = ps.length := by rw [← r2.length]; exact F.len _ _ _ _ hq
    have hbb := hb _ (Value.ref (s1.heap.objs.size + 1) :: us) I2.kIn (by rw [List.append_nil]; exact hl)
    rw [List.append_nil] at hbb
    refine wpAny_call (L2.make_map (f := f) I1.kIn M.makes M.init (beq_iff_eq.mp M.fn) (codeAny_mono (F.run _ X.stack _ _ ⟨Value.ref (s1.heap.objs.size + 1) :: us, []⟩ _ _ _ _ (hr.make C us [])
      (I2.env0.make C us []) hbb r2 hq) fun r s' hq' => ?_))
    cases r with
    | error e => exact hx σ pins _ _ e s' I2 hq'
    | ok fl =>
      cases fl with
      | ret u =>
        obtain ⟨v, H', I3, rv, ev, q3⟩ := I2.after hq'
        subst ev
        exact ⟨rv, ⟨V.ref (s1.heap.objs.size + 1), H', I3, rfl, q3⟩⟩
      | next => exact False.elim hq'
      | brk => exact False.elim hq'
      | cont => exact False.elim hq') he hpl) hdb)⟩
end
/-- what an except clause says of a class -/
theorem exm_mk {K : PySem.W.Frag} {c d : Value} {S : Addr} {b : Bool} (e : d = .ref S) (h1 : PySem.W.subIn K d (.type "BaseException") = some true) (h2 : PySem.W.isClsIn K S = true) (h3 : PySem.W.typeIn K d = some (.type "type")) (h4 : PySem.W.subIn K c d = some b) :
    PySem.W.exmOne K c d = some b := by
  subst e
  have e1 : (PySem.W.subIn K (.ref S) (.type "BaseException") == some true) = true := by rw [h1]; rfl
  have e2 : ((PySem.W.clsIn K S).isSome && PySem.W.typeIn K (.ref S) == some (.type "type")) = true := by
    rw [show (PySem.W.clsIn K S).isSome = true from h2, h3]; rfl
  unfold PySem.W.exmOne
  rw [if_pos e1]
  show (if ((PySem.W.clsIn K S).isSome && PySem.W.typeIn K (.ref S) == some (.type "type")) = true then PySem.W.subIn K c (.ref S) else none) = some b
  rw [if_pos e2]
  exact h4

/-- isinstance of the exception that a suite holds -/
def rIsEx (K : PySem.W.Frag) (cls : Value) (d : Option Addr) (a : Addr) : List V → Hp → VK → Prop := fun xs H Q => ∃ D, cls = .ref D ∧ d = none ∧ ExcC K D ∧ rIsE K D a xs H Q
theorem call_isEx {X : Cx} {a : Addr} {cls : Value} {d : Option Addr} {oe : Obj} {pn : List (Addr × Obj)} (hz : Zc cls d oe) (hf : ∃ vs, oe.data = .fields vs) : CallR (X.suite a ((a, oe) :: pn)) (.builtin "isinstance") (rIsEx X.K cls d a) := by
  intro pins s σ H xs us Q I r h
  obtain ⟨D, rfl, rfl, c, h⟩ := h
  exact call_isE c hz hf pins s σ H xs us Q I r h
theorem kit_mk {K : PySem.W.Frag} {D S : Addr} {b : Bool} (h2 : PySem.W.isClsIn K S = true) (h3 : PySem.W.typeIn K (.ref S) = some (.type "type")) (h4 : PySem.W.subIn K (.ref D) (.ref S) = some b) (h5 : PySem.W.subIn K (.ref D) (.ref D) = some true) :
    PySem.W.kitOne K (.ref D) (.ref S) = some b := by
  unfold PySem.W.kitOne
  by_cases e : D = S
  · subst e
    rw [h5] at h4
    rw [if_pos (by simp)]
    exact h4
  · rw [if_neg (by simp [e])]
    have e2 : ((PySem.W.clsIn K S).isSome && PySem.W.typeIn K (.ref S) == some (.type "type")) = true := by
      rw [show (PySem.W.clsIn K S).isSome = true from h2, h3]; rfl
    show (if ((PySem.W.clsIn K S).isSome && PySem.W.typeIn K (.ref S) == some (.type "type")) = true then PySem.W.subIn K (.ref D) (.ref S) else none) = some b
    rw [if_pos e2]
    exact h4
theorem kit_ve {K : PySem.W.Frag} {D : Addr} (h : PySem.W.subIn K (.ref D) (.type "ValueError") = some true) : PySem.W.kitOne K (.ref D) (.type "ValueError") = some true := by
  unfold PySem.W.kitOne
  rw [if_neg (by simp)]
  have e : PySem.W.kitMeta "ValueError" = true := by decide +kernel
  show (if PySem.W.kitMeta "ValueError" = true then PySem.W.subIn K (.ref D) (.type "ValueError") else none) = some true
  rw [if_pos e]
  exact h
/-! ### readings, one step each -/
section
variable {K : PySem.W.Frag} {σ : L2.St} {H : Hp} {Q : VK} {D : Ends} {x y v : V} {ta tb tc : TE} {t u : TT} {ts tu : TS} {i j : Int} {b : Bool} {P R : Prop}
theorem r_var {n : Nat} (h : σ[n]? = some (some v)) (q : Q v H) : tVar n σ H Q := ⟨v, h, q⟩
theorem r_c (q : Q v H) : tC v σ H Q := q
theorem r_op {r : R2} (h : ta σ H fun x H1 => tb σ H1 fun y H2 => r x y H2 Q) : tOp r ta tb σ H Q := h
theorem r_un {r : V → Hp → VK → Prop} (h : ta σ H fun x H1 => r x H1 Q) : tUn r ta σ H Q := h
theorem r_neg (q : Q (.int (-i)) H) : rU (fun i => .int (-i)) (.int i) H Q := ⟨i, rfl, q⟩
theorem r_add (q : Q (.int (i + j)) H) : rAddA (.int i) (.int j) H Q := .inl ⟨i, j, rfl, rfl, q⟩
theorem r_cat {l m : Addr} {xs ys : List V} (h1 : H l = some (.lst xs)) (h2 : H m = some (.lst ys)) (hz : xs.length + ys.length ≤ sizeLine) (q : ∀ p, H p = none → Q (.ref p) (upd H p (.lst (xs ++ ys)))) : rAddA (.ref l) (.ref m) H Q :=
  .inr ⟨l, m, xs, ys, rfl, rfl, h1, h2, hz, q⟩
theorem r_sub (q : Q (.int (i - j)) H) : rSubI (.int i) (.int j) H Q := ⟨i, j, rfl, rfl, q⟩
theorem r_mul (h : (-(2 ^ 64) < i ∧ i < 2 ^ 64) ∨ (-(2 ^ 64) < j ∧ j < 2 ^ 64)) (q : Q (.int (i * j)) H) : rMulA (.int i) (.int j) H Q := .inl ⟨i, j, rfl, rfl, h, q⟩
theorem r_rep {l : Addr} {k : Int} {xs : List V} (h : H l = some (.lst xs)) (h1 : 0 ≤ k) (h2 : k < 2 ^ 24) (h3 : xs.length * k.toNat ≤ sizeLine) (q : ∀ p, H p = none → Q (.ref p) (upd H p (.lst (List.replicate k.toNat xs).flatten))) : rMulA (.ref l) (.int k) H Q :=
  .inr ⟨l, k, xs, rfl, rfl, h, by omega, by omega, h3, q⟩
theorem r_mod (h : 0 < j) (q : Q (.int (i % j)) H) : rModI (.int i) (.int j) H Q :=
  ⟨i, j, rfl, rfl, by omega, by show Q (.int (i.fmod j)) H; rw [Int.fmod_eq_emod_of_nonneg i (by omega)]; exact q⟩
theorem r_div (h : 0 < j) (h2 : j < 1073741824) (q : Q (.int (i / j)) H) : rDivI (.int i) (.int j) H Q :=
  ⟨i, j, rfl, rfl, ⟨by omega, by omega⟩, by show Q (.int (i.fdiv j)) H; rw [Int.fdiv_eq_ediv_of_nonneg i (by omega)]; exact q⟩
theorem r_pow (h : 0 ≤ j ∧ j ≤ 1000000 ∧ i.natAbs < 2 ^ 64) (q : Q (.int (i ^ j.toNat)) H) : rPowI (.int i) (.int j) H Q := ⟨i, j, rfl, rfl, h, q⟩
theorem r_lt (q : Q (.bl (decide (i < j))) H) : rLtI (.int i) (.int j) H Q := ⟨i, j, rfl, rfl, q⟩
theorem r_le (q : Q (.bl (decide (i ≤ j))) H) : rLeI (.int i) (.int j) H Q := ⟨i, j, rfl, rfl, q⟩
theorem r_gt (q : Q (.bl (decide (j < i))) H) : rGtI (.int i) (.int j) H Q := ⟨i, j, rfl, rfl, q⟩
theorem r_ge (q : Q (.bl (decide (j ≤ i))) H) : rGeI (.int i) (.int j) H Q := ⟨i, j, rfl, rfl, q⟩
theorem dec_int : decide (V.int i = V.int j) = decide (i = j) := by
  by_cases h : i = j
  · rw [h]; simp
  · rw [decide_eq_false h, decide_eq_false (fun e => h (V.int.inj e))]
theorem r_eqI (q : Q (.bl (decide (i = j))) H) : rEqA K (.int i) (.int j) H Q := .inl ⟨rfl, by rw [dec_int]; exact q⟩
theorem r_neI (q : Q (.bl (!decide (i = j))) H) : rNeA K (.int i) (.int j) H Q := .inl ⟨rfl, by rw [dec_int]; exact q⟩
theorem dec_bl {b c : Bool} : decide (V.bl b = V.bl c) = decide (b = c) := by
  cases b <;> cases c <;> rfl
theorem r_eqB {b c : Bool} (q : Q (.bl (decide (b = c))) H) : rEqA K (.bl b) (.bl c) H Q := .inl ⟨rfl, by rw [dec_bl]; exact q⟩
theorem r_neB {b c : Bool} (q : Q (.bl (!decide (b = c))) H) : rNeA K (.bl b) (.bl c) H Q := .inl ⟨rfl, by rw [dec_bl]; exact q⟩
theorem dpall_ints : ∀ ns : List Int, DpAll K H (ns.map V.int) (ns.map PyData.int)
  | [] => .nil
  | n :: ns => .cons (.int n) (dpall_ints ns)
theorem dp_ints {a : Addr} {ns : List Int} (h : SqL K H a (ns.map V.int)) : Dp K H (.ref a) (.list (ns.map PyData.int)) := .lst h (dpall_ints ns)
theorem shaped_ints (ns : List Int) : SeqAt.shaped (.list (ns.map PyData.int)) = true := PySem.W.ke_shaped_ints ns
theorem eqv_ints (ns ms : List Int) : PyData.eqv (.list (ns.map PyData.int)) (.list (ms.map PyData.int)) = decide (ns = ms) := by
  rw [← PySem.W.ked_eqvAll ns ms]
  simp only [PyData.eqv]
theorem r_eqL {a c : Addr} {ns ms : List Int} (h1 : SqL K H a (ns.map V.int)) (h2 : SqL K H c (ms.map V.int)) (q : Q (.bl (decide (ns = ms))) H) : rEqA K (.ref a) (.ref c) H Q :=
  .inr ⟨_, _, dp_ints h1, dp_ints h2, shaped_ints ns, shaped_ints ms, by rw [eqv_ints]; exact q⟩
theorem r_neL {a c : Addr} {ns ms : List Int} (h1 : SqL K H a (ns.map V.int)) (h2 : SqL K H c (ms.map V.int)) (q : Q (.bl (!decide (ns = ms))) H) : rNeA K (.ref a) (.ref c) H Q :=
  .inr ⟨_, _, dp_ints h1, dp_ints h2, shaped_ints ns, shaped_ints ms, by rw [eqv_ints]; exact q⟩
theorem inV_ints (x : Int) (ns : List Int) : inV (.int x) (ns.map V.int) = decide (x ∈ ns) := by
  unfold inV
  induction ns with
  | nil => rfl
  | cons n ns ih =>
    rw [List.map_cons, List.any_cons, ih]
    show (n == x || decide (x ∈ ns)) = decide (x ∈ n :: ns)
    by_cases h : n = x
    · subst h; simp
    · have h' : x ≠ n := fun e => h e.symm
      simp [h, h']
theorem flat_ints (ns : List Int) : (ns.map V.int).all flatV = true := by
  rw [List.all_eq_true]
  intro v hv
  obtain ⟨n, _, rfl⟩ := List.mem_map.mp hv
  rfl
theorem r_inI {a : Addr} {x : Int} {ns : List Int} (h : SqL K H a (ns.map V.int)) (q : Q (.bl (decide (x ∈ ns))) H) : rInP K (.int x) (.ref a) H Q :=
  .inl ⟨a, _, rfl, .inl h, rfl, flat_ints ns, by rw [inV_ints]; exact q⟩
theorem r_ninI {a : Addr} {x : Int} {ns : List Int} (h : SqL K H a (ns.map V.int)) (q : Q (.bl (!decide (x ∈ ns))) H) : rInN K (.int x) (.ref a) H Q :=
  .inl ⟨a, _, rfl, .inl h, rfl, flat_ints ns, by rw [inV_ints]; exact q⟩
theorem r_isN (q : Q (.bl (decide (x = .non))) H) : rIsNon x .non H Q := ⟨rfl, q⟩
theorem r_notN (q : Q (.bl (!decide (x = .non))) H) : rNotNon x .non H Q := ⟨rfl, q⟩
theorem r_ixL {a : Addr} {xs : List V} {n : Nat} (h : SqL K H a xs) (e : i = (n : Int)) (ha : xs[n]? = some v) (q : Q v H) : rIxA K (.ref a) (.int i) H Q :=
  .inl ⟨a, xs, i, v, rfl, rfl, h, at_of e ha, q⟩
theorem r_ixT {a : Addr} {xs : List V} {n : Nat} (h : SqT K H a xs) (e : i = (n : Int)) (ha : xs[n]? = some v) (q : Q v H) : rIxA K (.ref a) (.int i) H Q :=
  .inr (.inl ⟨a, xs, i, v, rfl, rfl, h, at_of e ha, q⟩)
-- calls of built-ins
theorem r_cb {r : List V → Hp → VK → Prop} {tA : TA} (h : tA σ H fun vs H1 => r vs H1 Q) : tCB r tA σ H Q := h
theorem r_cons {tA : TA} {QA : List V → Hp → Prop} (h : ta σ H fun x H1 => tA σ H1 fun xs H2 => QA (x :: xs) H2) : tCons ta tA σ H QA := h
theorem r_nil {QA : List V → Hp → Prop} (q : QA [] H) : tNil σ H QA := q
theorem r_lenL {a : Addr} {xs : List V} (h : SqL K H a xs) (q : Q (.int xs.length) H) : rLenA K [.ref a] H Q := ⟨_, _, rfl, .inl ⟨xs, h, rfl⟩, q⟩
theorem r_lenT {a : Addr} {xs : List V} (h : SqT K H a xs) (q : Q (.int xs.length) H) : rLenA K [.ref a] H Q := ⟨_, _, rfl, .inr ⟨xs, h, rfl⟩, q⟩
theorem r_abs (q : Q (.int (if i < 0 then -i else i)) H) : rAbsI [.int i] H Q := ⟨i, rfl, q⟩
theorem r_intI (q : Q (.int i) H) : rInt1 [.int i] H Q := .inl ⟨i, rfl, q⟩
theorem r_intB (q : Q (.int (if b then 1 else 0)) H) : rInt1 [.bl b] H Q := .inr ⟨b, rfl, q⟩
theorem r_listL {a : Addr} {xs : List V} (h : SqL K H a xs) (q : ∀ l, H l = none → Q (.ref l) (upd H l (.lst xs))) : rListA K [.ref a] H Q := ⟨a, xs, rfl, .inl h, q⟩
theorem r_isi {t : Value} {n : String} (h : TyX K H x t) (k : PySem.W.kitOne K t (.type n) = some b) (q : Q (.bl b) H) : rIsi K [x, .ty n] H Q := ⟨x, .ty n, t, .type n, b, rfl, .ty n, h, k, q⟩
theorem isi_II (q : Q (.bl true) H) : rIsi K [.int i, .ty "int"] H Q := r_isi (.base (.int i)) (kit_ty (by decide +kernel)) q
theorem isi_IB (q : Q (.bl false) H) : rIsi K [.int i, .ty "bool"] H Q := r_isi (.base (.int i)) (kit_ty (by decide +kernel)) q
theorem isi_BI (q : Q (.bl true) H) : rIsi K [.bl b, .ty "int"] H Q := r_isi (.base (.bl b)) (kit_ty (by decide +kernel)) q
theorem isi_BB (q : Q (.bl true) H) : rIsi K [.bl b, .ty "bool"] H Q := r_isi (.base (.bl b)) (kit_ty (by decide +kernel)) q
theorem isi_SI {z : Str} (q : Q (.bl false) H) : rIsi K [.str z, .ty "int"] H Q := r_isi (.base (.str z)) (kit_ty (by decide +kernel)) q
theorem isi_SB {z : Str} (q : Q (.bl false) H) : rIsi K [.str z, .ty "bool"] H Q := r_isi (.base (.str z)) (kit_ty (by decide +kernel)) q
theorem isi_SL {z : Str} (q : Q (.bl false) H) : rIsi K [.str z, .ty "list"] H Q := r_isi (.base (.str z)) (kit_ty (by decide +kernel)) q
theorem isi_NI (q : Q (.bl false) H) : rIsi K [.non, .ty "int"] H Q := r_isi (.base .non) (kit_ty (by decide +kernel)) q
theorem isi_NB (q : Q (.bl false) H) : rIsi K [.non, .ty "bool"] H Q := r_isi (.base .non) (kit_ty (by decide +kernel)) q
theorem isi_NL (q : Q (.bl false) H) : rIsi K [.non, .ty "list"] H Q := r_isi (.base .non) (kit_ty (by decide +kernel)) q
theorem isi_LL {a : Addr} {xs : List V} (h : H a = some (.lst xs)) (q : Q (.bl true) H) : rIsi K [.ref a, .ty "list"] H Q := r_isi (.base (.lst h)) (kit_ty (by decide +kernel)) q
theorem isi_TL {a : Addr} {xs : List V} (h : H a = some (.tup xs)) (q : Q (.bl false) H) : rIsi K [.ref a, .ty "list"] H Q := r_isi (.base (.tup h)) (kit_ty (by decide +kernel)) q
theorem isi_TT {a : Addr} {xs : List V} (h : H a = some (.tup xs)) (q : Q (.bl true) H) : rIsi K [.ref a, .ty "tuple"] H Q := r_isi (.base (.tup h)) (kit_ty (by decide +kernel)) q
theorem r_isEx {D a C : Addr} (c : ExcC K D) (k : PySem.W.kitOne K (.ref D) (.ref C) = some b) (q : Q (.bl b) H) : rIsEx K (.ref D) none a [.ref a, .ref C] H Q := ⟨D, rfl, rfl, c, .ref C, .ref C, b, rfl, fun _ r => r, k, q⟩
theorem r_isExV {D a : Addr} (c : ExcC K D) (k : PySem.W.kitOne K (.ref D) (.type "ValueError") = some b) (q : Q (.bl b) H) : rIsEx K (.ref D) none a [.ref a, .ty "ValueError"] H Q := ⟨D, rfl, rfl, c, .ty "ValueError", .type "ValueError", b, rfl, fun _ r => r, k, q⟩
-- displays, fields
theorem r_tup {tA : TA} (h : tA σ H fun xs H1 => xs.length ≤ sizeLine ∧ ∀ p, H1 p = none → Q (.ref p) (upd H1 p (.tup xs))) : tTup tA σ H Q := h
theorem r_lst {tA : TA} (h : tA σ H fun xs H1 => xs.length ≤ sizeLine ∧ ∀ p, H1 p = none → Q (.ref p) (upd H1 p (.lst xs))) : tLst tA σ H Q := h
theorem r_fld {f : Str} (h : ta σ H fun x H1 => ∃ a C dx fs v, x = .ref a ∧ H1 a = some (.ins C dx fs) ∧ Cls K C ∧ NoAttr K C f ∧ fs.lookup f = some v ∧ Q v H1) : tFld K ta f σ H Q := h
theorem r_fldR {a C dx : Addr} {fs : List (Str × V)} {f : Str} {Q' : V → Prop} (h : H a = some (.ins C dx fs)) (c : Cls K C) (n : NoAttr K C f) (l : fs.lookup f = some v) (q : Q' v) :
    ∃ a' C dx fs v, V.ref a = .ref a' ∧ H a' = some (.ins C dx fs) ∧ Cls K C ∧ NoAttr K C f ∧ fs.lookup f = some v ∧ Q' v := ⟨a, C, dx, fs, v, rfl, h, c, n, l, q⟩
theorem cut_take {xs : List V} {k : Nat} (h : k ≤ xs.length) : cutV xs none (some (k : Int)) = xs.take k := by
  unfold cutV
  rw [HT.sIx_none, HT.sIx_nat, Nat.min_eq_left h, List.drop_zero, Nat.sub_zero]
theorem cut_drop {xs : List V} {k : Nat} (h : k ≤ xs.length) : cutV xs (some (k : Int)) none = xs.drop k := by
  unfold cutV
  rw [HT.sIx_none, HT.sIx_nat, Nat.min_eq_left h, List.take_of_length_le (by rw [List.length_drop]; exact Nat.le_refl _)]
theorem r_sl {r : V → Option Int → Option Int → Hp → VK → Prop} {tl th : TO} (h : ta σ H fun x H1 => tl σ H1 fun l H2 => th σ H2 fun u H3 => r x l u H3 Q) : tSl r ta tl th σ H Q := h
theorem r_noPart {QO : Option Int → Hp → Prop} (q : QO none H) : tNoPart σ H QO := q
theorem r_part {QO : Option Int → Hp → Prop} (h : ta σ H fun x H1 => ∃ i, x = .int i ∧ QO (some i) H1) : tPart ta σ H QO := h
theorem r_intE {f : Int → Prop} (q : f i) : ∃ k, V.int i = .int k ∧ f k := ⟨i, rfl, q⟩
theorem r_slTake {l : Addr} {xs : List V} {k : Nat} (h : SqL K H l xs) (e : i = (k : Int)) (hk : k ≤ xs.length) (q : ∀ p, H p = none → Q (.ref p) (upd H p (.lst (xs.take k)))) : rSlL K (.ref l) none (some i) H Q :=
  ⟨l, xs, rfl, h, fun p hp => by rw [e, cut_take hk]; exact q p hp⟩
theorem r_slDrop {l : Addr} {xs : List V} {k : Nat} (h : SqL K H l xs) (e : i = (k : Int)) (hk : k ≤ xs.length) (q : ∀ p, H p = none → Q (.ref p) (upd H p (.lst (xs.drop k)))) : rSlL K (.ref l) (some i) none H Q :=
  ⟨l, xs, rfl, h, fun p hp => by rw [e, cut_drop hk]; exact q p hp⟩
-- truth
theorem r_notV (h : ta σ H fun x H1 => ∃ c, x = .bl c ∧ Q (.bl (!c)) H1) : tNotV ta σ H Q := h
theorem r_blV {f : Bool → Prop} (q : f b) : ∃ c, V.bl b = .bl c ∧ f c := ⟨b, rfl, q⟩
theorem r_andV (h : ta σ H fun x H1 => ∃ c, x = .bl c ∧ if c = true then tb σ H1 Q else Q (.bl false) H1) : tAndV ta tb σ H Q := h
theorem r_orV (h : ta σ H fun x H1 => ∃ c, x = .bl c ∧ if c = true then Q (.bl true) H1 else tb σ H1 Q) : tOrV ta tb σ H Q := h
theorem r_test {QB : Bool → Hp → Prop} (h : ta σ H fun x H' => ∃ k, x = .bl k ∧ QB k H') : tTest ta σ H QB := h
theorem r_B {QB : Bool → Hp → Prop} (h : ta σ H fun x H' => ∃ k, x = .bl k ∧ QB k H') : tB ta σ H QB := h
theorem r_not {QB : Bool → Hp → Prop} (h : t σ H fun c H1 => QB (!c) H1) : tNot t σ H QB := h
theorem r_and {QB : Bool → Hp → Prop} (h : t σ H fun c H1 => if c = true then u σ H1 QB else QB false H1) : tAnd t u σ H QB := h
theorem r_or {QB : Bool → Hp → Prop} (h : t σ H fun c H1 => if c = true then QB true H1 else u σ H1 QB) : tOr t u σ H QB := h
theorem r_if (h : t σ H fun c H1 => if c = true then ta σ H1 Q else tb σ H1 Q) : tIf t ta tb σ H Q := h
theorem r_ifS (h : t σ H fun c H1 => if c = true then ts D σ H1 else tu D σ H1) : tIfS t ts tu D σ H := h
theorem r_chain {r r' : R2} (h : ta σ H fun x H1 => tb σ H1 fun y H2 => r x y H2 fun z H3 => ∃ k, z = .bl k ∧ if k = true then tc σ H3 fun w H4 => r' y w H4 Q else Q (.bl false) H3) : tChain r r' ta tb tc σ H Q := by
  unfold tChain
  exact h
-- statements
theorem r_seq (h : ts ⟨tu D, D.rt, D.bk, D.ct⟩ σ H) : tSeq ts tu D σ H := h
theorem r_asg {g : TG} (h : ta σ H fun x H1 => g x σ H1 D.nx) : tAsg ta g D σ H := h
theorem r_name {n : Nat} {R : L2.St → Hp → Prop} (h : R (σ.set n (some v)) H) : gName n v σ H R := h
theorem r_next (h : D.nx σ H) : tNext D σ H := h
theorem r_ret (h : ta σ H D.rt) : tRet ta D σ H := h
theorem r_retN (h : D.rt .non H) : tRetN D σ H := h
theorem r_drop (h : ta σ H fun _ H1 => D.nx σ H1) : tDrop ta D σ H := h
theorem r_nx {a c d : L2.St → Hp → Prop} {e : VK} (h : a σ H) : (Ends.mk a e c d).nx σ H := h
theorem r_rt {a c d : L2.St → Hp → Prop} {e : VK} (h : e v H) : (Ends.mk a e c d).rt v H := h
theorem r_bk {a c d : L2.St → Hp → Prop} {e : VK} (h : c σ H) : (Ends.mk a e c d).bk σ H := h
theorem r_ct {a c d : L2.St → Hp → Prop} {e : VK} (h : d σ H) : (Ends.mk a e c d).ct σ H := h
theorem r_break (h : D.bk σ H) : tBreak D σ H := h
theorem r_cont (h : D.ct σ H) : tCont D σ H := h
theorem r_sfld {f : Str} {tv : TE} (h : tv σ H fun y H1 => ta σ H1 fun x H2 => ∃ a C dx fs, x = .ref a ∧ H2 a = some (.ins C dx fs) ∧ Cls K C ∧ NoAttr K C f ∧ fs.length < 1000 ∧ D.nx σ (upd H2 a (.ins C dx (putF f y fs)))) : sFld K ta tv f D σ H := h
theorem r_sfldR {a C dx : Addr} {fs : List (Str × V)} {f : Str} (h : H a = some (.ins C dx fs)) (c : Cls K C) (n : NoAttr K C f) (l : fs.length < 1000) (q : P) (e : P → D.nx σ (upd H a (.ins C dx (putF f y fs)))) :
    ∃ a' C dx fs, V.ref a = .ref a' ∧ H a' = some (.ins C dx fs) ∧ Cls K C ∧ NoAttr K C f ∧ fs.length < 1000 ∧ D.nx σ (upd H a' (.ins C dx (putF f y fs))) := ⟨a, C, dx, fs, rfl, h, c, n, l, e q⟩
theorem r_append {l : Addr} {xs : List V} (h : H l = some (.lst xs)) (hz : xs.length < sizeLine) (q : Q .non (upd H l (.lst (xs ++ [y])))) : rAppend (.ref l) [y] H Q := ⟨l, xs, y, rfl, rfl, h, hz, q⟩
theorem r_bm {T : String} {r : V → List V → Hp → VK → Prop} {tA : TA} (h : ta σ H fun x H1 => tyV K T x H1 ∧ tA σ H1 fun xs H2 => r x xs H2 Q) : tBM K T r ta tA σ H Q := h
theorem r_bm0 {T : String} {r : V → List V → Hp → VK → Prop} (h : ta σ H fun x H1 => tyV K T x H1 ∧ r x [] H1 Q) : tBM0 K T r ta σ H Q := h
theorem ty_list {l : Addr} {xs : List V} (h : SqL K H l xs) : tyV K "list" (.ref l) H := .inl ⟨rfl, xs, h⟩
-- own defs
theorem r_call {sp : Sp} {E : XK} {tA : TA} (h : tA σ H fun vs H1 => sp vs H1 Q E) : tCall sp [] E tA σ H Q := by
  unfold tCall
  have e : (fun vs H1 => sp (vs ++ []) H1 Q E) = fun vs H1 => sp vs H1 Q E := by
    funext vs H1
    rw [List.append_nil]
  rw [e]
  exact h
theorem r_callS {sp : Sp} {E : L2.St → XK} {tA : TA} (h : tA σ H fun vs H1 => sp vs H1 Q (E σ)) : tCallS sp E tA σ H Q := h
theorem r_meth {C : Addr} {m : Str} {sp : Sp} {E : XK} {tA : TA} (h : ta σ H fun x H1 => ∃ a dx fs, x = .ref a ∧ H1 a = some (.ins C dx fs) ∧ fs.lookup m = none ∧ tA σ H1 fun vs H2 => sp (x :: vs) H2 Q E) : tMeth C m sp [] E ta tA σ H Q := by
  unfold tMeth
  simp only [List.append_nil]
  exact h
theorem r_methS {C : Addr} {m : Str} {sp : Sp} {E : L2.St → XK} {tA : TA} (h : ta σ H fun x H1 => ∃ a dx fs, x = .ref a ∧ H1 a = some (.ins C dx fs) ∧ fs.lookup m = none ∧ tA σ H1 fun vs H2 => sp (x :: vs) H2 Q (E σ)) : tMethS C m sp E ta tA σ H Q := h
theorem r_recv {C a dx : Addr} {fs : List (Str × V)} {m : Str} (h : H a = some (.ins C dx fs)) (l : fs.lookup m = none) (q : P) : ∃ a' dx fs, V.ref a = .ref a' ∧ H a' = some (.ins C dx fs) ∧ fs.lookup m = none ∧ P := ⟨a, dx, fs, rfl, h, l, q⟩
theorem r_make {C : Addr} {sp : Sp} {E : XK} {tA : TA} (h : tA σ H fun vs H1 => ∀ x dx, H1 x = none → H1 dx = none → dx ≠ x → sp (.ref x :: vs) (upd (upd H1 dx (.own x)) x (.ins C dx [])) (fun v H2 => v = .non ∧ Q (.ref x) H2) E) : tMake C sp [] E tA σ H Q := by
  unfold tMake
  simp only [List.append_nil]
  exact h
theorem r_makeS {C : Addr} {sp : Sp} {E : L2.St → XK} {tA : TA} (h : tA σ H fun vs H1 => ∀ x dx, H1 x = none → H1 dx = none → dx ≠ x → sp (.ref x :: vs) (upd (upd H1 dx (.own x)) x (.ins C dx [])) (fun v H2 => v = .non ∧ Q (.ref x) H2) (E σ)) : tMakeS C sp E tA σ H Q := h
-- the ways
theorem r_ifT (h : P) : if true = true then P else R := by rw [if_pos rfl]; exact h
theorem r_ifF (h : R) : if false = true then P else R := by rw [if_neg Bool.false_ne_true]; exact h
theorem r_ifd {p : Prop} [Decidable p] (h1 : p → P) (h2 : ¬ p → R) : if decide p = true then P else R := by
  by_cases h : p
  · rw [if_pos (decide_eq_true h)]; exact h1 h
  · rw [if_neg (by simpa using h)]; exact h2 h
theorem r_ifnd {p : Prop} [Decidable p] (h1 : ¬ p → P) (h2 : p → R) : if (!decide p) = true then P else R := by
  by_cases h : p
  · rw [decide_eq_true h]; exact r_ifF (h2 h)
  · rw [decide_eq_false h]; exact r_ifT (h1 h)
theorem r_ifb (h1 : b = true → P) (h2 : b = false → R) : if b = true then P else R := by
  cases b
  · exact r_ifF (h2 rfl)
  · exact r_ifT (h1 rfl)
theorem r_ifnb (h1 : b = false → P) (h2 : b = true → R) : if (!b) = true then P else R := by
  cases b
  · exact r_ifT (h1 rfl)
  · exact r_ifF (h2 rfl)
end
/-- ways that meet behind an if without (with) an else: what follows is shown once, from Mid -/
theorem r_join {c : Bool} {ts tu : TS} {rest bk ct : L2.St → Hp → Prop} {rt : VK} {σ : L2.St} {H : Hp} (Mid : L2.St → Hp → Prop) (h2 : ∀ σ' H', Mid σ' H' → rest σ' H')
    (h1 : ∀ R : L2.St → Hp → Prop, (∀ σ' H', Mid σ' H' → R σ' H') → if c = true then ts ⟨R, rt, bk, ct⟩ σ H else tu ⟨R, rt, bk, ct⟩ σ H) : if c = true then ts ⟨rest, rt, bk, ct⟩ σ H else tu ⟨rest, rt, bk, ct⟩ σ H := h1 rest h2
/-- a for over a list, a range: the turn's word -/
theorem r_forL {K : PySem.W.Frag} {tl : TE} {g : TG} {tb : TS} {D : Ends} {σ : L2.St} {H : Hp} (h : tl σ H fun x H1 => ∃ a, x = .ref a ∧ (∃ xs, SqL K H1 a xs) ∧ ∃ W : Nat → Nat → L2.St → Hp → Prop, (∃ m, W 0 m σ H1) ∧ ∀ i m σ H, W i m σ H →
      ((Itl K a).stop i H ∧ D.nx σ H) ∨ ((Itl K a).go i H ∧ ∃ N : L2.St → Hp → Prop, (∀ σ' H', N σ' H' → ∃ m', m' < m ∧ W (i + 1) m' σ' H') ∧ ∀ x H', (Itl K a).yld i H x H' → g x σ H' fun σ2 H2 => tb { D with nx := N, ct := N, bk := D.nx } σ2 H2)) : tFor (iList K tl) g tb D σ H := h
theorem r_forR {tA : TA} {g : TG} {tb : TS} {D : Ends} {σ : L2.St} {H : Hp} (h : tA σ H fun vs H1 => ∃ j : Int, vs = [.int j] ∧ -(2 ^ 62) ≤ j ∧ j < 2 ^ 62 ∧ ∃ W : Nat → Nat → L2.St → Hp → Prop, (∃ m, W 0 m σ H1) ∧ ∀ i m σ H, W i m σ H →
      ((Itr 0 j.toNat).stop i H ∧ D.nx σ H) ∨ ((Itr 0 j.toNat).go i H ∧ ∃ N : L2.St → Hp → Prop, (∀ σ' H', N σ' H' → ∃ m', m' < m ∧ W (i + 1) m' σ' H') ∧ ∀ x H', (Itr 0 j.toNat).yld i H x H' → g x σ H' fun σ2 H2 => tb { D with nx := N, ct := N, bk := D.nx } σ2 H2)) : tFor (iRng1 tA) g tb D σ H := h

/-! ### heaps -/
/-- what is tracked stays, but at p -/
def But (p : Addr) (H H' : Hp) : Prop := ∀ b o, H b = some o → b ≠ p → H' b = some o
theorem Same.but {H H' : Hp} {p : Addr} (s : Same H H') : But p H H' := fun b o e _ => s b o e
theorem same_new {H : Hp} {p : Addr} {o : HO} (h : H p = none) : Same H (upd H p o) := fun b u e => by
  rw [upd_ne (ne_of_none e h)]; exact e
theorem Same.sqT {K : PySem.W.Frag} {H H' : Hp} {a : Addr} {xs : List V} (e : Same H H') (h : SqT K H a xs) : SqT K H' a xs := by
  rcases h with (h | ⟨o, h⟩) | h
  · exact .inl (.inl (e _ _ h))
  · exact .inl (.inr ⟨o, e _ _ h⟩)
  · exact .inr h
theorem toL {K : PySem.W.Frag} {H : Hp} {a : Addr} {xs : List V} (h : H a = some (.lst xs)) : SqL K H a xs := SqL.of h
theorem toT {K : PySem.W.Frag} {H : Hp} {a : Addr} {xs : List V} (h : H a = some (.tup xs)) : SqT K H a xs := SqT.of h
end My

/-! R-PARTS -/
/-! ### heaps as lists of numbers -/
namespace Hq
def at0 (ns : List Int) (i : Nat) : Int := ns.getD i 0
/-- in order everywhere -/
def Ord (ns : List Int) : Prop := ∀ i, 0 < i → i < ns.length → at0 ns ((i - 1) / 2) ≤ at0 ns i
/-- in order but at pos, on the way down -/
def Dn (ns : List Int) (pos : Nat) : Prop := (∀ i, 0 < i → i < ns.length → (i - 1) / 2 ≠ pos → i ≠ pos → at0 ns ((i - 1) / 2) ≤ at0 ns i) ∧
  ∀ i, 0 < i → i < ns.length → (i - 1) / 2 = pos → 0 < pos → at0 ns ((pos - 1) / 2) ≤ at0 ns i
/-- in order but at pos, on the way up -/
def Up (ns : List Int) (pos : Nat) : Prop := (∀ i, 0 < i → i < ns.length → i ≠ pos → at0 ns ((i - 1) / 2) ≤ at0 ns i) ∧
  ∀ i, 0 < i → i < ns.length → (i - 1) / 2 = pos → 0 < pos → at0 ns ((pos - 1) / 2) ≤ at0 ns i
def sw (ns : List Int) (i j : Nat) : List Int := (ns.set i (at0 ns j)).set j (at0 ns i)
theorem sw_len (ns : List Int) (i j : Nat) : (sw ns i j).length = ns.length := by simp [sw]
theorem at0_set (ns : List Int) (i : Nat) (x : Int) (k : Nat) (h : i < ns.length) : at0 (ns.set i x) k = if k = i then x else at0 ns k := by
  unfold at0
  rw [List.getD_eq_getElem?_getD, List.getD_eq_getElem?_getD, List.getElem?_set]
  by_cases e : i = k
  · subst e; simp [h]
  · rw [if_neg e, if_neg (fun z => e z.symm)]
theorem sw_at (ns : List Int) (i j k : Nat) (hi : i < ns.length) (hj : j < ns.length) : at0 (sw ns i j) k = if k = j then at0 ns i else if k = i then at0 ns j else at0 ns k := by
  unfold sw
  rw [at0_set _ _ _ _ (by simpa using hj), at0_set _ _ _ _ hi]
theorem sw_perm (ns : List Int) (i j : Nat) (hi : i < ns.length) (hj : j < ns.length) : (sw ns i j).Perm ns := by
  have h := Array.swap_perm (xs := ns.toArray) (i := i) (j := j) (by simpa using hi) (by simpa using hj)
  have h2 := Array.perm_iff_toList_perm.mp h
  have e : (ns.toArray.swap i j (by simpa using hi) (by simpa using hj)).toList = sw ns i j := by
    rw [Array.swap_def]
    simp only [Array.toList_set]
    unfold sw at0
    rw [List.getD_eq_getElem?_getD, List.getD_eq_getElem?_getD, List.getElem?_eq_getElem hi, List.getElem?_eq_getElem hj]
    simp
  rw [e] at h2
  exact h2
theorem dn_step {ns : List Int} {pos c : Nat} (h : Dn ns pos) (hc : c < ns.length) (hp : (c - 1) / 2 = pos) (h0 : 0 < c) (hm : ∀ i, 0 < i → i < ns.length → (i - 1) / 2 = pos → at0 ns c ≤ at0 ns i) : Dn (sw ns c pos) c := by
  obtain ⟨h1, h2⟩ := h
  have hpl : pos < ns.length := by omega
  constructor
  · intro i i0 il hpc hic
    rw [sw_len] at il
    rw [sw_at _ _ _ _ hc hpl, sw_at _ _ _ _ hc hpl]
    by_cases e : i = pos
    · subst e
      rw [if_pos rfl, if_neg (by omega), if_neg hpc]
      exact h2 c h0 hc hp i0
    · rw [if_neg e, if_neg hic]
      by_cases e2 : (i - 1) / 2 = pos
      · rw [if_pos e2]
        exact hm i i0 il e2
      · rw [if_neg e2, if_neg hpc]
        exact h1 i i0 il e2 e
  · intro i i0 il hic c0
    rw [sw_len] at il
    rw [sw_at _ _ _ _ hc hpl, sw_at _ _ _ _ hc hpl, if_pos hp, if_neg (by omega), if_neg (by omega)]
    have := h1 i i0 il (by omega) (by omega)
    rw [hic] at this
    exact this
theorem dn_up {ns : List Int} {pos : Nat} (h : Dn ns pos) (hp : ns.length / 2 ≤ pos) : Up ns pos :=
  ⟨fun i i0 il hip => h.1 i i0 il (by omega) hip, h.2⟩
theorem up_step {ns : List Int} {pos : Nat} (h : Up ns pos) (hp : pos < ns.length) (h0 : 0 < pos) (hlt : at0 ns pos < at0 ns ((pos - 1) / 2)) : Up (sw ns ((pos - 1) / 2) pos) ((pos - 1) / 2) := by
  obtain ⟨h1, h2⟩ := h
  generalize hq : (pos - 1) / 2 = q at *
  have hql : q < ns.length := by omega
  constructor
  · intro i i0 il hiq
    rw [sw_len] at il
    rw [sw_at _ _ _ _ hql hp, sw_at _ _ _ _ hql hp]
    by_cases e : i = pos
    · subst e
      rw [if_pos rfl, if_neg (by omega), if_pos hq]
      omega
    · rw [if_neg e, if_neg hiq]
      have a := h1 i i0 il e
      by_cases e2 : (i - 1) / 2 = pos
      · rw [if_pos e2]
        exact h2 i i0 il e2 h0
      · rw [if_neg e2]
        by_cases e3 : (i - 1) / 2 = q
        · rw [if_pos e3]
          rw [e3] at a
          omega
        · rw [if_neg e3]
          exact a
  · intro i i0 il hiq q0
    rw [sw_len] at il
    rw [sw_at _ _ _ _ hql hp, sw_at _ _ _ _ hql hp, if_neg (by omega), if_neg (by omega)]
    have a := h1 q q0 hql (by omega)
    by_cases e : i = pos
    · rw [if_pos e]; exact a
    · rw [if_neg e, if_neg (by omega)]
      have b := h1 i i0 il e
      rw [hiq] at b
      omega
theorem up_end {ns : List Int} {pos : Nat} (h : Up ns pos) (h2 : 0 < pos → at0 ns ((pos - 1) / 2) ≤ at0 ns pos) : Ord ns := fun i i0 il => by
  by_cases e : i = pos
  · subst e; exact h2 i0
  · exact h.1 i i0 il e
theorem ord_least {ns : List Int} (h : Ord ns) : ∀ k, k < ns.length → at0 ns 0 ≤ at0 ns k := by
  intro k
  induction k using Nat.strongRecOn with
  | _ k ih =>
    intro hk
    by_cases e : k = 0
    · subst e; exact Int.le_refl _
    · have a := ih ((k - 1) / 2) (by omega) (by omega)
      have b := h k (by omega) hk
      omega
theorem at0_append (ns : List Int) (x : Int) (i : Nat) (h : i < ns.length) : at0 (ns ++ [x]) i = at0 ns i := by
  unfold at0
  rw [List.getD_eq_getElem?_getD, List.getD_eq_getElem?_getD, List.getElem?_append_left h]
theorem push_up {ns : List Int} {x : Int} (h : Ord ns) : Up (ns ++ [x]) ns.length := by
  constructor
  · intro i i0 il hi
    rw [List.length_append, List.length_singleton] at il
    rw [at0_append _ _ _ (by omega), at0_append _ _ _ (by omega)]
    exact h i i0 (by omega)
  · intro i i0 il hi h0
    rw [List.length_append, List.length_singleton] at il
    omega
theorem pop_dn {ns : List Int} {x : Int} (h : Ord ns) (h2 : 2 ≤ ns.length) : Dn (ns.dropLast.set 0 x) 0 := by
  constructor
  · intro i i0 il hp hi
    rw [List.length_set, List.length_dropLast] at il
    have hl : ns.dropLast.length = ns.length - 1 := List.length_dropLast
    have a : ∀ k, k < ns.length - 1 → at0 ns.dropLast k = at0 ns k := fun k hk => by
      unfold at0
      rw [List.getD_eq_getElem?_getD, List.getD_eq_getElem?_getD, List.getElem?_dropLast, if_pos hk]
    rw [at0_set _ _ _ _ (by omega), at0_set _ _ _ _ (by omega), if_neg hp, if_neg hi, a _ (by omega), a _ (by omega)]
    exact h i i0 (by omega)
  · intro i _ _ _ h0
    omega
end Hq

namespace My
open PySem PySem.Spec PyProof.Rows L2
namespace HF
theorem kind_push : builtinKind "_heapq.heappush" = none := by decide +kernel
theorem plain_push : plainId "_heapq.heappush" = true := by decide +kernel
theorem entry_push : entryFor table "_heapq.heappush" = some Builtin.«_heapq.heappush» := entryFor_of_fast (by kernel_rfl)
theorem args_push (a b : Value) : argsOk "_heapq.heappush" ⟨[a, b], []⟩ := by unfold argsOk; kernel_rfl
theorem kind_pop : builtinKind "_heapq.heappop" = none := by decide +kernel
theorem plain_pop : plainId "_heapq.heappop" = true := by decide +kernel
theorem entry_pop : entryFor table "_heapq.heappop" = some Builtin.«_heapq.heappop» := entryFor_of_fast (by kernel_rfl)
theorem args_pop (a : Value) : argsOk "_heapq.heappop" ⟨[a], []⟩ := by unfold argsOk; kernel_rfl
theorem plain_sift : plainId "_heapq.heapify.sift" = true := by decide +kernel
theorem entry_sift : entryFor table "_heapq.heapify.sift" = some Builtin.«_heapq.heapify.sift» := entryFor_of_fast (by kernel_rfl)
end HF
section
variable {X : Cx} {pins : List (Addr × Obj)} {σ : L2.St} {H : Hp} {l : Addr}
theorem at_v {ns : List Int} {its : List Value} (r : Vals (ns.map V.int) its) {i : Nat} (h : i < ns.length) : ∃ t, its.toArray[i]? = some (.int (Hq.at0 ns i) t) := by
  obtain ⟨u, h1, t, h2⟩ := r.get (i := i) (x := V.int (Hq.at0 ns i)) (by
    rw [List.getElem?_map]
    unfold Hq.at0
    rw [List.getD_eq_getElem?_getD, List.getElem?_eq_getElem h]
    rfl)
  refine ⟨t, ?_⟩
  rw [← h2]
  simpa using h1
theorem vals_sw {ns : List Int} {its : List Value} (r : Vals (ns.map V.int) its) {i j : Nat} {t u : Tok} : Vals ((Hq.sw ns i j).map V.int) ((its.set i (.int (Hq.at0 ns j) t)).set j (.int (Hq.at0 ns i) u)) := by
  unfold Hq.sw
  rw [List.map_set, List.map_set]
  exact Vals.set (x := V.int (Hq.at0 ns i)) (u := .int (Hq.at0 ns i) u) ⟨_, rfl⟩ _ (Vals.set (x := V.int (Hq.at0 ns j)) (u := .int (Hq.at0 ns j) t) ⟨_, rfl⟩ _ r)
theorem at_eq {xs : Array Value} {i : Nat} {v : Value} (h : xs[i]? = some v) : (match xs[i]? with | some v => pure v | none => unsupported "internal:_heapq.index") = (pure v : Sem Value) := by
  rw [h]
theorem sift_run {A : Around} {R : Result → Shared → Prop} {res : Value} : ∀ (m : Nat) (down : Bool) (pos : Nat) (ns : List Int) (s : Shared),
    (if down = true then 2 * ns.length - pos else pos) < m → pos < ns.length → Inv X pins σ (upd H l (.lst (ns.map V.int))) s → (down = true → Hq.Dn ns pos) → (down = false → Hq.Up ns pos) →
    (∀ (ns' : List Int) (s' : Shared), ns'.Perm ns → Hq.Ord ns' → Inv X pins σ (upd H l (.lst (ns'.map V.int))) s' → R (.ok (.ret res)) s') →
    codeAny (model X.prog X.w) A (.builtin "_heapq.heapify.sift" ⟨[.ref l, .bool false, .bool down, rawInt pos, rawInt 0, res, rawInt (-1)], []⟩) R s := by
  intro m
  induction m with
  | zero => intro down pos ns s hm; exact absurd hm (Nat.not_lt_zero _)
  | succ m ih =>
    intro down pos ns s hm hpos I hd hu hR
    obtain ⟨z, its, n, r, hl, e⟩ := I.lstM upd_same
    have hsz : its.toArray.size = ns.length := by rw [List.size_toArray, ← hl, List.length_map]
    rw [List.length_map] at z
    have zz : its.toArray.size ≤ sizeLine := by rw [hsz]; exact z
    have pn : ((pos : Int)).toNat = pos := Int.toNat_natCast pos
    -- behind a swap
    have fin : ∀ (i j : Nat) (ti tj : Tok) (down' : Bool), i < ns.length → j < ns.length → (if down' = true then 2 * ns.length - i else i) < m → (down' = true → Hq.Dn (Hq.sw ns i j) i) → (down' = false → Hq.Up (Hq.sw ns i j) i) →
        codeAny (model X.prog X.w) A (.builtin "_heapq.heapify.sift" ⟨[.ref l, .bool false, .bool down', rawInt i, rawInt 0, res, rawInt (-1)], []⟩) R
          { s with heap := s.heap.update l (Obj.mapSeq fun xs => (xs.setIfInBounds i (.int (Hq.at0 ns j) tj)).setIfInBounds j (.int (Hq.at0 ns i) ti)) } := by
      intro i j ti tj down' hi hj hm' h1 h2
      have I2 := I.lset (f := fun xs => (xs.setIfInBounds i (.int (Hq.at0 ns j) tj)).setIfInBounds j (.int (Hq.at0 ns i) ti)) (t' := s.toks) upd_same e (its' := (its.set i (.int (Hq.at0 ns j) tj)).set j (.int (Hq.at0 ns i) ti)) (by simp) (vals_sw r) (by
        rw [List.length_map, Hq.sw_len]; exact z)
      rw [upd_upd] at I2
      refine ih down' i (Hq.sw ns i j) _ (by rw [Hq.sw_len]; exact hm') (by rw [Hq.sw_len]; exact hi) I2 h1 h2 fun ns' s' p o I' => hR ns' s' (p.trans (Hq.sw_perm ns i j hi hj)) o I'
    refine codeAny_builtin HF.entry_sift ?_
    rw [Around.under_plainId HF.plain_sift _]
    unfold Builtin.«_heapq.heapify.sift»
    refine wpAny_bind (wpAny_bind (wpAny_seqItems e rfl (wpAny_pure ?_)))
    cases down with
    | true =>
      have hd := hd rfl
      rw [if_pos rfl] at hm
      rw [if_pos rfl, pn, hsz]
      by_cases hp2 : pos < ns.length / 2
      · rw [if_pos hp2]
        obtain ⟨ta, ha⟩ := at_v r hpos
        have hl1 : 2 * pos + 1 < ns.length := by omega
        obtain ⟨tb, hb⟩ := at_v r hl1
        by_cases h2 : 2 * pos + 1 + 1 < ns.length
        · obtain ⟨tc, hc⟩ := at_v r h2
          dsimp only
          rw [if_pos h2]
          refine wpAny_bind (wpAny_of_eq (at_eq hb) ?_)
          refine wpAny_bind (wpAny_of_eq (at_eq hc) ?_)
          refine wpAny_bind (wpAny_bind (wpAny_holding (wpAny_bind (PyProof.Rows.lt_int ?_))))
          refine wpAny_truthy_bool ?_
          refine wpAny_bind (wpAny_bind (wpAny_seqItems e rfl (wpAny_pure ?_)))
          rw [hsz, if_neg (by simp)]
          refine wpAny_pure ?_
          by_cases hlt : Hq.at0 ns (2 * pos + 1) < Hq.at0 ns (2 * pos + 1 + 1)
          · rw [decide_eq_true hlt, if_neg (by simp)]
            refine wpAny_bind (wpAny_bind (wpAny_bind (wpAny_seqItems e rfl (wpAny_pure ?_))))
            refine wpAny_bind (wpAny_of_eq (at_eq hb) ?_)
            refine wpAny_bind (wpAny_of_eq (at_eq ha) ?_)
            refine wpAny_updateSeq e rfl ?_ zz (by simp; exact Nat.le_succ_of_le (by simpa using zz))
            refine wpAny_pure ⟨plainId_quiet HF.plain_sift _, ?_⟩
            refine fin (2 * pos + 1) pos tb ta true hl1 hpos (by rw [if_pos rfl]; omega) (fun _ => Hq.dn_step hd hl1 (by omega) (by omega) fun i i0 il hip => ?_) (fun h => absurd h (by decide))
            by_cases e1 : i = 2 * pos + 1
            · rw [e1]; exact Int.le_refl _
            · have e2 : i = 2 * pos + 1 + 1 := by omega
              rw [e2]; exact Int.le_of_lt hlt
          · rw [decide_eq_false hlt, if_pos (by simp)]
            refine wpAny_bind (wpAny_bind (wpAny_bind (wpAny_seqItems e rfl (wpAny_pure ?_))))
            refine wpAny_bind (wpAny_of_eq (at_eq hc) ?_)
            refine wpAny_bind (wpAny_of_eq (at_eq ha) ?_)
            refine wpAny_updateSeq e rfl ?_ zz (by simp; exact Nat.le_succ_of_le (by simpa using zz))
            refine wpAny_pure ⟨plainId_quiet HF.plain_sift _, ?_⟩
            refine fin (2 * pos + 1 + 1) pos tc ta true h2 hpos (by rw [if_pos rfl]; omega) (fun _ => Hq.dn_step hd h2 (by omega) (by omega) fun i i0 il hip => ?_) (fun h => absurd h (by decide))
            by_cases e1 : i = 2 * pos + 1
            · rw [e1]; omega
            · have e2 : i = 2 * pos + 1 + 1 := by omega
              rw [e2]; exact Int.le_refl _
        · dsimp only
          rw [if_neg h2]
          refine wpAny_bind (wpAny_bind (wpAny_bind (wpAny_seqItems e rfl (wpAny_pure ?_))))
          refine wpAny_bind (wpAny_of_eq (at_eq hb) ?_)
          refine wpAny_bind (wpAny_of_eq (at_eq ha) ?_)
          refine wpAny_updateSeq e rfl ?_ zz (by simp; exact Nat.le_succ_of_le (by simpa using zz))
          refine wpAny_pure ⟨plainId_quiet HF.plain_sift _, ?_⟩
          refine fin (2 * pos + 1) pos tb ta true hl1 hpos (by rw [if_pos rfl]; omega) (fun _ => Hq.dn_step hd hl1 (by omega) (by omega) fun i i0 il hip => ?_) (fun h => absurd h (by decide))
          have e1 : i = 2 * pos + 1 := by omega
          rw [e1]; exact Int.le_refl _
      · rw [if_neg hp2]
        refine wpAny_pure ⟨plainId_quiet HF.plain_sift _, ?_⟩
        exact ih false pos ns s (by rw [if_neg Bool.false_ne_true]; omega) hpos I (fun h => absurd h Bool.false_ne_true) (fun _ => Hq.dn_up hd (by omega)) hR
    | false =>
      have hu := hu rfl
      rw [if_neg Bool.false_ne_true] at hm
      rw [if_neg Bool.false_ne_true, pn]
      by_cases h0 : pos > 0
      · have h0' : pos > Int.toNat 0 := h0
        have hq : (pos - 1) / 2 < ns.length := by omega
        dsimp only
        rw [if_pos h0']
        obtain ⟨tx, hx⟩ := at_v r hpos
        obtain ⟨tp, hpp⟩ := at_v r hq
        refine wpAny_bind (wpAny_of_eq (at_eq hx) ?_)
        refine wpAny_bind (wpAny_of_eq (at_eq hpp) ?_)
        rw [if_neg Bool.false_ne_true]
        refine wpAny_bind (wpAny_bind (wpAny_holding (wpAny_bind (PyProof.Rows.lt_int ?_))))
        refine wpAny_truthy_bool ?_
        refine wpAny_bind (wpAny_bind (wpAny_seqItems e rfl (wpAny_pure ?_)))
        rw [if_neg (by simp)]
        refine wpAny_pure ?_
        by_cases hlt : Hq.at0 ns pos < Hq.at0 ns ((pos - 1) / 2)
        · rw [decide_eq_true hlt, if_pos rfl]
          refine wpAny_bind (wpAny_bind (wpAny_bind (wpAny_seqItems e rfl (wpAny_pure ?_))))
          refine wpAny_bind (wpAny_of_eq (at_eq hpp) ?_)
          refine wpAny_bind (wpAny_of_eq (at_eq hx) ?_)
          refine wpAny_updateSeq e rfl ?_ zz (by simp; exact Nat.le_succ_of_le (by simpa using zz))
          refine wpAny_pure ⟨plainId_quiet HF.plain_sift _, ?_⟩
          exact fin ((pos - 1) / 2) pos tp tx false hq hpos (by rw [if_neg Bool.false_ne_true]; omega) (fun h => absurd h Bool.false_ne_true) (fun _ => Hq.up_step hu hpos h0 hlt)
        · rw [decide_eq_false hlt, if_neg Bool.false_ne_true, if_pos (by decide)]
          exact wpAny_pure (hR ns s (List.Perm.refl _) (Hq.up_end hu fun _ => by omega) I)
      · dsimp only
        rw [if_neg (show ¬ pos > Int.toNat 0 from h0), if_pos (by decide)]
        exact wpAny_pure (hR ns s (List.Perm.refl _) (Hq.up_end hu fun h => absurd h h0) I)
def rHpop : List V → Hp → VK → Prop := fun vs H Q => ∃ (l : Addr) (ns : List Int), vs = [.ref l] ∧ H l = some (.lst (ns.map V.int)) ∧ Hq.Ord ns ∧ 0 < ns.length ∧
  ∀ ns', (Hq.at0 ns 0 :: ns').Perm ns → Hq.Ord ns' → Q (.int (Hq.at0 ns 0)) (upd H l (.lst (ns'.map V.int)))
def rHpush : List V → Hp → VK → Prop := fun vs H Q => ∃ (l : Addr) (ns : List Int) (x : Int), vs = [.ref l, .int x] ∧ H l = some (.lst (ns.map V.int)) ∧ Hq.Ord ns ∧ ns.length < sizeLine ∧
  ∀ ns', ns'.Perm (x :: ns) → Hq.Ord ns' → Q .non (upd H l (.lst (ns'.map V.int)))
theorem upd_self {H : Hp} {l : Addr} {o : HO} (h : H l = some o) : upd H l o = H := by
  funext b
  unfold upd
  split
  · rename_i e; rw [e, h]
  · rfl
theorem cr_heappush : CallR X (.builtin "_heapq.heappush") rHpush := by
  intro pins s σ H vs us Q I r h
  obtain ⟨l, ns, x, rfl, hH, o, hz, q⟩ := h
  obtain ⟨_, _, rfl, r1, r2⟩ := vals2 r
  cases r1
  obtain ⟨t, rfl⟩ := r2
  obtain ⟨z, its, n, rr, hl, e⟩ := I.lstM hH
  have hsz : its.toArray.size = ns.length := by rw [List.size_toArray, ← hl, List.length_map]
  refine call_function_tree HF.kind_push HF.plain_push HF.entry_push (HF.args_push _ _) ?_
  unfold Builtin.«_heapq.heappush»
  refine wpAny_bind (wpAny_bind (wpAny_of_eq rfl (wpAny_bind (wpAny_of_eq rfl ?_))))
  refine wpAny_bind (wpAny_bind (wpAny_isInstance (T := "list") (b := true) ⟨_, e, rfl⟩ rfl ?_))
  refine wpAny_pure (wpAny_pure ?_)
  refine wpAny_bind (wpAny_updateSeq e rfl ?_ (by rw [hsz]; omega) (by simp; rw [← hl, List.length_map]; omega))
  have I2 := I.lset (f := fun xs => xs.push (.int x t)) (t' := s.toks) hH e (its' := its ++ [.int x t]) (ys := (ns ++ [x]).map V.int) (by simp) (by rw [List.map_append]; exact rr.append (.cons ⟨_, rfl⟩ .nil)) (by
    rw [List.length_map, List.length_append, List.length_singleton]; omega)
  have e2 := PySem.IsL.update e (fun xs => xs.push (.int x t))
  refine wpAny_bind (wpAny_bind (wpAny_seqItems e2 rfl (wpAny_pure ?_)))
  refine wpAny_pure ⟨plainId_quiet HF.plain_sift _, ?_⟩
  have ez : ((its.toArray.push (.int x t)).size - 1) = ns.length := by rw [Array.size_push, hsz]; rfl
  show codeAny _ _ (.builtin "_heapq.heapify.sift" ⟨[.ref l, .bool false, .bool false, rawInt ((its.toArray.push (.int x t)).size - 1 : Nat), rawInt 0, .none, rawInt (-1)], []⟩) _ _
  rw [ez]
  refine sift_run (ns.length + 1) false ns.length (ns ++ [x]) _ (by rw [if_neg Bool.false_ne_true]; omega) (by simp) I2 (fun h => absurd h Bool.false_ne_true) (fun _ => Hq.push_up o) fun ns' s' p o' I' => ?_
  exact ⟨.non, _, I', rfl, q ns' (p.trans (List.perm_append_comm (l₁ := ns) (l₂ := [x]))) o'⟩
theorem cr_heappop : CallR X (.builtin "_heapq.heappop") rHpop := by
  intro pins s σ H vs us Q I r h
  obtain ⟨l, ns, rfl, hH, o, h0, q⟩ := h
  obtain rfl := Vals.ref1 r
  obtain ⟨z, its, n, rr, hl, e⟩ := I.lstM hH
  rw [List.length_map] at z
  have hsz : its.toArray.size = ns.length := by rw [List.size_toArray, ← hl, List.length_map]
  refine call_function_tree HF.kind_pop HF.plain_pop HF.entry_pop (HF.args_pop _) ?_
  unfold Builtin.«_heapq.heappop»
  refine wpAny_bind (wpAny_bind (wpAny_of_eq rfl ?_))
  refine wpAny_bind (wpAny_bind (wpAny_isInstance (T := "list") (b := true) ⟨_, e, rfl⟩ rfl ?_))
  refine wpAny_pure (wpAny_pure ?_)
  refine wpAny_bind (wpAny_bind (wpAny_seqItems e rfl (wpAny_pure ?_)))
  obtain ⟨tl, hlast⟩ := at_v (i := ns.length - 1) rr (by omega)
  have hb : its.toArray.back? = some (.int (Hq.at0 ns (ns.length - 1)) tl) := by rw [← hlast, ← hsz]; rfl
  rw [hb]
  have hdl : (ns.dropLast.map V.int).length ≤ sizeLine := by rw [List.length_map, List.length_dropLast]; omega
  have edl : its.toArray.pop = its.dropLast.toArray := by simp
  have I2 := I.lset (f := fun xs => xs.pop) (t' := s.toks) hH e (its' := its.dropLast) (ys := ns.dropLast.map V.int) edl (by rw [List.map_dropLast]; exact rr.dropLast) hdl
  have e2 := PySem.IsL.update e (fun xs => xs.pop)
  refine wpAny_bind (wpAny_updateSeq e rfl ?_ (by rw [hsz]; omega) (by simp; rw [← hl, List.length_map]; omega))
  by_cases h1 : its.toArray.size = 1
  · rw [if_pos (by rw [h1]; rfl)]
    have l1 : ns.length = 1 := by rw [← hsz]; exact h1
    match ns, l1 with
    | [y], _ => exact wpAny_pure ⟨.int y, _, I2, ⟨_, rfl⟩, q [] (List.Perm.refl _) (fun i _ h => absurd h (Nat.not_lt_zero _))⟩
  · rw [if_neg (by simpa using h1)]
    have l2 : 2 ≤ ns.length := by omega
    obtain ⟨tf, hf⟩ := at_v (i := 0) rr h0
    refine wpAny_bind (wpAny_of_eq (at_eq hf) ?_)
    have I3 := I2.lset (f := fun xs => xs.setIfInBounds 0 (.int (Hq.at0 ns (ns.length - 1)) tl)) (t' := s.toks) upd_same (by rw [edl] at e2; exact e2) (its' := its.dropLast.set 0 (.int (Hq.at0 ns (ns.length - 1)) tl))
      (ys := (ns.dropLast.set 0 (Hq.at0 ns (ns.length - 1))).map V.int) (by simp) (by rw [List.map_set, List.map_dropLast]; exact Vals.set (x := V.int _) (u := .int _ tl) ⟨_, rfl⟩ _ rr.dropLast) (by
        rw [List.length_map, List.length_set]; rw [List.length_map] at hdl; exact hdl)
    rw [upd_upd] at I3
    refine wpAny_bind (wpAny_updateSeq e2 rfl ?_ (by simp; rw [← hl, List.length_map]; omega) (by simp; rw [← hl, List.length_map]; omega))
    refine wpAny_pure ⟨plainId_quiet HF.plain_sift _, ?_⟩
    have hlen : (ns.dropLast.set 0 (Hq.at0 ns (ns.length - 1))).length = ns.length - 1 := by rw [List.length_set, List.length_dropLast]
    refine sift_run (res := .int (Hq.at0 ns 0) tf) (2 * ns.length + 1) true 0 _ _ (by rw [if_pos rfl, hlen]; omega) (by rw [hlen]; omega) I3 (fun _ => Hq.pop_dn o l2) (fun h => absurd h (by decide)) fun ns' s' p o' I' => ?_
    refine ⟨.int (Hq.at0 ns 0), _, I', ⟨_, rfl⟩, q ns' ?_ o'⟩
    match ns, l2 with
    | y :: r, l2 =>
      have hr : r ≠ [] := by intro h; rw [h] at l2; simp at l2
      have ed : (y :: r).dropLast = y :: r.dropLast := by
        cases r with
        | nil => exact absurd rfl hr
        | cons _ _ => rfl
      have el : Hq.at0 (y :: r) ((y :: r).length - 1) = r.getLast hr := by
        unfold Hq.at0
        rw [List.getD_eq_getElem?_getD, List.length_cons, Nat.add_sub_cancel, List.getLast_eq_getElem]
        have : 0 < r.length := List.length_pos_iff.mpr hr
        obtain ⟨k, hk⟩ : ∃ k, r.length = k + 1 := ⟨r.length - 1, by omega⟩
        simp [hk]
      rw [ed, el] at p
      have e3 : (y :: r).Perm (y :: (r.getLast hr :: r.dropLast)) := by
        refine List.Perm.cons y ?_
        have : r.Perm (r.dropLast ++ [r.getLast hr]) := by rw [List.dropLast_concat_getLast hr]
        exact this.trans List.perm_append_comm
      exact (List.Perm.cons y (p.trans (by simp))).trans e3.symm
end
end My

namespace My
open PySem PySem.Spec PyProof.Rows L2
section
variable {X : Cx}
/-- sorted(d), d a dict of int keys, any number of them -/
def rSortedDA : List V → Hp → VK → Prop := fun xs H Q => ∃ (a : Addr) (kvs : List (Key × V)) (ks : List Int), xs = [.ref a] ∧ Rd H a (.dK kvs) ∧ kvs.map (·.1) = ks.map Sum.inl ∧
    ∀ (ys : List Int) (p : Addr), ys.Perm ks → ys.Pairwise (· ≤ ·) → H p = none → Q (.ref p) (upd H p (.lst (ys.map V.int)))
theorem call_sortedDA (hcalm : X.calm = true) : CallR X (.builtin "sorted") rSortedDA := by
  intro pins s σ H xs us Q I r q
  obtain ⟨a, kvs, ks, ex, hd, hks, q⟩ := q
  subst ex
  obtain ⟨u, eu, rx⟩ := vals1 r
  subst eu
  cases rx
  obtain ⟨z, lo, vs, rel, dd⟩ := dk_rd I.hok hd
  obtain ⟨ep, hat⟩ := dd.dictAt
  have hkeys : vs.map (·.1) = ks.map Sum.inl := rel.keys.symm.trans hks
  have hl : vs.length = ks.length := by simpa using congrArg List.length hkeys
  have hl2 : kvs.length = ks.length := by simpa using congrArg List.length hks
  have h16 : vs.length ≤ sizeLine := by rw [hl, ← hl2]; exact z
  refine Calls.call_function_entry PyProof.Rows.kind_sorted PyProof.Rows.plain_sorted PyProof.Rows.entry_sorted (PyProof.Rows.args_sorted1 _) ?_
  unfold Builtin.«sorted»
  refine wpAny_bind (m := checkCount "sorted" 1 1 _) (wpAny_pure ?_)
  refine wpAny_bind (PySem.W.kdu_collect (A := X.A.in1) (PySem.W.kdl_dict (knd := mixKind X.prog X.w) (kvs := vs) (ep := ep) lo) (I.ok.hd hcalm) hat h16 fun h' tk acc hk hacc => ?_)
  have hal : acc.toList.length = ks.length := by rw [Array.length_toList, hacc.1, hl]
  have hS : IntsAre acc.toList ks := ints_each hal fun j v e => by
    obtain ⟨k, x, e1, e2⟩ := hacc.2 j v (by rw [← Array.getElem?_toList]; exact e)
    have e3 : (ks.map (Sum.inl : Int → Key))[j]? = some k := by rw [← hkeys, List.getElem?_map, e1]; rfl
    rw [List.getElem?_map] at e3
    cases e4 : ks[j]? with
    | none => rw [e4] at e3; cases e3
    | some y =>
      rw [e4] at e3
      cases e3
      rcases keyIs_shape (show keyIs (Sum.inl y) v = true from e2) with ⟨i, t, ek, ev⟩ | ⟨z, t, ek, ev⟩ <;> cases ek
      exact ⟨y, t, rfl, ev⟩
  have I1 : Inv X pins σ H { s with heap := h', toks := tk } := I.kept hk
  have hz : acc.toList.length ≤ sizeLine := by rw [hal, ← hl]; exact h16
  refine wpAny_bind (wpAny_newList ?_ hz)
  have hoL : (h'.push (seqObj "list" acc.toList.toArray 0)).get? h'.objs.size = some (seqObj "list" acc.toList.toArray 0) := Heap.get?_push_size _ rfl
  show wpAny _ _ _ _ _ { s with heap := h'.push (seqObj "list" acc.toList.toArray 0), toks := tk }
  refine wpAny_bind (wpAny_holding (wpAny_call_entry PyProof.Rows.slot_list_sort ⟨_, hoL, rfl⟩ PyProof.Rows.entry_list_sort
    (SrtO.list_sort_ord (s := { s with heap := h'.push (seqObj "list" acc.toList.toArray 0), toks := tk }) SrtO.swo_int hoL hz (fun h2 => SrtO.ints_sortable hS h2) fun out o1 o2 => ⟨_, rfl, ?_⟩) (PyProof.Rows.args_list_sort _)))
  obtain ⟨g1, g2, g3⟩ := SrtO.ints_out hS o1 o2
  obtain ⟨e', he'⟩ := PyProof.Rows.sortedHeap_at (vs := acc.toList) (out := out.toArray) hoL
  have hlen : ((out.map SrtO.iv).map V.int).length ≤ sizeLine := by
    rw [List.length_map, g2.length_eq, ← hl]; exact h16
  refine wpAny_pure ⟨_, rfl, .ref h'.objs.size, upd H h'.objs.size (.lst ((out.map SrtO.iv).map V.int)), I1.laid (t' := tk) (fun b u e => ?_) (Nat.le_refl _)
    ⟨hlen, out, e', vals_of_ints g1, he'⟩, rfl, q _ _ g2 g3 (I1.hok.fresh (Nat.le_refl _))⟩
  have e : h'.get? b = some u := e
  have hb : b < h'.objs.size := Heap.lt_size e
  rw [PyProof.Rows.sortedHeap_old (Nat.ne_of_lt hb) (by rw [size_push']; exact Nat.lt_succ_of_lt hb)]
  exact Heap.get?_push_of_some _ e
/-- xs.count(b), xs a list of truth values -/
def eqb (c : Bool) (v : Value) : Bool := match v with
  | .bool b => b == c
  | _ => false
theorem bools_of : ∀ {us : List Value} {bs : List Bool}, Vals (bs.map V.bl) us → us = bs.map Value.bool
  | _, [], .nil => rfl
  | _, b :: bs, .cons r t => by
    obtain rfl := (show _ = Value.bool b from r)
    rw [bools_of t]; rfl
def rCntB (K : PySem.W.Frag) : V → List V → Hp → VK → Prop := fun x xs H Q => ∃ (p : Addr) (bs : List Bool) (c : Bool), x = .ref p ∧ xs = [.bl c] ∧ SqL K H p (bs.map V.bl) ∧ Q (.int (bs.count c : Nat)) H
theorem mt_bcount : MtR X "list.count" (rCntB X.K) := by
  intro pins s σ H x xs v us Q I rx rxs h
  obtain ⟨p, bs, c, rfl, rfl, hs, q⟩ := h
  cases rx
  obtain ⟨u, rfl, ru⟩ := rxs.one
  obtain rfl := (show u = Value.bool c from ru)
  obtain ⟨its, rv, ⟨⟨cls, dd, data, sl⟩, n, ho, hc, hdn, hd⟩, hlen⟩ := I.list hs
  simp only at hc hd
  subst hc hd
  have eb := bools_of rv
  refine call_meets PySem.F.slot_list_count ⟨_, ho, rfl⟩ PySem.F.entry_list_count (PySem.F.args_list_count_2 _ _)
    (SeqAt.list_countAt p its.toArray n dd sl (.bool c) (eqb c)) ⟨ho, fun y hy => ?_, ?_⟩
  · have hy' : y ∈ its := by simpa using hy
    rw [eb] at hy'
    obtain ⟨b, _, rfl⟩ := List.mem_map.mp hy'
    exact SeqAt.EqAt.bool_bool b c
  · have ec : its.toArray.toList.countP (eqb c) = bs.count c := by
      show its.countP (eqb c) = bs.count c
      rw [eb, List.countP_map]
      rfl
    refine ⟨.int (bs.count c : Nat), H, I.tok _, ⟨s.toks, ?_⟩, q⟩
    show Value.int ((its.toArray.toList.countP (eqb c) : Nat) : Int) s.toks = Value.int ((bs.count c : Nat) : Int) s.toks
    rw [ec]
end
end My

namespace My
open PySem PySem.Spec PyProof.Rows L2
/-- the key that a key function gave: a pair (two) or a number -/
def KW (two : Bool) (H : Hp) (v : V) (k : Int × Int) : Prop := if two = true then ∃ t, v = .ref t ∧ H t = some (.tup [.int k.1, .int k.2]) else v = .int k.1 ∧ k.2 = 0
theorem KW.same {two : Bool} {H H' : Hp} {v : V} {k : Int × Int} (h : KW two H v k) (s : Same H H') : KW two H' v k := by
  cases two with
  | true => obtain ⟨t, e, ht⟩ := h; exact ⟨t, e, s _ _ ht⟩
  | false => exact h
/-- a call from within a built-in -/
def KCall (X : Cx) (A : Around) (f : Addr) (sp : Sp) : Prop := ∀ (pins : List (Addr × Obj)) (s : Shared) (σ : L2.St) (H : Hp) (us : List Value) (vs : List V) (Q : VK), Inv X pins σ H s → Vals vs us → sp vs H Q E0 →
  wpAny (model X.prog X.w) A (call (.ref f) us) (EP X pins σ Q) (fun _ _ => False) s
theorem kcall_of {X : Cx} {A : Around} {k : Nat} {f : Addr} {fd : FuncData} {ps : List Str} {sp : Sp} (F : FnOk X.prog X.w X.K X.mg X.base CX0 k f fd ps sp) (hr : Room k A) (hb : Binds X.K fd ps [])
    (he : ∀ {s : Shared} {H : Hp}, Env0 X.prog X.w X.K X.mg X.base X.A X.stack s H → Env0 X.prog X.w X.K X.mg X.base A X.stack s H) : KCall X A f sp := by
  intro pins s σ H us vs Q I r h
  have hl : us.length = ps.length := by rw [← r.length]; exact F.len _ _ _ _ h
  have b := hb s us I.kIn (by rw [List.append_nil]; exact hl)
  rw [List.append_nil] at b
  refine wpAny_call (codeAny_mono (F.run A X.stack s H ⟨us, []⟩ us vs Q E0 hr (he I.env0) b r h) fun r s' hq => ?_)
  cases r with
  | error e => exact hq
  | ok fl =>
    cases fl with
    | ret u => exact I.after hq
    | next => exact hq
    | brk => exact hq
    | cont => exact hq
/-- what is asked of the key function at the items -/
def KeyOf (two : Bool) (sp : Sp) (H : Hp) (xs : List V) (kd : V → Int × Int) : Prop := ∀ x ∈ xs, (∃ b, x = V.ref b) ∧ ∀ (H2 : Hp) (Q2 : VK), Same H H2 → (∀ v H3, Same H2 H3 → KW two H3 v (kd x) → Q2 v H3) → sp [x] H2 Q2 E0
def keyLe (kd : V → Int × Int) (x y : V) : Prop := SrtO.lexB (kd y) (kd x) = false
def rSortKey (K : PySem.W.Frag) (two : Bool) (sp : Addr → Sp) : List V → List V → Hp → VK → Prop := fun vs zs H Q => ∃ (a f : Addr) (xs : List V) (kd : V → Int × Int), vs = [.ref a] ∧ zs = [.ref f] ∧ SqL K H a xs ∧ KeyOf two (sp f) H xs kd ∧
  ∀ ys D H', Same H H' → H D = none → H' D = some (.lst ys) → ys.Perm xs → ys.Pairwise (keyLe kd) → Q (.ref D) H'
/-- the numbers of a pair that stands in the heap -/
noncomputable def pairK (h : Heap) (u : Value) : Int × Int := by
  classical exact if e : ∃ k : Int × Int, Srt.IsPair h u k.1 k.2 then Classical.choose e else (0, 0)
theorem isPair_inj {h : Heap} {u : Value} {x y x' y' : Int} (p : Srt.IsPair h u x y) (q : Srt.IsPair h u x' y') : x = x' ∧ y = y' := by
  obtain ⟨a, o, t, v, n, rfl, ho, hc, hd⟩ := p
  obtain ⟨a', o', t', v', n', e, ho', hc', hd'⟩ := q
  cases e
  rw [ho] at ho'
  cases ho'
  rw [hd] at hd'
  injection hd' with e1 e2
  simp only [Array.mk.injEq, List.cons.injEq, Value.int.injEq] at e1
  exact ⟨e1.1.1, e1.2.1.1⟩
theorem pairK_of {h : Heap} {u : Value} {k : Int × Int} (p : Srt.IsPair h u k.1 k.2) : pairK h u = k := by
  unfold pairK
  have e : ∃ k : Int × Int, Srt.IsPair h u k.1 k.2 := ⟨k, p⟩
  rw [dif_pos e]
  obtain ⟨a, b⟩ := isPair_inj (Classical.choose_spec e) p
  exact Prod.ext a b
theorem isPair_at {X : Cx} {pins : List (Addr × Obj)} {σ : L2.St} {H : Hp} {s : Shared} (I : Inv X pins σ H s) {t : Addr} {x y : Int} (ht : H t = some (.tup [.int x, .int y])) : Srt.IsPair s.heap (.ref t) x y := by
  obtain ⟨_, its2, r2, o, ho, hc, n, hd⟩ := I.hok _ _ ht
  obtain ⟨u1, u2, rfl, ⟨t1, rfl⟩, ⟨t2, rfl⟩⟩ := vals2 r2
  exact ⟨t, o, t1, t2, n, rfl, ho, hc, hd⟩
section
variable {X : Cx} {A : Around} {pins : List (Addr × Obj)} {σ : L2.St} {H : Hp} {s : Shared} {E : Value → Shared → Prop}
theorem keys_sortable {two : Bool} {ks : List V} {us : List Value} {kk : Nat → Int × Int} (I : Inv X pins σ H s) (r : Vals ks us) (hk : ∀ (i : Nat) v, ks[i]? = some v → KW two H v (kk i)) :
    ∃ K : Value → Int × Int, (∀ (i : Nat) u, us[i]? = some u → K u = kk i) ∧ (2 ≤ us.length → ∀ a, (∀ o, s.heap.get? a = some o → o.cls ≠ .type "tuple") → SrtO.SortableO X.prog X.w A s a us fun v u => SrtO.lexB (K v) (K u)) := by
  have get : ∀ (i : Nat) u, us[i]? = some u → ∃ v, ks[i]? = some v ∧ RelV v u := fun i u h => by
    have hl := r.length
    have hi : i < us.length := (List.getElem?_eq_some_iff.mp h).1
    obtain ⟨u', h1, h2⟩ := r.get (List.getElem?_eq_getElem (l := ks) (i := i) (by omega))
    rw [h] at h1
    cases h1
    exact ⟨_, List.getElem?_eq_getElem (by omega), h2⟩
  cases two with
  | true =>
    have pr : ∀ (i : Nat) u, us[i]? = some u → Srt.IsPair s.heap u (kk i).1 (kk i).2 := fun i u h => by
      obtain ⟨v, h1, h2⟩ := get i u h
      obtain ⟨t, rfl, ht⟩ := hk i v h1
      obtain rfl : u = Value.ref t := h2
      exact isPair_at I ht
    refine ⟨pairK s.heap, fun i u h => pairK_of (pr i u h), fun h2 a ha => SrtO.pairs_sortableO (k := pairK s.heap) (by omega) (fun v hv => ?_) ha⟩
    obtain ⟨i, hi⟩ := List.mem_iff_getElem?.mp hv
    have p := pr i v hi
    rw [pairK_of p]
    exact p
  | false =>
    have pr : ∀ (i : Nat) u, us[i]? = some u → ∃ t, u = .int (kk i).1 t ∧ (kk i).2 = 0 := fun i u h => by
      obtain ⟨v, h1, h2⟩ := get i u h
      obtain ⟨rfl, h3⟩ := hk i v h1
      obtain ⟨t, rfl⟩ := h2
      exact ⟨t, rfl, h3⟩
    have hI : IntsAre us (us.map SrtO.iv) := SrtO.ints_iv fun v hv => by
      obtain ⟨i, hi⟩ := List.mem_iff_getElem?.mp hv
      obtain ⟨t, e, _⟩ := pr i v hi
      exact ⟨_, t, e⟩
    refine ⟨fun u => (SrtO.iv u, 0), fun i u h => ?_, fun h2 a _ => ?_⟩
    · obtain ⟨t, rfl, e⟩ := pr i u h
      exact Prod.ext rfl e.symm
    · have e : (fun v u => SrtO.lexB ((fun u => (SrtO.iv u, 0)) v) ((fun u => (SrtO.iv u, 0)) u)) = SrtO.ltIv := by
        funext v u
        unfold SrtO.lexB SrtO.ltIv
        dsimp only
        by_cases e : SrtO.iv v = SrtO.iv u
        · rw [if_pos e, e]; simp
        · rw [if_neg e]
      rw [e]
      exact SrtO.ints_sortable hI h2
theorem zip_mem {us its : List Value} {p : Keyed} (h : p ∈ us.zip its) : ∃ i : Nat, us[i]? = some p.1 ∧ its[i]? = some p.2 := by
  obtain ⟨i, hi⟩ := List.mem_iff_getElem?.mp h
  rw [List.getElem?_zip_eq_some] at hi
  exact ⟨i, hi.1, hi.2⟩
theorem srt_end {us its : List Value} {xs : List V} {kd : V → Int × Int} {K : Value → Int × Int} {arr : List Keyed} (r : Vals xs its) (hx : ∀ x ∈ xs, ∃ b, x = V.ref b) (hl : us.length = xs.length) (hK : ∀ (i : Nat) u x, us[i]? = some u → xs[i]? = some x → K u = kd x)
    (hp : arr.Perm (us.zip its)) (hs : SrtO.Srtd (SrtO.lt2 fun v u => SrtO.lexB (K v) (K u)) arr) :
    (arr.map fun p => backV p.2).Perm xs ∧ (arr.map fun p => backV p.2).Pairwise (keyLe kd) ∧ (∀ u ∈ arr.map (·.2), ∃ a, u = Value.ref a) := by
  obtain ⟨e1, e2⟩ := refs_back r hx
  have hl2 : us.length = its.length := by rw [hl]; exact r.length
  have hm : (us.zip its).map (fun p => backV p.2) = xs := by
    have : (us.zip its).map (fun p : Keyed => backV p.2) = ((us.zip its).map (·.2)).map backV := by rw [List.map_map]; rfl
    rw [this, List.map_snd_zip (by omega), ← e1]
  have key : ∀ p ∈ arr, K p.1 = kd (backV p.2) := fun p hpp => by
    obtain ⟨i, h1, h2⟩ := zip_mem (hp.mem_iff.mp hpp)
    refine hK i _ _ h1 ?_
    rw [e1, List.getElem?_map, h2]
    rfl
  refine ⟨?_, ?_, fun u hu => ?_⟩
  · have := hp.map (fun p : Keyed => backV p.2)
    rw [hm] at this
    exact this
  · rw [List.pairwise_map]
    refine List.Pairwise.imp_of_mem (fun {p q} m1 m2 h => ?_) hs
    show SrtO.lexB (kd (backV q.2)) (kd (backV p.2)) = false
    rw [← key p m1, ← key q m2]
    exact h
  · obtain ⟨p, m, rfl⟩ := List.mem_map.mp hu
    obtain ⟨i, _, h2⟩ := zip_mem (hp.mem_iff.mp m)
    exact e2 _ (List.mem_of_getElem? h2)
/-- sorted(l, key=f) -/
theorem sortKey_run {l f : Addr} {xs : List V} {kd : V → Int × Int} {sp : Sp} {two : Bool} {Q : VK} {kw : List (Str × Value)} (KC : KCall X X.A.in1.in1 f sp) (I : Inv X pins σ H s) (hs : SqL X.K H l xs) (ko : KeyOf two sp H xs kd)
    (ha1 : argsOk "sorted" ⟨[.ref l], kw⟩) (ha2 : ∀ x, argsOk "list.sort" ⟨[.ref x], kw⟩) (ht : ∀ x, Builtin.«list.sort» ⟨[.ref x], kw⟩ = ksk_tree x (.ref f) false)
    (q : ∀ ys D H', Same H H' → H D = none → H' D = some (.lst ys) → ys.Perm xs → ys.Pairwise (keyLe kd) → Q (.ref D) H') :
    wpAny (model X.prog X.w) X.A (call (.builtin "sorted") [.ref l] kw) (EP X pins σ Q) X.xe s := by
  obtain ⟨its, r, hpl, hz⟩ := I.list hs
  have hlen := r.length
  have hzi : its.length ≤ sizeLine := by rw [← hlen]; exact hz
  refine call_function_entry_kw kind_sorted plain_sorted entry_sorted ha1 ?_
  unfold Builtin.«sorted»
  refine wpAny_bind (m := checkCount "sorted" 1 1 _) (wpAny_pure ?_)
  refine wpAny_bind (collect_list hpl.isList ?_ hzi)
  refine wpAny_bind (wpAny_newList ?_ hzi)
  -- the list that is sorted stands at a
  obtain ⟨h1, e1⟩ : ∃ h1, h1 = (s.heap.push (seqObj "list" #[] 0)).update s.heap.objs.size (Obj.mapSeq (· ++ its.toArray)) := ⟨_, rfl⟩
  have hsz : h1.objs.size = s.heap.objs.size + 1 := by rw [e1, Heap.size_update, size_push']
  have k1 : ∀ b o, s.heap.get? b = some o → h1.get? b = some o := fun b o qb => by
    rw [e1, Heap.get?_update_ne _ _ _ _ (Nat.ne_of_lt (Heap.lt_size qb))]
    exact Heap.get?_push_of_some _ qb
  show wpAny _ _ _ _ _ { s with heap := (((s.heap.push (seqObj "list" #[] 0)).update s.heap.objs.size (Obj.mapSeq (· ++ its.toArray))).push (seqObj "list" its.toArray 0)) }
  rw [← e1]
  show wpAny _ _ (holding [.ref h1.objs.size] (call (.builtin "list.sort") [.ref h1.objs.size] kw) >>= _) _ _ _
  obtain ⟨a, ea⟩ : ∃ a, a = h1.objs.size := ⟨_, rfl⟩
  rw [← ea]
  have hoL : (h1.push (seqObj "list" its.toArray 0)).get? a = some (seqObj "list" its.toArray 0) := by rw [ea]; exact Heap.get?_push_size _ rfl
  refine wpAny_bind (wpAny_holding (wpAny_call_entry_kw slot_list_sort ⟨_, hoL, rfl⟩ entry_list_sort ?_ (ha2 _)))
  rw [ht]
  unfold ksk_tree
  refine wpAny_bind (listItems_at hoL rfl ?_)
  refine wpAny_bind (listUpdate_at hoL rfl ?_ (by rw [List.size_toArray]; exact hzi) (Nat.zero_le _))
  obtain ⟨ep, ho1⟩ : ∃ ep, ((h1.push (seqObj "list" its.toArray 0)).update a (Obj.mapSeq fun _ => (#[] : Array Value))).get? a = some (seqObj "list" #[] ep) := ⟨_, get?_update_seq hoL fun _ => #[]⟩
  refine wpAny_bind (seqEpoch_at ho1 rfl ?_)
  refine wpAny_bind (wpAny_newTuple ?_ (by show its.length ≤ _; exact hzi))
  refine wpAny_bind (wpAny_newList ?_ (Nat.zero_le _))
  refine wpAny_holding ?_
  -- the heap before the keys are worked out
  obtain ⟨h2, e2⟩ : ∃ h2, h2 = ((h1.push (seqObj "list" its.toArray 0)).update a (Obj.mapSeq fun _ => (#[] : Array Value))).push (seqObj "tuple" its.toArray 0) := ⟨_, rfl⟩
  have k2 : ∀ b o, s.heap.get? b = some o → h2.get? b = some o := fun b o qb => by
    have hb := Heap.lt_size qb
    rw [e2]
    refine Heap.get?_push_of_some _ ?_
    rw [Heap.get?_update_ne _ _ _ _ (Nat.ne_of_lt (Nat.lt_of_lt_of_le hb (by rw [ea, hsz]; exact Nat.le_succ _)))]
    exact Heap.get?_push_of_some _ (k1 b o qb)
  have hs2 : h2.objs.size = a + 2 := by rw [e2, size_push', Heap.size_update, size_push', ← ea]
  have ha2' : h2.get? a = some (seqObj "list" #[] ep) := by rw [e2]; exact Heap.get?_push_of_some _ ho1
  show wpAny _ _ (ksk_rest a (.ref f) false its.toArray ep (.ref (((h1.push (seqObj "list" its.toArray 0)).update a (Obj.mapSeq fun _ => (#[] : Array Value))).push (seqObj "tuple" its.toArray 0)).objs.size)) _ _
    { s with heap := (((h1.push (seqObj "list" its.toArray 0)).update a (Obj.mapSeq fun _ => (#[] : Array Value))).push (seqObj "tuple" its.toArray 0)).push (seqObj "list" #[] 0) }
  rw [← e2]
  have I2 : Inv X pins σ H { s with heap := h2 } := I.kept (t' := s.toks) k2
  have hsa : s.heap.objs.size ≤ a := by omega
  have Ha : H a = none := I.hok.fresh hsa
  have fpa : ∀ H', H' a = none → FpOk X pins H' a := fun H' hn => I.fpOk hsa hn
  have HkS : H h2.objs.size = none := I2.hok.fresh (Nat.le_refl _)
  have I3 := I2.lnew (ys := []) (its := []) (t' := s.toks) .nil (Nat.zero_le _)
  have nak : a ≠ h2.objs.size := by omega
  have Ha3 : upd H h2.objs.size (.lst []) a = none := by rw [upd_ne nak]; exact Ha
  have I4 : Inv X ((a, seqObj "list" #[] ep) :: pins) σ (upd H h2.objs.size (.lst [])) { s with heap := h2.push (seqObj "list" #[] 0) } := I3.pins_of fun p hp => by
    rcases List.mem_cons.mp hp with rfl | hp
    · obtain ⟨_, f2, f3, _, _, _⟩ := fpa _ Ha3
      exact ⟨Heap.get?_push_of_some _ ha2', Ha3, f2, f3, fun v z => nomatch z⟩
    · exact I3.pin p (List.mem_append_right _ hp)
  have S3 : Same H (upd H h2.objs.size (.lst [])) := fun b o qb => by rw [upd_ne (ne_of_none qb HkS)]; exact qb
  generalize h2.objs.size = kS at *
  unfold ksk_rest
  refine wpAny_bind (wpAny_rule ?_)
  rw [List.forIn_toArray]
  refine wpAny_bind (ksk_fold (fun i s' => ∃ H' ks, Inv X ((a, seqObj "list" #[] ep) :: pins) σ H' s' ∧ Same H H' ∧ H' kS = some (.lst ks) ∧ ks.length = i ∧ ∀ (j : Nat) x v, xs[j]? = some x → ks[j]? = some v → KW two H' v (kd x)) its 0 _
    ⟨_, [], I4, S3, upd_same, rfl, fun j x v _ h => by simp at h⟩ ?step ?done)
  case step =>
    rintro j u s' hu ⟨H', ks, I', S', hk', hl', kw'⟩
    rw [Nat.zero_add] at hl' ⊢
    have hj : j < its.length := (List.getElem?_eq_some_iff.mp hu).1
    obtain ⟨u', hu', ru⟩ := r.get (List.getElem?_eq_getElem (l := xs) (i := j) (by omega))
    rw [hu] at hu'
    cases hu'
    have hxj : xs[j]? = some xs[j] := List.getElem?_eq_getElem (by omega)
    generalize xs[j] = x at hxj ru
    have kx := ko x (List.mem_of_getElem? hxj)
    refine wpAny_bind (wpAny_attempt (wpAny_mono (KC _ s' σ H' [u] [x] (fun v H3 => Same H' H3 ∧ KW two H3 v (kd x)) I' (.cons ru .nil) (kx.2 H' _ S' fun v H3 s3 w3 => ⟨s3, w3⟩)) (fun w s'' he => ?_) fun _ _ hF => hF.elim))
    obtain ⟨v, H3, I'', rv, S3', w3⟩ := he
    have hk3 := S3' _ _ hk'
    obtain ⟨z3, its3, n3, r3, hl3, e3⟩ := I''.lstM hk3
    refine wpAny_bind (listUpdate_at e3 rfl ?_ (by rw [List.size_toArray, ← hl3]; exact z3) (by simp; rw [← hl3, hl']; omega))
    have I5 := I''.lset (f := fun ys => ys.push w) (its' := its3 ++ [w]) (ys := ks ++ [v]) (t' := s''.toks) hk3 e3 (by simp) (r3.append (.cons rv .nil)) (by rw [List.length_append, List.length_singleton, hl']; omega)
    have keepT : ∀ v' k', KW two H3 v' k' → KW two (upd H3 kS (.lst (ks ++ [v]))) v' k' := fun v' k' h => by
      cases two with
      | true =>
        obtain ⟨t, e, ht⟩ := h
        refine ⟨t, e, ?_⟩
        rw [upd_ne (ne_of ht hk3 (by intro z; cases z))]
        exact ht
      | false => exact h
    refine wpAny_pure ⟨rfl, _, ks ++ [v], I5, fun b o qb => ?_, upd_same, by rw [List.length_append, List.length_singleton, hl'], fun i x' v' hx' hv' => keepT _ _ ?_⟩
    · have := S3' _ _ (S' _ _ qb)
      rw [upd_ne (ne_of_none qb HkS)]
      exact this
    · by_cases hi : i < ks.length
      · rw [List.getElem?_append_left hi] at hv'
        exact (kw' i x' v' hx' hv').same S3'
      · have hi2 : i < (ks ++ [v]).length := (List.getElem?_eq_some_iff.mp hv').1
        rw [List.length_append, List.length_singleton] at hi2
        have e : i = j := by omega
        subst e
        rw [List.getElem?_append_right (by omega), hl', Nat.sub_self] at hv'
        rw [hxj] at hx'
        cases hx'
        cases hv'
        exact w3
  case done =>
    rintro s' ⟨H', ks, I', S', hk', hl', kw'⟩
    rw [Nat.zero_add] at hl'
    obtain ⟨z3, us, n3, r3, hl3, e3⟩ := I'.lstM hk'
    refine wpAny_bind (listItems_at e3 rfl ?_)
    have hul : us.length = xs.length := by omega
    have pa := I'.pin (a, seqObj "list" #[] ep) (List.mem_append_right _ (.head _))
    obtain ⟨K, hK, hS⟩ := keys_sortable (A := X.A.in1.in1) (two := two) (kk := fun i => kd (xs.getD i .non)) I' r3 fun i v hv => by
      have hi : i < ks.length := (List.getElem?_eq_some_iff.mp hv).1
      have hx := List.getElem?_eq_getElem (l := xs) (i := i) (by omega)
      rw [List.getD_eq_getElem?_getD, hx]
      exact kw' i _ v hx hv
    have hK2 : ∀ (i : Nat) u x, us[i]? = some u → xs[i]? = some x → K u = kd x := fun i u x h1 h2 => by
      rw [hK i u h1, List.getD_eq_getElem?_getD, h2]
      rfl
    have hxr : ∀ x ∈ xs, ∃ b, x = V.ref b := fun x hx => (ko x hx).1
    have ezip : (us.toArray.zip its.toArray).toList = us.zip its := by simp
    have hzs : (us.toArray.zip its.toArray).size = xs.length := by simp; omega
    -- the end, for any sorted arrangement
    have fin : ∀ st : SortSt, SrtO.Srtd (SrtO.lt2 fun v u => SrtO.lexB (K v) (K u)) (arrOf st).toList → (arrOf st).toList.Perm (us.zip its) → failedOf st = none →
        wpAny (model X.prog X.w) X.A.in1.in1 (ksk_tail a false ep (.ref kS) st) (fun fin s' => ∃ v, fin = .done (.ret v) ∧ wpAny (model X.prog X.w) X.A.in1 (ret (.ref a)) (fun fin s' => ∃ v, fin = .done (.ret v) ∧ EP X pins σ Q v s') X.xe s') X.xe s' := by
      intro st hsd hp hf
      obtain ⟨g1, g2, g3⟩ := srt_end r hxr hul hK2 hp hsd
      have hasz : (arrOf st).size = xs.length := by
        have := hp.length_eq
        rw [Array.length_toList, List.length_zip] at this
        omega
      unfold ksk_tail
      dsimp only
      refine wpAny_bind (listUpdate_at e3 rfl ?_ (by rw [List.size_toArray, ← hl3]; exact z3) (Nat.zero_le _))
      refine wpAny_bind (wpAny_letGo ?_)
      have nka : kS ≠ a := fun z => by rw [z, pa.2.1] at hk'; cases hk'
      have ho2 : (s'.heap.update kS (Obj.mapSeq fun _ => (#[] : Array Value))).get? a = some (seqObj "list" #[] ep) := (Heap.get?_update_ne _ _ _ _ (Ne.symm nka)).trans pa.1
      refine wpAny_bind (seqEpoch_at ho2 rfl ?_)
      refine wpAny_bind (listUpdate_at ho2 rfl ?_ (Nat.zero_le _) (by
        show (if false = true then ((arrOf st).map (·.2)).reverse else (arrOf st).map (·.2)).size ≤ sizeLine + 1
        rw [if_neg Bool.false_ne_true, Array.size_map, hasz]
        omega))
      rw [hf]
      simp only [bne_self_eq_false, Bool.false_eq_true, if_false]
      have I6 := (I'.lset (f := fun _ => #[]) (its' := []) (ys := []) (t' := s'.toks) hk' e3 rfl .nil (Nat.zero_le _))
      have I7 : Inv X pins σ (upd H' kS (.lst [])) { s' with heap := s'.heap.update kS (Obj.mapSeq fun _ => (#[] : Array Value)) } := I6.pins_of fun p hp => I6.pin p (List.mem_append_right _ (List.mem_cons_of_mem _ hp))
      have Ha7 : upd H' kS (.lst []) a = none := by rw [upd_ne (Ne.symm nka)]; exact pa.2.1
      obtain ⟨e8, ho8⟩ : ∃ e8, ((s'.heap.update kS (Obj.mapSeq fun _ => (#[] : Array Value))).update a (Obj.mapSeq fun _ => (arrOf st).map (·.2))).get? a = some (seqObj "list" ((arrOf st).map (·.2)) e8) := ⟨_, get?_update_seq ho2 fun _ => (arrOf st).map (·.2)⟩
      have I8 := I7.take (o := .lst ((arrOf st).toList.map fun p => backV p.2)) (t' := s'.toks) (fun b ob hb eb => (Heap.get?_update_ne _ _ _ _ hb).trans eb) (fpa _ Ha7)
        ⟨by rw [List.length_map, Array.length_toList, hasz]; exact hz, (arrOf st).toList.map (·.2), e8, by
          have := vals_back g3
          rw [List.map_map] at this
          exact this, by rw [ho8, ← Array.toList_map, Array.toArray_toList]⟩
      refine wpAny_pure ⟨_, rfl, wpAny_pure ⟨_, rfl, .ref a, _, I8, rfl, q _ a _ (fun b o qb => ?_) Ha upd_same g1 g2⟩⟩
      rw [upd_ne (ne_of_none qb Ha), upd_ne (ne_of_none qb HkS)]
      exact S' _ _ qb
    unfold ksk_end
    dsimp only
    rw [if_neg Bool.false_ne_true, if_neg Bool.false_ne_true]
    have hisz : its.toArray.size = xs.length := by rw [List.size_toArray]; omega
    by_cases h2 : its.toArray.size < 2
    · rw [if_pos h2, if_pos h2]
      refine wpAny_bind (wpAny_pure ?_)
      rw [StateT.run_pure]
      refine wpAny_bind (wpAny_pure ?_)
      refine fin (SortSt.mk' general' (us.toArray.zip its.toArray) #[] 7 none) ?_ (by show (us.toArray.zip its.toArray).toList.Perm _; rw [ezip]) rfl
      show SrtO.Srtd _ (us.toArray.zip its.toArray).toList
      have hzl : (us.toArray.zip its.toArray).toList.length < 2 := by rw [Array.length_toList, hzs]; omega
      revert hzl
      generalize (us.toArray.zip its.toArray).toList = zl
      intro hzl
      match zl, hzl with
      | [], _ => exact List.Pairwise.nil
      | [v], _ => exact List.pairwise_singleton _ _
      | _ :: _ :: w, h => exact absurd h (by rw [List.length_cons, List.length_cons]; omega)
    · rw [if_neg h2, if_neg h2]
      obtain ⟨κ, hkind, hT⟩ := hS (by omega) a (fun o eo => by
        rw [pa.1] at eo
        cases eo
        intro c
        exact absurd (Value.type.inj c) (by decide)) s'.heap (fun _ _ _ e => e)
      refine wpAny_bind (hkind _ _ ?_)
      have hall : SrtO.AllL (fun p : Keyed => p.1 ∈ us) (us.toArray.zip its.toArray).toList := fun p hm => by
        rw [ezip] at hm
        obtain ⟨i, h1, _⟩ := zip_mem hm
        exact List.mem_of_getElem? h1
      refine wpAny_bind (wpAny_mono (SrtO.wpS_sortO (st0 := SortSt.mk' κ (us.toArray.zip its.toArray) #[] 7 none)
        (Q := fun _ st' => SrtO.Srtd (SrtO.lt2 fun v u => SrtO.lexB (K v) (K u)) (arrOf st').toList ∧ (arrOf st').toList.Perm (us.zip its) ∧ failedOf st' = none) (SrtO.swo2 (SrtO.swo_lex K)) hT rfl hall rfl rfl fun st' a1 a2 a3 => ⟨a1, by rw [← ezip]; exact a2.perm, a3⟩) ?_ fun _ _ e => e)
      rintro ⟨⟨⟩, st'⟩ s'' ⟨rfl, hp1, hp2, hf⟩
      exact fin st' hp1 hp2 hf
end
end My

namespace My
open PySem PySem.Spec PyProof.Rows L2
section
variable {X : Cx} {A : Around} {pins : List (Addr × Obj)} {σ : L2.St} {H : Hp} {s : Shared} {E : Value → Shared → Prop}
/-- two keys are compared -/
theorem kw_lt {two : Bool} {v v' : V} {u u' : Value} {k k' : Int × Int} {Q : Value → Shared → Prop} (I : Inv X pins σ H s) (r : RelV v u) (r' : RelV v' u') (h : KW two H v k) (h' : KW two H v' k') (hu : A.units < cLine) (q : Q (.bool (SrtO.lexB k k')) s) :
    wpAny (model X.prog X.w) A (compareOp .Lt u u') Q E s := by
  cases two with
  | true =>
    obtain ⟨t, rfl, ht⟩ := h
    obtain ⟨t', rfl, ht'⟩ := h'
    obtain rfl := (show u = Value.ref t from r)
    obtain rfl := (show u' = Value.ref t' from r')
    obtain ⟨its, r1, p1, _⟩ := I.tuple (SqT.of ht)
    obtain ⟨its2, r2, p2, _⟩ := I.tuple (SqT.of ht')
    refine HT.lt_tupInts (ns := [k.1, k.2]) (ms := [k'.1, k'.2]) p1 p2 (intsAre_of r1) (intsAre_of r2) hu ?_
    have e : HT.lexLt [k.1, k.2] [k'.1, k'.2] = SrtO.lexB k k' := by
      unfold SrtO.lexB
      rw [HT.lexLt_cons, HT.lexLt_cons, HT.lexLt_nil_nil]
      by_cases e1 : k.1 = k'.1
      · rw [if_pos e1, if_pos e1]
        by_cases e2 : k.2 = k'.2
        · rw [if_pos e2, e2]; simp
        · rw [if_neg e2]
      · rw [if_neg e1, if_neg e1]
    rw [e]
    exact q
  | false =>
    obtain ⟨rfl, h2⟩ := h
    obtain ⟨rfl, h2'⟩ := h'
    obtain ⟨t, rfl⟩ := r
    obtain ⟨t', rfl⟩ := r'
    refine PyProof.Rows.lt_int ?_
    have e : decide (k.1 < k'.1) = SrtO.lexB k k' := by
      unfold SrtO.lexB
      by_cases e1 : k.1 = k'.1
      · rw [if_pos e1, e1, h2, h2']; simp
      · rw [if_neg e1]
    rw [e]
    exact q
/-- the best so far -/
def BestAt (two : Bool) (H : Hp) (xs : List V) (kd : V → Int × Int) (S : Addr) (j : Nat) : Prop :=
  if j = 0 then H S = some (.lst []) else ∃ x v, H S = some (.lst [x, v]) ∧ x ∈ xs ∧ KW two H v (kd x) ∧ ∀ (i : Nat) y, i < j → xs[i]? = some y → keyLe kd x y
theorem keyLe_refl {kd : V → Int × Int} (x : V) : keyLe kd x x := SrtO.lexB_no.mpr (by omega)
theorem keyLe_trans {kd : V → Int × Int} {x y z : V} (h : keyLe kd x y) (h' : keyLe kd y z) : keyLe kd x z := by
  have a := SrtO.lexB_no.mp h
  have b := SrtO.lexB_no.mp h'
  exact SrtO.lexB_no.mpr (by omega)
theorem minKey_loop {it S l f : Addr} {xs : List V} {kd : V → Int × Int} {sp : Sp} {two : Bool} {R : Result → Shared → Prop} {H0 : Hp} (KC : KCall X X.A.in1 f sp) (hs : SqL X.K H0 l xs) (ko : KeyOf two sp H0 xs kd) (hx : 0 < xs.length) (nS : H0 S = none) (hh : X.A.handled = none) (hu : X.A.units + 1 < cLine)
    (fpi : ∀ H', H' it = none → FpOk X pins H' it)
    (hR : ∀ x H' s', Inv X pins σ H' s' → Same H0 H' → x ∈ xs → (∀ y ∈ xs, keyLe kd x y) → ∀ u, RelV x u → R (.ok (.ret u)) s') :
    ∀ (k j : Nat) (s : Shared) (H : Hp), xs.length - j = k → j ≤ xs.length → Inv X pins σ H s → Same H0 H → s.heap.IsListIter it l j → H it = none → BestAt two H xs kd S j →
      codeAny (model X.prog X.w) X.A (.builtin "min.loop" ⟨[.ref it, .ref f, .ref S], []⟩) R s := by
  have hname : (toString "min" ++ toString ".loop" : String) = "min.loop" := by decide
  intro k
  induction k with
  | zero =>
    intro j s H hk hj I S0 hit hni hb
    have hj2 : j = xs.length := by omega
    obtain ⟨its, r, hpl, hz⟩ := I.list (S0.seq hs)
    unfold BestAt at hb
    rw [if_neg (by omega)] at hb
    obtain ⟨x, v, hS, hxm, hkw, hbest⟩ := hb
    obtain ⟨z3, us, n3, r3, hl3, e3⟩ := I.lstM hS
    obtain ⟨u1, u2, rfl, ru1, ru2⟩ := vals2 r3
    refine codeAny_builtin F.entry_min_loop ?_
    rw [Around.under_plainId F.plain_min_loop _]
    refine wpAny_bind (wpAny_seqItems e3 rfl ?_)
    refine wpAny_bind (m := tryCatch (pyNext (.ref it)) _) (wpAny_tryCatch ?_)
    obtain ⟨f0, f1, f2, f3, f4, f5⟩ := fpi H hni
    refine wpAny_pyNext_list_end (A := X.A.in1) hh hit hpl.isList (by simp; rw [hj2, r.length]; exact Nat.le_refl _) fun h' eb => ?_
    have I1 : Inv X pins σ H { s with heap := h' } := I.turned (t' := s.toks) (fun b o hb e => eb b o hb e) f0 f1 f3 f4 f5
    obtain ⟨z4, us4, n4, r4, hl4, e4⟩ := I1.lstM hS
    refine wpAny_bind (m := updateSeq S _) ?_
    refine wpAny_updateSeq e4 rfl (wpAny_bind (wpAny_letGo (wpAny_pure ?_))) (by rw [List.size_toArray, ← hl4]; exact z4) (by simp)
    have I5 := I1.lset (f := fun _ => #[]) (its' := []) (ys := []) (t' := s.toks) hS e4 rfl .nil (Nat.zero_le _)
    refine hR x _ _ I5 (fun b o q => ?_) hxm (fun y hy => ?_) _ ru1
    · rw [upd_ne (ne_of_none q nS)]; exact S0 _ _ q
    · obtain ⟨i, hi⟩ := List.mem_iff_getElem?.mp hy
      have := (List.getElem?_eq_some_iff.mp hi).1
      exact hbest i y (by omega) hi
  | succ k ih =>
    intro j s H hk hj I S0 hit hni hb
    have hlt : j < xs.length := by omega
    obtain ⟨its, r, hpl, hz⟩ := I.list (S0.seq hs)
    obtain ⟨u, hu', ru⟩ := r.get (List.getElem?_eq_getElem (l := xs) (i := j) hlt)
    have hxj : xs[j]? = some xs[j] := List.getElem?_eq_getElem hlt
    generalize xs[j] = x at hxj ru
    have kx := ko x (List.mem_of_getElem? hxj)
    -- what the list at S holds
    obtain ⟨B, hS⟩ : ∃ B, H S = some (.lst B) := by
      unfold BestAt at hb
      split at hb
      · exact ⟨_, hb⟩
      · obtain ⟨x, v, e, _⟩ := hb; exact ⟨_, e⟩
    obtain ⟨z3, us, n3, r3, hl3, e3⟩ := I.lstM hS
    refine codeAny_builtin F.entry_min_loop ?_
    rw [Around.under_plainId F.plain_min_loop _]
    refine wpAny_bind (wpAny_seqItems e3 rfl ?_)
    refine wpAny_bind (m := tryCatch (pyNext (.ref it)) _) (wpAny_tryCatch ?_)
    obtain ⟨f0, f1, f2, f3, f4, f5⟩ := fpi H hni
    refine wpAny_pyNext_list_item (x := u) hit hpl.isList (by simpa using hu') fun h' st' sb => ?_
    have I1 : Inv X pins σ H { s with heap := h' } := I.turned (t' := s.toks) (fun b o hb e => (sb.2 b hb).trans e) f0 f1 f3 f4 f5
    obtain ⟨oi, eoi, coi, doi⟩ := id st'
    have I2 := I1.pinned (fp := [it]) (fun b hb => by rw [List.mem_singleton.mp hb]; exact fpi H hni) (fun b hb => by
      rw [List.mem_singleton.mp hb]
      exact ⟨oi, eoi, fun v z => by rw [doi] at z; cases z⟩)
    refine wpAny_bind (m := tryCatch (holding [u] (call (.ref f) [u])) _) (wpAny_tryCatch (wpAny_holding (wpAny_mono (KC _ _ σ H [u] [x] (fun v H3 => Same H H3 ∧ KW two H3 v (kd x)) I2 (.cons ru .nil) (kx.2 H _ S0 fun v H3 s3 w3 => ⟨s3, w3⟩)) (fun w s'' he => ?_) fun _ _ hF => hF.elim)))
    obtain ⟨v, H3, I3, rv, S3, w3⟩ := he
    have pit := I3.pin (it, oi) (List.mem_append_right _ (List.mem_append_right _ (by
      unfold pinsAt
      refine List.mem_filterMap.mpr ⟨it, List.mem_singleton.mpr rfl, ?_⟩
      show (h'.get? it).map _ = _
      rw [eoi]; rfl)))
    have st3 : s''.heap.IsListIter it l (j + 1) := ⟨oi, pit.1, coi, doi⟩
    have I4 : Inv X pins σ H3 s'' := I3.unpinned
    have S03 : Same H0 H3 := S0.trans S3
    have hS3 := S3 _ _ hS
    obtain ⟨z5, us5, n5, r5, hl5, e5⟩ := I4.lstM hS3
    -- a new best
    have put : BestAt two (upd H3 S (.lst [x, v])) xs kd S (j + 1) → ∀ (W : Sem PySem.Fin) {Q : PySem.Fin → Shared → Prop} {E : Value → Shared → Prop}, True := fun _ _ _ _ => trivial
    have keepT : ∀ v' k', KW two H3 v' k' → KW two (upd H3 S (.lst [x, v])) v' k' := fun v' k' h => by
      cases two with
      | true =>
        obtain ⟨t, e, ht⟩ := h
        refine ⟨t, e, ?_⟩
        rw [upd_ne (ne_of ht hS3 (by intro z; cases z))]
        exact ht
      | false => exact h
    have next : (∀ (i : Nat) y, i < j + 1 → xs[i]? = some y → keyLe kd x y) → codeAny (model X.prog X.w) X.A (.builtin "min.loop" ⟨[.ref it, .ref f, .ref S], []⟩) R { s'' with heap := s''.heap.update S (Obj.mapSeq fun _ => #[u, w]) } := fun hbest => by
      have I6 := I4.lset (f := fun _ => #[u, w]) (its' := [u, w]) (ys := [x, v]) (t' := s''.toks) hS3 e5 rfl (.cons ru (.cons rv .nil)) (by show 2 ≤ sizeLine; decide)
      have nSi : S ≠ it := fun z => by rw [z, pit.2.1] at hS3; cases hS3
      refine ih (j + 1) _ _ (by omega) hlt I6 (fun b o q => by rw [upd_ne (ne_of_none q nS)]; exact S03 _ _ q) ⟨oi, (Heap.get?_update_ne _ _ _ _ (Ne.symm nSi)).trans pit.1, coi, doi⟩ (by rw [upd_ne (Ne.symm nSi)]; exact pit.2.1) ?_
      unfold BestAt
      rw [if_neg (by omega)]
      exact ⟨x, v, upd_same, List.mem_of_getElem? hxj, keepT _ _ w3, hbest⟩
    unfold BestAt at hb
    by_cases hj0 : j = 0
    · rw [if_pos hj0] at hb
      rw [hS] at hb
      cases hb
      cases r3
      refine wpAny_bind (m := updateSeq S _) ?_
      refine wpAny_updateSeq e5 rfl ?_ (by rw [List.size_toArray, ← hl5]; exact z5) (by show 2 ≤ _; decide)
      rw [hname]
      refine wpAny_pure ⟨plainId_quiet F.plain_min_loop _, next fun i y hi hy => ?_⟩
      have : i = j := by omega
      subst this
      rw [hxj] at hy
      cases hy
      exact keyLe_refl _
    · rw [if_neg hj0] at hb
      obtain ⟨xb, vb, eb, hxb, hkb, hbest⟩ := hb
      rw [hS] at eb
      cases eb
      obtain ⟨u1, u2, rfl, ru1, ru2⟩ := vals2 r3
      have hkb3 := hkb.same S3
      refine wpAny_bind (m := tryCatch (holding [u, w] (richCompare .Lt w u2 >>= _)) _) (wpAny_tryCatch (wpAny_holding (wpAny_bind (kw_lt (A := X.A.in1) I4 rv ru2 w3 hkb3 hu ?_))))
      refine wpAny_bind (wpAny_holding (wpAny_truthy_bool ?_))
      refine wpAny_bind (wpAny_letGo (wpAny_pure ?_))
      cases hlx : SrtO.lexB (kd x) (kd xb) with
      | true =>
        simp only [if_true]
        refine wpAny_bind (m := updateSeq S _) ?_
        refine wpAny_updateSeq e5 rfl ?_ (by rw [List.size_toArray, ← hl5]; exact z5) (by show 2 ≤ _; decide)
        refine wpAny_bind (wpAny_letGo ?_)
        rw [hname]
        refine wpAny_pure ⟨plainId_quiet F.plain_min_loop _, next fun i y hi hy => ?_⟩
        by_cases e : i = j
        · subst e
          rw [hxj] at hy
          cases hy
          exact keyLe_refl _
        · have a := hbest i y (by omega) hy
          refine keyLe_trans (y := xb) ?_ a
          have := SrtO.lexB_iff.mp hlx
          exact SrtO.lexB_no.mpr (by omega)
      | false =>
        simp only [Bool.false_eq_true, if_false]
        refine wpAny_bind (wpAny_letGo ?_)
        rw [hname]
        refine wpAny_pure ⟨plainId_quiet F.plain_min_loop _, ih (j + 1) _ _ (by omega) hlt I4 S03 st3 pit.2.1 ?_⟩
        unfold BestAt
        rw [if_neg (by omega)]
        refine ⟨xb, vb, hS3, hxb, hkb3, fun i y hi hy => ?_⟩
        by_cases e : i = j
        · subst e
          rw [hxj] at hy
          cases hy
          exact hlx
        · exact hbest i y (by omega) hy
/-- min(l, key=f) -/
theorem minKey_run {l f : Addr} {xs : List V} {kd : V → Int × Int} {sp : Sp} {two : Bool} {Q : VK} (KC : KCall X X.A.in1 f sp) (I : Inv X pins σ H s) (hs : SqL X.K H l xs) (ko : KeyOf two sp H xs kd) (hx : 0 < xs.length) (hh : X.A.handled = none) (hu : X.A.units + 1 < cLine)
    (q : ∀ x H', Same H H' → x ∈ xs → (∀ y ∈ xs, keyLe kd x y) → Q x H') :
    wpAny (model X.prog X.w) X.A (call (.builtin "min") [.ref l] [(Str.ofString "key", .ref f)]) (EP X pins σ Q) X.xe s := by
  have hname : (toString "min" ++ toString ".loop" : String) = "min.loop" := by decide
  obtain ⟨its, r, hpl, hz⟩ := I.list hs
  refine PyProof.Rows.kmk_tree F.kind_min F.plain_min F.entry_min (PyProof.Rows.kmk_min_key _ _) ?_
  refine wpAny_bind (m := Builtin.Builtins.bindParams "min" ["key", "default"] 0 ⟨[], [(Str.ofString "key", .ref f)]⟩) (wpAny_of_eq (show Builtin.Builtins.bindParams "min" ["key", "default"] 0 ⟨[], [(Str.ofString "key", .ref f)]⟩ = pure [some (.ref f), none] from rfl) ?_)
  refine wpAny_bind (wpAny_pure ?_)
  refine wpAny_bind (wpAny_pyIter_list hpl.isList ?_)
  refine wpAny_bind (wpAny_newObj_type ?_)
  rw [hname]
  have k1 : ∀ b o, s.heap.get? b = some o → (s.heap.push { cls := .type "list_iterator", data := .fields #[.ref l, .int 0 0] }).get? b = some o := fun b o e => Heap.get?_push_of_some _ e
  have I1 : Inv X pins σ H { s with heap := s.heap.push { cls := .type "list_iterator", data := .fields #[.ref l, .int 0 0] } } := I.kept (t' := s.toks) k1
  have hi : H s.heap.objs.size = none := I.hok.fresh (Nat.le_refl _)
  have I2 := I1.lnew (ys := []) (its := []) (t' := s.toks) .nil (Nat.zero_le _)
  have hsz : (s.heap.push { cls := .type "list_iterator", data := .fields #[.ref l, .int 0 0] }).objs.size = s.heap.objs.size + 1 := by rw [Heap.size_push]
  have nS : H (s.heap.push { cls := .type "list_iterator", data := .fields #[.ref l, .int 0 0] }).objs.size = none := I.hok.fresh (by rw [hsz]; exact Nat.le_succ _)
  refine wpAny_pure ⟨plainId_quiet F.plain_min_loop _, minKey_loop (pins := pins) (σ := σ) (xs := xs) (kd := kd) (two := two) (H0 := H) KC hs ko hx nS hh hu (fun H' hn => I.fpOk (Nat.le_refl _) hn) (fun x H' s' I' S' hm hb u ru => ⟨x, H', I', ru, q x H' S' hm hb⟩) _ 0 _ _ rfl (Nat.zero_le _) I2
    (fun b o e => by rw [upd_ne (ne_of_none e nS)]; exact e) ⟨_, Heap.get?_push_of_some _ (Heap.get?_push_size _ rfl), rfl, rfl⟩ (by rw [upd_ne (by rw [hsz]; exact Nat.ne_of_lt (Nat.lt_succ_self _))]; exact hi) ?_⟩
  unfold BestAt
  rw [if_pos rfl]
  exact upd_same
end
end My

namespace My
open PySem PySem.Spec PyProof.Rows L2 LamX NdefX
/-- a lambda's words: its body apart -/
abbrev lamNF (q : Str) (params : Arguments) (scope : Scope) (c' : Addr) : NF := ⟨"<lambda>", q, params, [], scope, [], c'⟩
/-- the object at f is the lambda -/
def LamO (q : Str) (params : Arguments) (scope : Scope) (e : Expr) (f c' : Addr) : HO := .ext fun h => ∃ pm ctv, h.get? f = some (PySem.W.kla_obj "<lambda>" q params e scope [] pm c' ctv)
section
variable {X : Cx} {pins : List (Addr × Obj)} {σ : L2.St} {H : Hp} {s : Shared}
theorem inv_lam {q : Str} {params : Arguments} {scope : Scope} {e : Expr} {c' : Addr} {pm ctv : Value} {t' : Nat} (I : Inv X pins σ H s) :
    Inv X pins σ (upd H s.heap.objs.size (LamO q params scope e s.heap.objs.size c')) { s with heap := s.heap.push (PySem.W.kla_obj "<lambda>" q params e scope [] pm c' ctv), toks := t' } := by
  have g : (s.heap.push (PySem.W.kla_obj "<lambda>" q params e scope [] pm c' ctv)).get? s.heap.objs.size = some (PySem.W.kla_obj "<lambda>" q params e scope [] pm c' ctv) := Heap.get?_push_size _ rfl
  exact I.laid (a := s.heap.objs.size) (fun b u z => Heap.get?_push_of_some _ z) (Nat.le_refl _) ⟨⟨pm, ctv, g⟩, ⟨_, g⟩, fun h1 h2 ⟨p, t, z⟩ st => ⟨p, t, st _ z⟩⟩
theorem lam_make3 {c P : Addr} {q : Str} {params : Arguments} {body : Expr} {scope : Scope} {pos : Pos} {E : Value → Shared → Prop} {Q : Value → Shared → Prop} (I : Inv X pins σ H s) (TB : TabB X.base X.mg c P) (hcode : X.env.code = .ref c) (hq : q = X.env.qual ++ "<lambda>") (hT : TabS H P q)
    (hdef : defaultsOf params X.env = ([], [])) (hnf : ∀ y ∈ scope.names, y.2 ≠ .free) (hcl : cloFrom X.env.cells scope.names [] = [])
    (h : ∀ (f c' : Addr) (H1 : Hp) (s' : Shared), Inv X pins σ H1 s' → ExtN H H1 → TabS H1 P q → H f = none → H1 f = some (LamO q params scope body f c') → H1 c' = some (CodeO c' q) → Q (.ref f) s') :
    wpAny (model X.prog X.w) X.A (eval (.Lambda params body scope pos) X.env) Q E s := by
  have hfree : ∀ y ∈ scope.names, y.2 = .free → ∃ c, X.env.cells.lookup y.1 = some c := fun y hy e => absurd e (hnf y hy)
  obtain ⟨ps, hP, ht, ha⟩ := hT
  refine PySem.W.kla_eval hdef ?_
  rw [← hq]
  have bP : s.heap.BuiltinsAt X.mg P := TB.bm.keeps I.bk
  have hP' : s.heap.get? P = some { cls := .none, data := .fields ps } := I.hok P _ hP
  have ck : closureFor scope X.env = pure [] := by rw [closure_ok hfree, hcl]
  rcases hc : codeAmong pos ps.toList with _ | cv
  · refine PySem.W.kla_makeFunction (mg := X.mg) (c := c) (P := P) (ps := ps) ck I.ok.glob (I.mod.glob.keeps I.bk) hcode (TB.code.keeps I.bk) hP' ht hc TB.gP bP fun c' ctv h' tk hx hge hlt hrec htb => ?_
    obtain ⟨c2, oc, vs, t, e2, hoc, hd, hv⟩ := hrec
    cases e2
    have nC : H c' = none := I.hok.fresh hge
    have I1 := inv_table (t' := tk) (more := #[rawInt pos.line, rawInt pos.col, .ref c']) (h' := h') I hP (fun b o hb e => hx b o hb e) htb hge ⟨oc, vs, t, hoc, hd, hv⟩
    generalize hH1 : upd (upd H P (.tbl (ps ++ #[rawInt pos.line, rawInt pos.col, .ref c']))) c' (CodeO c' q) = H1 at I1
    have hE : ExtN H H1 := fun b o e n => by
      rw [← hH1, upd_ne (ne_of_none e nC), upd_ne (fun z => n ps (Option.some.inj (e.symm.trans (by rw [z]; exact hP))))]
      exact e
    have hc1 : H1 c' = some (CodeO c' q) := by rw [← hH1]; exact upd_same
    have T1 : TabS H1 P q := by
      refine ⟨ps ++ #[rawInt pos.line, rawInt pos.col, .ref c'], by rw [← hH1, upd_ne (ne_of_none hP nC), upd_same], by rw [Array.toList_append]; exact PySem.TriplesOk_snoc _ _ _ _ ht, fun p' cv hcv => ?_⟩
      rw [Array.toList_append] at hcv
      rcases among_app _ ht hcv with z | z
      · obtain ⟨c0, e1, e2⟩ := ha p' cv z
        exact ⟨c0, e1, hE _ _ e2 codeO_ne⟩
      · exact ⟨c', z, hc1⟩
    have nF := I1.hok.fresh (Nat.le_refl _)
    have I2 := inv_lam (q := q) (params := params) (scope := scope) (e := body) (c' := c') (pm := (X.mg "__name__").getD .none) (ctv := ctv) (t' := tk) I1
    have up : ∀ b o, H1 b = some o → upd H1 h'.objs.size (LamO q params scope body h'.objs.size c') b = some o := fun b o e => (upd_ne (ne_of_none e nF)).trans e
    exact h h'.objs.size c' _ _ I2 (fun b o e n => up b o (hE b o e n)) (T1.ext up) (I.hok.fresh (Nat.le_trans hge (Nat.le_of_lt hlt))) upd_same (up _ _ hc1)
  · obtain ⟨c', e, hco⟩ := ha pos cv hc
    subst e
    refine PySem.W.kla_makeFunctionHit (mg := X.mg) (c := c) (P := P) (ps := ps) ck I.ok.glob (I.mod.glob.keeps I.bk) hcode (TB.code.keeps I.bk) hP' ht hc bP fun ctv h' tk hx hsz => ?_
    have I1 : Inv X pins σ H { s with heap := h', toks := tk } := I.kept hx
    have nF : H h'.objs.size = none := I1.hok.fresh (Nat.le_refl _)
    have I2 := inv_lam (q := q) (params := params) (scope := scope) (e := body) (c' := c') (pm := (X.mg "__name__").getD .none) (ctv := ctv) (t' := tk) I1
    have up : ∀ b o, H b = some o → upd H h'.objs.size (LamO q params scope body h'.objs.size c') b = some o := fun b o e => (upd_ne (ne_of_none e nF)).trans e
    exact h h'.objs.size c' _ _ I2 (fun b o e n => up b o e) ((show TabS H P q from ⟨ps, hP, ht, ha⟩).ext up) nF upd_same (up _ _ hco)
/-- the reading of a lambda: lamO f c' says of the object at f that it is that one -/
def tLam3 (P : Addr) (q : Str) (lamO : Addr → Addr → HO) : TE := fun σ H Q => TabS H P q ∧ ∀ (f c' : Addr) (H1 : Hp), ExtN H H1 → TabS H1 P q → H f = none → H1 f = some (lamO f c') → H1 c' = some (CodeO c' q) → Q (.ref f) H1
theorem pe_lam3 {lamO : Addr → Addr → HO} {c P : Addr} {q : Str} {params : Arguments} {body : Expr} {scope : Scope} {pos : Pos} (TB : TabB X.base X.mg c P) (hcode : X.env.code = .ref c) (hq : q = X.env.qual ++ "<lambda>") (hl : ∀ f c', lamO f c' = LamO q params scope body f c')
    (hdef : defaultsOf params X.env = ([], []) := by rfl) (hnf : (scope.names.all fun y => !decide (y.2 = .free)) = true := by decide +kernel) (hcl : cloFrom X.env.cells scope.names [] = [] := by rfl) : PE X (.Lambda params body scope pos) (tLam3 P q lamO) := by
  refine ⟨fun pins s σ H Q I h => ?_⟩
  obtain ⟨hT, h⟩ := h
  refine lam_make3 I TB hcode hq hT hdef (fun y hy e => ?_) hcl fun f c' H1 s' I1 e t n1 n2 n3 => ⟨.ref f, H1, I1, rfl, h f c' H1 e t n1 (by rw [hl]; exact n2) n3⟩
  have := List.all_eq_true.mp hnf y hy
  simp [e] at this
end
/-- the promise of a lambda: its body's reading -/
def spLam3 (lamO : Addr → Addr → HO) (q : Str) (N ps : List Str) (tb : TE) (f : Addr) : Sp := fun vs H Q _ => vs.length = ps.length ∧ ∃ c', H f = some (lamO f c') ∧ H c' = some (CodeO c' q) ∧ tb (startF N vs []) H Q
theorem run_lam3 {P : Program} {w : World} {K : PySem.W.Frag} {mg : Str → Option Value} {base : Heap} {N ps : List Str} {k : Nat} {q : Str} {params : Arguments} {scope : Scope} {body : Expr} {lamO : Addr → Addr → HO} {tb : TE} {f : Addr} (hl : ∀ f c', lamO f c' = LamO q params scope body f c')
    (S : NScope N ps [] scope) (hb : ∀ (pm ctv : Value) (c' : Addr) (us : List Value), us.length = ps.length → bindArgs (PySem.W.kla_fn "<lambda>" q params body scope [] pm (.ref c') ctv) ⟨us, []⟩ = pure (ps.zip us))
    (hbody : ∀ (A : Around) (outer : List Env) (s : Shared) (H : Hp) (E : XK) (c' : Addr), Room k (A.deeper (envF (lamNF q params scope c') f s.heap.objs.size)) → PE (ncx CX0 P w K mg base N (lamNF q params scope c') f A outer s H E) body tb)
    {A : Around} {outer : List Env} {s : Shared} {H : Hp} {us : List Value} {vs : List V} {Q : VK} (hr : Room (k + 1) A) (e0 : Env0 P w K mg base A outer s H) (r : Vals vs us) (hsp : spLam3 lamO q N ps tb f vs H Q E0) :
    codeAny (model P w) A (.call (.ref f) ⟨us, []⟩) (CR CX0 outer P w H s Q E0) s := by
  obtain ⟨hl1, c', hf, hc, ht⟩ := hsp
  rw [hl] at hf
  have lim : s.heap.NoLimit := e0.mod.nolimit.keeps fun b o e => (e0.bs b o e).1
  obtain ⟨⟨pm, ctv, ho⟩, _, _⟩ := e0.hok f _ hf
  refine PySem.W.kla_callFunE hr.depth ho rfl S.co S.gen rfl (codeO_at e0.hok hc) ?_
  rw [hb pm ctv c' us (by rw [← r.length]; exact hl1)]
  refine wpAny_pure (wpAny_newFunctionEnv S.nocell (fun ⟨n, _⟩ hy => S.par n (List.of_mem_zip hy).1) (fun h₁ hns hsb => ⟨lim.fresh _ hsb, ?_⟩) S.kind)
  show codeAny _ _ (.expr body (envF (lamNF q params scope c') f s.heap.objs.size)) _ _
  have kp : ∀ b o, s.heap.get? b = some o → h₁.get? b = some o := fun b o e => hsb.extBut b o (Nat.ne_of_lt (Heap.lt_size e)) (Heap.get?_push_of_some _ e)
  have C : CellsAt (lamNF q params scope c').cl [] [] s.heap H := ⟨rfl, fun y c e => (by cases e), fun x y c e => (by cases e), fun i y e => (by simp at e)⟩
  have I : Inv (ncx CX0 P w K mg base N (lamNF q params scope c') f A outer s H E0) [] (startF N vs []) H { s with heap := h₁, toks := s.toks + (ps.zip us).length } := inv_startN S hr.hd e0 hl1 r C hns kp
  refine PySem.W.kla_codeExpr (wpAny_mono ((hbody A outer s H E0 c' (hr.deeper _)).run [] _ _ H Q I ht) (fun v s' hq => ?_) fun e s' hq => hq)
  obtain ⟨w', H', J, rv, q⟩ := hq
  exact ⟨w', H', J.os, J.bare, J.base, J.hok, rv, q⟩
theorem kcall_lam3 {X : Cx} {A : Around} {N ps : List Str} {k : Nat} {q : Str} {params : Arguments} {scope : Scope} {body : Expr} {lamO : Addr → Addr → HO} {tb : TE} (hl : ∀ f c', lamO f c' = LamO q params scope body f c') (S : NScope N ps [] scope)
    (hb : ∀ (pm ctv : Value) (c' : Addr) (us : List Value), us.length = ps.length → bindArgs (PySem.W.kla_fn "<lambda>" q params body scope [] pm (.ref c') ctv) ⟨us, []⟩ = pure (ps.zip us))
    (hbody : ∀ (f : Addr) (A : Around) (outer : List Env) (s : Shared) (H : Hp) (E : XK) (c' : Addr), Room k (A.deeper (envF (lamNF q params scope c') f s.heap.objs.size)) → PE (ncx CX0 X.prog X.w X.K X.mg X.base N (lamNF q params scope c') f A outer s H E) body tb)
    (hr : Room (k + 1) A) (he : ∀ {s : Shared} {H : Hp}, Env0 X.prog X.w X.K X.mg X.base X.A X.stack s H → Env0 X.prog X.w X.K X.mg X.base A X.stack s H) (f : Addr) : KCall X A f (spLam3 lamO q N ps tb f) := by
  intro pins s σ H us vs Q I r h
  refine wpAny_call (codeAny_mono (run_lam3 hl S hb (hbody f) hr (he I.env0) r h) fun r s' hq => ?_)
  cases r with
  | error e => exact hq
  | ok fl =>
    cases fl with
    | ret u => exact I.after hq
    | next => exact hq
    | brk => exact hq
    | cont => exact hq
/-! ### as rules of calls by keyword -/
def spAt (f0 : Addr) (sp : Sp) (f : Addr) : Sp := fun vs H Q E => f = f0 ∧ sp vs H Q E
theorem kcall_at {X : Cx} {A : Around} {f0 : Addr} {sp : Sp} (KC : KCall X A f0 sp) (f : Addr) : KCall X A f (spAt f0 sp f) := fun pins s σ H us vs Q I r h => by
  obtain ⟨rfl, h⟩ := h
  exact KC pins s σ H us vs Q I r h
section
variable {X : Cx}
theorem cr_sortBy {two : Bool} {sp : Addr → Sp} (KC : ∀ f, KCall X X.A.in1.in1 f (sp f)) : CallRK X (.builtin "sorted") [Str.ofString "key"] (rSortKey X.K two sp) := by
  intro pins s σ H vs zs us ws Q I r rz h
  obtain ⟨a, f, xs, kd, rfl, rfl, hs, ko, q⟩ := h
  obtain rfl := Vals.ref1 r
  obtain ⟨w1, rfl, e1⟩ := vals1 rz
  obtain rfl : w1 = Value.ref f := e1
  exact sortKey_run (KC f) I hs ko (PyProof.Rows.ksk_s1 _ _) (fun _ => PyProof.Rows.ksk_l1 _ _) (fun x => PyProof.Rows.ksk_t1 f x) q
def rMinKey (K : PySem.W.Frag) (two : Bool) (sp : Addr → Sp) : List V → List V → Hp → VK → Prop := fun vs zs H Q => ∃ (a f : Addr) (xs : List V) (kd : V → Int × Int), vs = [.ref a] ∧ zs = [.ref f] ∧ SqL K H a xs ∧ 0 < xs.length ∧ KeyOf two (sp f) H xs kd ∧
  ∀ x H', Same H H' → x ∈ xs → (∀ y ∈ xs, keyLe kd x y) → Q x H'
theorem cr_minBy {two : Bool} {sp : Addr → Sp} (KC : ∀ f, KCall X X.A.in1 f (sp f)) (hh : X.A.handled = none) (hu : X.A.units + 1 < cLine) : CallRK X (.builtin "min") [Str.ofString "key"] (rMinKey X.K two sp) := by
  intro pins s σ H vs zs us ws Q I r rz h
  obtain ⟨a, f, xs, kd, rfl, rfl, hs, hx, ko, q⟩ := h
  obtain rfl := Vals.ref1 r
  obtain ⟨w1, rfl, e1⟩ := vals1 rz
  obtain rfl : w1 = Value.ref f := e1
  exact minKey_run (KC f) I hs ko hx hh hu q
/-- sorted(xs, reverse=b) of ints -/
theorem sort_rev (a : Addr) (b : Bool) : argsOk "sorted" ⟨[.ref a], [(Str.ofString "reverse", .bool b)]⟩ := by unfold argsOk; kernel_rfl
theorem sort_rev2 (a : Value) (b : Bool) : argsOk "list.sort" ⟨[a], [(Str.ofString "reverse", .bool b)]⟩ := by unfold argsOk; kernel_rfl
theorem cr_sortRev {b : Bool} : CallRK X (.builtin "sorted") [Str.ofString "reverse"] (rSortedKw X.K b [.bl b]) := by
  intro pins s σ H vs zs us ws Q I r rz h
  obtain ⟨a, ns, rfl, rfl, hs, q⟩ := h
  obtain rfl := Vals.ref1 r
  obtain ⟨w1, rfl, e1⟩ := vals1 rz
  obtain rfl : w1 = Value.bool b := e1
  exact sorted_run I hs (fun a => rfl) (sort_rev _ _) (fun _ => sort_rev2 _ _) q
end
/-- a def whose code object is known -/
structure FunC (K : PySem.W.Frag) (x qual : Str) (st : Stmt) (f : Addr) (fd : FuncData) (c : Addr) : Prop where
  ex : ∃ (oc : Value) (od : Option Addr) (kV doc pm : Value) (an : Option Addr) (ct : Value) (osl : Array (Option Value)),
    fd = PySem.W.fnOf x qual (defArgs st) (defBody st) (defScope st) .none kV doc pm an (.ref c) ct ∧ K.lookup f = some ⟨oc, od, .func fd, osl⟩ ∧ PySem.W.codeIn K (.ref c) qual = true
theorem FunC.okX {P : Program} {w : World} {K : PySem.W.Frag} {mg : Str → Option Value} {base : Heap} {x qual : Str} {st : Stmt} {f c : Addr} {fd : FuncData} {N ps : List Str} {k : Nat} {sp : Sp} (F : FunC K x qual st f fd c) (S : FnScope N ps (defScope st)) (len : ∀ vs H Q E, sp vs H Q E → vs.length = ps.length)
    (hbody : ∀ (A : Around) (outer : List Env) (s : Shared) (H : Hp) (vs : List V) (Q : VK) (E : XK), Room k (A.deeper (envOfC qual (defScope st) s.heap.objs.size f (.ref c))) → sp vs H Q E →
      ∃ t, PSs (cxOf (L2.CX P w) P w K mg base N qual (defScope st) f (.ref c) A outer s H E) (defBody st) t ∧ t { nx := fun _ H' => Q .non H', rt := Q } (start N vs) H) : FnOk P w K mg base (L2.CX P w) (k + 1) f fd ps sp := by
  obtain ⟨oc, od, kV, doc, pm, an, ct, osl, rfl, lk, hcd⟩ := F.ex
  exact fn_of lk hcd S len fun A outer s H vs Q E hr hsp => hbody A outer s H vs Q E hr hsp
end My

namespace My
open PySem PySem.Spec PyProof.Rows L2
/-! ### unions -/
section
variable {X : Cx}
def rSortedA (K : PySem.W.Frag) : List V → Hp → VK → Prop := fun xs H Q => (rSortedI K xs H Q ∨ rSortedPO K xs H Q) ∨ rSortedDA xs H Q
theorem call_sortedA (hc : X.calm = true) : CallR X (.builtin "sorted") (rSortedA X.K) := orC (orC cr_sortedI cr_sortedPO) (call_sortedDA hc)
def rLenD : List V → Hp → VK → Prop := fun xs H Q => ∃ a kvs, xs = [V.ref a] ∧ H a = some (.dK kvs) ∧ Q (.int kvs.length) H
theorem call_lenDA : CallR X (.builtin "len") rLenD := call_lenD
end

/-! ### readings of dicts, heaps, keys, comprehensions -/
def tTru (K : PySem.W.Frag) (ta : TE) : TT := fun σ H Q => ta σ H fun x H' => ∃ k, TruV K x H' k ∧ Q k H'
section
variable {K : PySem.W.Frag} {σ : L2.St} {H : Hp} {Q : VK} {D : Ends} {x y v : V} {ta tb tc : TE} {t u : TT} {ts tu : TS} {i j : Int} {b : Bool} {P R : Prop}
theorem r_dget (h : ta σ H fun x H1 => tb σ H1 fun y H2 => ∃ a v, x = .ref a ∧ DGet H2 a y (some v) ∧ Q v H2) : tDGet ta tb σ H Q := h
theorem r_dgetI {a : Addr} {kvs : List (Key × V)} {Q' : V → Prop} (h : H a = some (.dK kvs)) (hv : valV kvs (.inl i) = some v) (q : Q' v) : ∃ a' v, V.ref a = .ref a' ∧ DGet H a' (.int i) (some v) ∧ Q' v :=
  ⟨a, v, rfl, by rw [← hv]; exact DGet.k (k := Sum.inl i) h, q⟩
theorem r_dgetF {a : Addr} {o : Obj} {kvs : List (Key × V)} {Q' : V → Prop} (h : H a = some (.frz o (.dK kvs))) (hv : valV kvs (.inl i) = some v) (q : Q' v) : ∃ a' v, V.ref a = .ref a' ∧ DGet H a' (.int i) (some v) ∧ Q' v :=
  ⟨a, v, rfl, .inl ⟨kvs, .inl i, .inr ⟨o, h⟩, rfl, hv.symm⟩, q⟩
theorem r_din (h : ta σ H fun y H1 => tb σ H1 fun x H2 => ∃ a o, x = .ref a ∧ DGet H2 a y o ∧ Q (.bl o.isSome) H2) : tDIn ta tb σ H Q := h
theorem r_dnin (h : ta σ H fun y H1 => tb σ H1 fun x H2 => ∃ a o, x = .ref a ∧ DGet H2 a y o ∧ Q (.bl (!o.isSome)) H2) : tDNotIn ta tb σ H Q := h
theorem r_dinI {a : Addr} {kvs : List (Key × V)} {f : Option V → Prop} (h : H a = some (.dK kvs)) (q : f (valV kvs (.inl i))) : ∃ a' o, V.ref a = .ref a' ∧ DGet H a' (.int i) o ∧ f o := ⟨a, _, rfl, DGet.k (k := Sum.inl i) h, q⟩
theorem r_dnew (h : ∀ p, H p = none → Q (.ref p) (upd H p (.dK []))) : tDNewK σ H Q := h
theorem r_dput {tv : TE} (h : tv σ H fun v H1 => ta σ H1 fun x H2 => tb σ H2 fun y H3 => ∃ a H4, x = .ref a ∧ DPut H3 a y v H4 ∧ D.nx σ H4) : sDPut ta tb tv D σ H := h
theorem r_dputI {a : Addr} {kvs : List (Key × V)} {f : Hp → Prop} (h : H a = some (.dK kvs)) (hz : kvs.length < sizeLine) (q : f (upd H a (.dK (putK kvs (.inl i) v)))) : ∃ a' H4, V.ref a = .ref a' ∧ DPut H a' (.int i) v H4 ∧ f H4 := ⟨a, _, rfl, DPut.k (k := Sum.inl i) h hz, q⟩
theorem r_ddel (h : ta σ H fun x H1 => tb σ H1 fun y H2 => ∃ a kvs k, x = .ref a ∧ H2 a = some (.dK kvs) ∧ y = kV k ∧ (valV kvs k).isSome = true ∧ D.nx σ (upd H2 a (.dK (dropK kvs k)))) : sDDel ta tb D σ H := h
theorem r_ddelI {a : Addr} {kvs : List (Key × V)} {f : Hp → Prop} (h : H a = some (.dK kvs)) (hv : (valV kvs (.inl i)).isSome = true) (q : f (upd H a (.dK (dropK kvs (.inl i))))) :
    ∃ a' kvs k, V.ref a = .ref a' ∧ H a' = some (.dK kvs) ∧ V.int i = kV k ∧ (valV kvs k).isSome = true ∧ f (upd H a' (.dK (dropK kvs k))) := ⟨a, kvs, .inl i, rfl, h, rfl, hv, q⟩
theorem r_dpop (h : ta σ H fun x H1 => ∃ a, x = .ref a ∧ IsD H1 a ∧ tb σ H1 fun y H2 => ∃ kvs k v, H2 a = some (.dK kvs) ∧ y = kV k ∧ valV kvs k = some v ∧ Q v (upd H2 a (.dK (dropK kvs k)))) : tDPop1 ta tb σ H Q := h
theorem r_dpopR {a : Addr} {kvs : List (Key × V)} {P' : Prop} (h : H a = some (.dK kvs)) (q : P') : ∃ a', V.ref a = .ref a' ∧ IsD H a' ∧ P' := ⟨a, rfl, .inl ⟨kvs, .inl h⟩, q⟩
theorem r_dpopI {a : Addr} {kvs : List (Key × V)} {f : V → Hp → Prop} (h : H a = some (.dK kvs)) (hv : valV kvs (.inl i) = some v) (q : f v (upd H a (.dK (dropK kvs (.inl i))))) :
    ∃ kvs k v, H a = some (.dK kvs) ∧ V.int i = kV k ∧ valV kvs k = some v ∧ f v (upd H a (.dK (dropK kvs k))) := ⟨kvs, .inl i, v, h, rfl, hv, q⟩
theorem r_lenD {a : Addr} {kvs : List (Key × V)} (h : H a = some (.dK kvs)) (q : Q (.int kvs.length) H) : rLenD [.ref a] H Q := ⟨a, kvs, rfl, h, q⟩
theorem r_tru {QB : Bool → Hp → Prop} (h : ta σ H fun x H' => ∃ k, TruV K x H' k ∧ QB k H') : tTru K ta σ H QB := h
theorem r_truL {a : Addr} {xs : List V} {f : Bool → Prop} (h : SqL K H a xs) (q : f (!xs.isEmpty)) : ∃ k, TruV K (.ref a) H k ∧ f k := ⟨_, .inl ⟨xs, h, rfl⟩, q⟩
theorem r_sortI {a : Addr} {ns : List Int} (h : SqL K H a (ns.map V.int)) (q : ∀ (ns' : List Int) (p : Addr), ns'.Perm ns → ns'.Pairwise (· ≤ ·) → H p = none → Q (.ref p) (upd H p (.lst (ns'.map V.int)))) : rSortedA K [.ref a] H Q := .inl (.inl ⟨a, ns, rfl, h, q⟩)
theorem r_sortP {a : Addr} {xs : List V} (k : V → Int × Int) (h : SqL K H a xs) (hx : ∀ x ∈ xs, ∃ t, x = V.ref t ∧ H t = some (.tup [.int (k x).1, .int (k x).2])) (q : ∀ ys p, SrtO.Srtd (ltP k) ys → SrtO.Stb (ltP k) ys xs → H p = none → Q (.ref p) (upd H p (.lst ys))) :
    rSortedA K [.ref a] H Q := .inl (.inr ⟨a, xs, k, rfl, h, hx, q⟩)
theorem r_sortD {a : Addr} {kvs : List (Key × V)} {ks : List Int} (h : H a = some (.dK kvs)) (hk : kvs.map (·.1) = ks.map Sum.inl) (q : ∀ (ys : List Int) (p : Addr), ys.Perm ks → ys.Pairwise (· ≤ ·) → H p = none → Q (.ref p) (upd H p (.lst (ys.map V.int)))) : rSortedA K [.ref a] H Q := .inr ⟨a, kvs, ks, rfl, .inl h, hk, q⟩
theorem r_ckw {r : List V → List V → Hp → VK → Prop} {tA tk : TA} (h : tA σ H fun vs H1 => tk σ H1 fun zs H2 => r vs zs H2 Q) : tCKw r tA tk σ H Q := h
theorem r_hpop {l : Addr} {ns : List Int} (h : H l = some (.lst (ns.map V.int))) (o : Hq.Ord ns) (h0 : 0 < ns.length) (q : ∀ ns', (Hq.at0 ns 0 :: ns').Perm ns → Hq.Ord ns' → Q (.int (Hq.at0 ns 0)) (upd H l (.lst (ns'.map V.int)))) : rHpop [.ref l] H Q := ⟨l, ns, rfl, h, o, h0, q⟩
theorem r_hpush {l : Addr} {ns : List Int} (h : H l = some (.lst (ns.map V.int))) (o : Hq.Ord ns) (hz : ns.length < sizeLine) (q : ∀ ns', ns'.Perm (i :: ns) → Hq.Ord ns' → Q .non (upd H l (.lst (ns'.map V.int)))) : rHpush [.ref l, .int i] H Q := ⟨l, ns, i, rfl, h, o, hz, q⟩
theorem r_ifNT (h : R) : if (!true) = true then P else R := h
theorem r_ifNF (h : P) : if (!false) = true then P else R := h
theorem r_yes {QB : Bool → Hp → Prop} (h : QB true H) : tYes σ H QB := h
theorem r_neg1 (q : Q (.int (-1)) H) : rU (fun i => .int (-i)) (.int 1) H Q := ⟨1, rfl, q⟩
theorem r_if2 {p : Prop} [Decidable p] {P1 P2 : Prop} (h1 : p → P1) (h2 : ¬ p → P2) : if p then P1 else P2 := by
  by_cases h : p
  · rw [if_pos h]; exact h1 h
  · rw [if_neg h]; exact h2 h
theorem r_lcL {g : TG} {tt : TT} {te : TE} {vs : List Nat} {tl : TE} (h : tl σ H fun x H1 => ∃ a, x = .ref a ∧ (∃ xs, SqL K H1 a xs) ∧ ∀ D, H1 D = none → ∃ W : Nat → Nat → Hp → Prop, (∃ m, W 0 m (upd H1 D (.lst []))) ∧ ∀ i m H, W i m H →
    ((Itl K a).stop i H ∧ Q (.ref D) H) ∨ ((Itl K a).go i H ∧ ∃ Nx : Hp → Prop, (∀ H', Nx H' → ∃ m', m' < m ∧ W (i + 1) m' H') ∧ ∀ x H', (Itl K a).yld i H x H' → g x (wipe σ vs) H' fun σ2 H2 => wipe σ2 vs = wipe σ vs ∧ tt σ2 H2 fun b H3 =>
      if b = true then te σ2 H3 fun y H4 => ∃ acc, H4 D = some (.lst acc) ∧ acc.length < sizeLine ∧ Nx (upd H4 D (.lst (acc ++ [y]))) else Nx H3)) : tLc (iList K tl) g tt te vs σ H Q := h
theorem r_lcR {g : TG} {tt : TT} {te : TE} {vs : List Nat} {tA : TA} (h : tA σ H fun vs' H1 => ∃ j : Int, vs' = [.int j] ∧ -(2 ^ 62) ≤ j ∧ j < 2 ^ 62 ∧ ∀ D, H1 D = none → ∃ W : Nat → Nat → Hp → Prop, (∃ m, W 0 m (upd H1 D (.lst []))) ∧ ∀ i m H, W i m H →
    ((Itr 0 j.toNat).stop i H ∧ Q (.ref D) H) ∨ ((Itr 0 j.toNat).go i H ∧ ∃ Nx : Hp → Prop, (∀ H', Nx H' → ∃ m', m' < m ∧ W (i + 1) m' H') ∧ ∀ x H', (Itr 0 j.toNat).yld i H x H' → g x (wipe σ vs) H' fun σ2 H2 => wipe σ2 vs = wipe σ vs ∧ tt σ2 H2 fun b H3 =>
      if b = true then te σ2 H3 fun y H4 => ∃ acc, H4 D = some (.lst acc) ∧ acc.length < sizeLine ∧ Nx (upd H4 D (.lst (acc ++ [y]))) else Nx H3)) : tLc (iRng1 tA) g tt te vs σ H Q := h
/-- list(range(n)) -/
theorem r_lstRg {te : L2.St → Hp → (Int → Int → Hp → Prop) → Prop} (h : te σ H fun a b H1 => RgOk a b ∧ ∀ q, H1 q = none → Q (.ref q) (upd H1 q (.lst (rgV a b)))) : tLstRg te σ H Q := h
theorem r_rg1 {QR : Int → Int → Hp → Prop} (h : ta σ H fun x H1 => ∃ n, x = .int n ∧ QR 0 n H1) : tRg1 ta σ H QR := h
theorem r_rg2 {QR : Int → Int → Hp → Prop} (h : ta σ H fun x H1 => tb σ H1 fun y H2 => ∃ i j, x = .int i ∧ y = .int j ∧ QR i j H2) : tRg2 ta tb σ H QR := h
theorem r_intE2 {f : Int → Int → Prop} (q : f i j) : ∃ k l, V.int i = .int k ∧ V.int j = .int l ∧ f k l := ⟨i, j, rfl, rfl, q⟩
end
def But2 (p q : Addr) (H H' : Hp) : Prop := ∀ b o, H b = some o → b ≠ p → b ≠ q → H' b = some o
theorem nd_keys {kvs : List (Key × V)} {k : Key} : (valV kvs k).isSome = true ↔ k ∈ kvs.map (·.1) := by
  cases e : valV kvs k with
  | none => simp only [Option.isSome_none, Bool.false_eq_true, false_iff]; exact valV_not e
  | some v => simp only [Option.isSome_some, true_iff]; exact valV_in e
theorem valV_of_mem {kvs : List (Key × V)} (hn : (kvs.map (·.1)).Nodup) {k : Key} {v : V} (h : (k, v) ∈ kvs) : valV kvs k = some v := by
  induction kvs with
  | nil => cases h
  | cons p r ih =>
    obtain ⟨h1, h2⟩ := List.nodup_cons.mp (show (p.1 :: r.map (·.1)).Nodup from hn)
    rcases List.mem_cons.mp h with e | e
    · rw [← e]; exact valV_pos rfl
    · have : ¬ p.1 = k := fun z => h1 (List.mem_map.mpr ⟨_, e, z.symm⟩)
      rw [valV_neg this]
      exact ih h2 e
theorem valV_drop {kvs : List (Key × V)} {k j : Key} : valV (dropK kvs k) j = if j = k then none else valV kvs j := by
  induction kvs with
  | nil => by_cases e : j = k <;> simp [e, valV_nil, dropK]
  | cons p r ih =>
    by_cases e : p.1 = k
    · rw [dropK_pos e, ih]
      by_cases e2 : j = k
      · rw [if_pos e2, if_pos e2]
      · rw [if_neg e2, if_neg e2, valV_neg (fun z => e2 (by rw [← z, e]))]
    · rw [dropK_neg e]
      by_cases e2 : p.1 = j
      · rw [valV_pos e2, valV_pos e2, if_neg (fun z => e (by rw [e2, z]))]
      · rw [valV_neg e2, valV_neg e2, ih]
theorem keys_drop {kvs : List (Key × V)} (k : Key) : (dropK kvs k).map (·.1) = (kvs.map (·.1)).filter fun j => decide (j ≠ k) := by
  unfold dropK
  rw [List.filter_map]
  rfl
/-! ### more steps: stores, bools, comprehensions as functions -/
section
variable {K : PySem.W.Frag} {σ : L2.St} {H : Hp} {Q : VK} {D : Ends} {x y v : V} {ta tb tc : TE} {t u : TT} {ts tu : TS} {i j : Int} {b : Bool} {P R : Prop}
theorem r_gsub {st : TSet} {N : L2.St → Hp → Prop} (h : ta σ H fun o H1 => tb σ H1 fun i H2 => st o i v H2 fun H3 => N σ H3) : gSub ta tb st v σ H N := h
theorem r_gtup {n : Nat} {tg : TGs} {N : L2.St → Hp → Prop} {a : Addr} {xs : List V} (h : SqT K H a xs) (hl : xs.length = n) (q : tg xs σ H N) : gTup K n tg (.ref a) σ H N := ⟨a, xs, rfl, h, hl, q⟩
theorem r_gcons {g : TG} {gs : TGs} {N : L2.St → Hp → Prop} {r : List V} (h : g v σ H fun σ' H' => gs r σ' H' N) : gCons g gs (v :: r) σ H N := ⟨v, r, rfl, h⟩
theorem r_gnil {N : L2.St → Hp → Prop} (h : N σ H) : gNil [] σ H N := ⟨rfl, h⟩
theorem r_setL {l : Addr} {xs : List V} {n : Nat} {N : Hp → Prop} (h : H l = some (.lst xs)) (e : i = (n : Int)) (hn : n < xs.length) (q : N (upd H l (.lst (xs.set n v)))) : rSetL (.ref l) (.int i) v H N := by
  refine ⟨l, xs, i, n, rfl, rfl, h, ?_, q⟩
  unfold ixN
  rw [if_pos (by omega), if_pos (by omega)]
  congr 1
  omega
theorem inV_bl (c : Bool) (row : List Bool) : inV (.bl c) (row.map V.bl) = decide (c ∈ row) := by
  unfold inV
  induction row with
  | nil => rfl
  | cons b r ih =>
    rw [List.map_cons, List.any_cons, ih]
    cases b <;> cases c <;> simp [eqV]
theorem flat_bools (row : List Bool) : (row.map V.bl).all flatV = true := by
  rw [List.all_eq_true]
  intro v hv
  obtain ⟨n, _, rfl⟩ := List.mem_map.mp hv
  rfl
theorem bl_at {row : List Bool} {i : Nat} {b : Bool} (h : row[i]? = some b) : (row.map V.bl)[i]? = some (.bl b) := by rw [List.getElem?_map, h]; rfl
theorem int_at {ns : List Int} {i : Nat} {b : Int} (h : ns[i]? = some b) : (ns.map V.int)[i]? = some (.int b) := by rw [List.getElem?_map, h]; rfl
theorem r_inB {l : Addr} {row : List Bool} {c : Bool} (h : SqL K H l (row.map V.bl)) (q : Q (.bl (decide (c ∈ row))) H) : rInP K (.bl c) (.ref l) H Q := .inl ⟨l, _, rfl, .inl h, rfl, flat_bools row, by rw [inV_bl]; exact q⟩
theorem r_ninB {l : Addr} {row : List Bool} {c : Bool} (h : SqL K H l (row.map V.bl)) (q : Q (.bl (!decide (c ∈ row))) H) : rInN K (.bl c) (.ref l) H Q := .inl ⟨l, _, rfl, .inl h, rfl, flat_bools row, by rw [inV_bl]; exact q⟩
theorem idx_at {row : List Bool} {c : Bool} (h : c ∈ row) : row[row.idxOf c]? = some c := by
  have hl := List.idxOf_lt_length_of_mem h
  rw [List.getElem?_eq_getElem hl, List.getElem_idxOf hl]
theorem idx_first {row : List Bool} {c : Bool} {m : Nat} (h : m < row.idxOf c) : row[m]? = some (!c) ∨ row[m]? = none := by
  cases e : row[m]? with
  | none => exact .inr rfl
  | some b =>
    left
    obtain ⟨hm, hb⟩ := List.getElem?_eq_some_iff.mp e
    have : row[m] ≠ c := fun z => by
      have q := List.not_of_lt_findIdx (p := (· == c)) (xs := row) (i := m) (by show m < List.idxOf c row; exact h)
      rw [z] at q
      simp at q
    rw [hb] at this
    cases b <;> cases c <;> first | rfl | exact absurd rfl this
theorem r_indexB {l : Addr} {row : List Bool} {c : Bool} (h : SqL K H l (row.map V.bl)) (hc : c ∈ row) (q : Q (.int ((row.idxOf c : Nat) : Int)) H) : rIndexA K (.ref l) [.bl c] H Q := by
  refine .inl ⟨l, row.map V.bl, .bl c, row.idxOf c, .bl c, rfl, rfl, h, rfl, flat_bools row, bl_at (idx_at hc), by cases c <;> rfl, fun m z hm hz => ?_, q⟩
  rw [List.getElem?_map] at hz
  rcases idx_first hm with e | e
  · rw [e] at hz
    cases hz
    cases c <;> rfl
  · rw [e] at hz; cases hz
theorem r_cntB {l : Addr} {row : List Bool} {c : Bool} (h : SqL K H l (row.map V.bl)) (q : Q (.int ((row.count c : Nat) : Int)) H) : rCntB K (.ref l) [.bl c] H Q := ⟨l, row, c, rfl, rfl, h, q⟩
/-- [e for x in xs if t]: what each item gives, f -/
theorem lc_fm {a : Addr} {xs : List V} {g : TG} {tt : TT} {te : TE} {vs : List Nat} {H1 : Hp} {D : Addr} {Qd : Hp → Prop} (f : V → Option V) (hD : H1 D = none) (hs : SqL K H1 a xs) (hz : xs.length ≤ sizeLine)
    (step : ∀ (i : Nat) x H (Ny : V → Hp → Prop) (Nn : Hp → Prop), xs[i]? = some x → Same H1 H → (∀ y H4, Same H H4 → f x = some y → Ny y H4) → (∀ H3, Same H H3 → f x = none → Nn H3) →
      g x (wipe σ vs) H fun σ2 H2 => wipe σ2 vs = wipe σ vs ∧ tt σ2 H2 fun b H3 => if b = true then te σ2 H3 Ny else Nn H3)
    (hd : ∀ H', Same H1 H' → H' D = some (.lst (xs.filterMap f)) → Qd H') :
    ∃ W : Nat → Nat → Hp → Prop, (∃ m, W 0 m (upd H1 D (.lst []))) ∧ ∀ i m H, W i m H →
      ((Itl K a).stop i H ∧ Qd H) ∨ ((Itl K a).go i H ∧ ∃ Nx : Hp → Prop, (∀ H', Nx H' → ∃ m', m' < m ∧ W (i + 1) m' H') ∧ ∀ x H', (Itl K a).yld i H x H' → g x (wipe σ vs) H' fun σ2 H2 => wipe σ2 vs = wipe σ vs ∧ tt σ2 H2 fun b H3 =>
        if b = true then te σ2 H3 fun y H4 => ∃ acc, H4 D = some (.lst acc) ∧ acc.length < sizeLine ∧ Nx (upd H4 D (.lst (acc ++ [y]))) else Nx H3) := by
  refine lc_list (K := K) (xs := xs) (fun i H => Same H1 H ∧ H D = some (.lst ((xs.take i).filterMap f))) ⟨same_new hD, by rw [upd_same]; rfl⟩ (fun i H _ p => p.1.seq hs) (fun i x H hx p => ?_) (fun H p => hd H p.1 (by rw [List.take_length] at p; exact p.2))
  obtain ⟨s, hl⟩ := p
  have hi : i < xs.length := (List.getElem?_eq_some_iff.mp hx).1
  have et : xs.take (i + 1) = xs.take i ++ [x] := by rw [List.take_add_one, hx]; rfl
  refine step i x H _ _ hx s (fun y H4 s4 hf => ⟨_, s4 _ _ hl, ?_, fun b o e => ?_, ?_⟩) (fun H3 s3 hf => ⟨s.trans s3, ?_⟩)
  · have := List.length_filterMap_le f (xs.take i)
    rw [List.length_take] at this
    omega
  · rw [upd_ne (ne_of_none e hD)]
    exact s4 _ _ (s _ _ e)
  · rw [upd_same, et, List.filterMap_append]
    simp [hf]
  · rw [s3 _ _ hl, et, List.filterMap_append]
    simp [hf]
/-- the same over range(n) -/
theorem lc_fmR {lo : Int} {n : Nat} {g : TG} {tt : TT} {te : TE} {vs : List Nat} {H1 : Hp} {D : Addr} {Qd : Hp → Prop} (f : Nat → Option V) (hD : H1 D = none) (hz : n ≤ sizeLine)
    (step : ∀ (i : Nat) H (Ny : V → Hp → Prop) (Nn : Hp → Prop), i < n → Same H1 H → (∀ y H4, Same H H4 → f i = some y → Ny y H4) → (∀ H3, Same H H3 → f i = none → Nn H3) →
      g (.int (lo + i)) (wipe σ vs) H fun σ2 H2 => wipe σ2 vs = wipe σ vs ∧ tt σ2 H2 fun b H3 => if b = true then te σ2 H3 Ny else Nn H3)
    (hd : ∀ H', Same H1 H' → H' D = some (.lst ((List.range n).filterMap f)) → Qd H') :
    ∃ W : Nat → Nat → Hp → Prop, (∃ m, W 0 m (upd H1 D (.lst []))) ∧ ∀ i m H, W i m H →
      ((Itr lo n).stop i H ∧ Qd H) ∨ ((Itr lo n).go i H ∧ ∃ Nx : Hp → Prop, (∀ H', Nx H' → ∃ m', m' < m ∧ W (i + 1) m' H') ∧ ∀ x H', (Itr lo n).yld i H x H' → g x (wipe σ vs) H' fun σ2 H2 => wipe σ2 vs = wipe σ vs ∧ tt σ2 H2 fun b H3 =>
        if b = true then te σ2 H3 fun y H4 => ∃ acc, H4 D = some (.lst acc) ∧ acc.length < sizeLine ∧ Nx (upd H4 D (.lst (acc ++ [y]))) else Nx H3) := by
  refine lc_range (fun i H => Same H1 H ∧ H D = some (.lst ((List.range i).filterMap f))) ⟨same_new hD, by rw [upd_same]; rfl⟩ (fun i H hi p => ?_) (fun H p => hd H p.1 p.2)
  obtain ⟨s, hl⟩ := p
  refine step i H _ _ hi s (fun y H4 s4 hf => ⟨_, s4 _ _ hl, ?_, fun b o e => ?_, ?_⟩) (fun H3 s3 hf => ⟨s.trans s3, ?_⟩)
  · have := List.length_filterMap_le f (List.range i)
    rw [List.length_range] at this
    omega
  · rw [upd_ne (ne_of_none e hD)]
    exact s4 _ _ (s _ _ e)
  · rw [upd_same, List.range_succ, List.filterMap_append]
    simp [hf]
  · rw [s3 _ _ hl, List.range_succ, List.filterMap_append]
    simp [hf]
/-- [(..) for x in xs]: each item gives a thing that stands so from then on -/
theorem lc_rel {a : Addr} {xs : List V} {g : TG} {te : TE} {vs : List Nat} {H1 : Hp} {D : Addr} {Qd : Hp → Prop} (Rl : V → V → Hp → Prop) (hRs : ∀ x y H H', Rl x y H → Same H H' → Rl x y H') (hRu : ∀ x y H acc ys, Rl x y H → H D = some (.lst acc) → Rl x y (upd H D (.lst ys)))
    (hD : H1 D = none) (hs : SqL K H1 a xs) (hz : xs.length ≤ sizeLine)
    (step : ∀ (i : Nat) x H (Ny : V → Hp → Prop), xs[i]? = some x → Same H1 H → (∀ y H4, Same H H4 → Rl x y H4 → Ny y H4) → g x (wipe σ vs) H fun σ2 H2 => wipe σ2 vs = wipe σ vs ∧ te σ2 H2 Ny)
    (hd : ∀ H' ys, Same H1 H' → H' D = some (.lst ys) → ys.length = xs.length → (∀ (i : Nat) x y, xs[i]? = some x → ys[i]? = some y → Rl x y H') → Qd H') :
    ∃ W : Nat → Nat → Hp → Prop, (∃ m, W 0 m (upd H1 D (.lst []))) ∧ ∀ i m H, W i m H →
      ((Itl K a).stop i H ∧ Qd H) ∨ ((Itl K a).go i H ∧ ∃ Nx : Hp → Prop, (∀ H', Nx H' → ∃ m', m' < m ∧ W (i + 1) m' H') ∧ ∀ x H', (Itl K a).yld i H x H' → g x (wipe σ vs) H' fun σ2 H2 => wipe σ2 vs = wipe σ vs ∧ tYes σ2 H2 fun b H3 =>
        if b = true then te σ2 H3 fun y H4 => ∃ acc, H4 D = some (.lst acc) ∧ acc.length < sizeLine ∧ Nx (upd H4 D (.lst (acc ++ [y]))) else Nx H3) := by
  refine lc_list (K := K) (xs := xs) (tt := tYes) (fun i H => Same H1 H ∧ ∃ ys, H D = some (.lst ys) ∧ ys.length = i ∧ ∀ (j : Nat) x y, xs[j]? = some x → ys[j]? = some y → Rl x y H) ⟨same_new hD, [], upd_same, rfl, fun j x y _ h => by simp at h⟩ (fun i H _ p => p.1.seq hs) (fun i x H hx p => ?_) (fun H p => ?_)
  · obtain ⟨s, ys, hl, hn, hr⟩ := p
    have hi : i < xs.length := (List.getElem?_eq_some_iff.mp hx).1
    refine step i x H (fun y H4 => ∃ acc, H4 D = some (.lst acc) ∧ acc.length < sizeLine ∧ (Same H1 (upd H4 D (.lst (acc ++ [y]))) ∧ ∃ ys, upd H4 D (.lst (acc ++ [y])) D = some (.lst ys) ∧ ys.length = i + 1 ∧ ∀ (j : Nat) x y', xs[j]? = some x → ys[j]? = some y' → Rl x y' (upd H4 D (.lst (acc ++ [y]))))) hx s (fun y H4 s4 hR => ⟨ys, s4 _ _ hl, by omega, fun b o e => ?_, ys ++ [y], upd_same, by simp [hn], fun j x' y' hx' hy' => hRu _ _ _ ys _ ?_ (s4 _ _ hl)⟩)
    · rw [upd_ne (ne_of_none e hD)]
      exact s4 _ _ (s _ _ e)
    · by_cases hj : j < ys.length
      · rw [List.getElem?_append_left hj] at hy'
        exact hRs _ _ _ _ (hr j x' y' hx' hy') s4
      · have hj2 : j < (ys ++ [y]).length := (List.getElem?_eq_some_iff.mp hy').1
        rw [List.length_append, List.length_singleton] at hj2
        have e : j = i := by omega
        subst e
        rw [List.getElem?_append_right (by omega), hn, Nat.sub_self] at hy'
        rw [hx] at hx'
        cases hx'
        cases hy'
        exact hR
  · obtain ⟨s, ys, hl, hn, hr⟩ := p
    exact hd H ys s hl hn hr
end

theorem flat_rep {α : Type} (v : α) : ∀ n : Nat, (List.replicate n [v]).flatten = List.replicate n v
  | 0 => rfl
  | n + 1 => by rw [List.replicate_succ, List.flatten_cons, flat_rep v n, List.replicate_succ]; rfl

theorem cut_dropA {xs : List V} (k : Nat) : cutV xs (some (k : Int)) none = xs.drop k := by
  unfold cutV
  rw [HT.sIx_none, HT.sIx_nat]
  by_cases h : k ≤ xs.length
  · rw [Nat.min_eq_left h, List.take_of_length_le (by rw [List.length_drop]; exact Nat.le_refl _)]
  · rw [Nat.min_eq_right (by omega), List.drop_of_length_le (Nat.le_refl _), List.drop_of_length_le (by omega)]
    simp
theorem cut_takeA {xs : List V} (k : Nat) : cutV xs none (some (k : Int)) = xs.take k := by
  unfold cutV
  rw [HT.sIx_none, HT.sIx_nat]
  by_cases h : k ≤ xs.length
  · rw [Nat.min_eq_left h, List.drop_zero, Nat.sub_zero]
  · rw [Nat.min_eq_right (by omega), List.drop_zero, Nat.sub_zero, List.take_of_length_le (by omega), List.take_of_length_le (by omega)]

local macro_rules | `(tactic| walk_at "rd0") => `(tactic| first
  | assumption | decide | omega | rfl)
local macro_rules | `(tactic| walk_at "rd1") => `(tactic| first
  | with_reducible refine r_seq ?_
  | with_reducible refine r_asg ?_
  | with_reducible refine r_name ?_
  | with_reducible refine r_nx ?_
  | with_reducible refine r_rt ?_
  | with_reducible refine r_c ?_
  | ((with_reducible refine r_var (v := ?_) ?_ ?_); (rotate_left; rfl))
  | with_reducible refine r_op ?_
  | with_reducible refine r_un ?_
  | with_reducible refine r_cb ?_
  | with_reducible refine r_cons ?_
  | with_reducible refine r_nil ?_
  | with_reducible refine r_call ?_
  | with_reducible refine r_callS ?_
  | with_reducible refine r_meth ?_
  | with_reducible refine r_methS ?_
  | with_reducible refine r_make ?_
  | with_reducible refine r_makeS ?_
  | with_reducible refine r_add ?_
  | with_reducible refine r_sub ?_
  | with_reducible refine r_neg ?_
  | with_reducible refine r_lt ?_
  | with_reducible refine r_le ?_
  | with_reducible refine r_gt ?_
  | with_reducible refine r_ge ?_
  | with_reducible refine r_eqI ?_
  | with_reducible refine r_neI ?_
  | with_reducible refine r_eqB ?_
  | with_reducible refine r_neB ?_
  | with_reducible refine r_isN ?_
  | with_reducible refine r_notN ?_
  | ((with_reducible refine r_mod ?_ ?_); (walk_at "rd0"))
  | ((with_reducible refine r_div ?_ ?_ ?_); (walk_at "rd0"); (walk_at "rd0"))
  | with_reducible refine r_test ?_
  | with_reducible refine r_B ?_
  | with_reducible refine r_blV ?_
  | with_reducible refine r_ifT ?_
  | with_reducible refine r_ifF ?_
  | with_reducible refine r_ifS ?_
  | with_reducible refine r_not ?_
  | with_reducible refine r_and ?_
  | with_reducible refine r_or ?_
  | with_reducible refine r_andV ?_
  | with_reducible refine r_orV ?_
  | with_reducible refine r_notV ?_
  | with_reducible refine r_chain ?_
  | with_reducible refine r_if ?_
  | with_reducible refine r_next ?_
  | with_reducible refine r_ret ?_
  | with_reducible refine r_retN ?_
  | with_reducible refine r_drop ?_
  | with_reducible refine r_break ?_
  | with_reducible refine r_cont ?_
  | with_reducible refine r_bk ?_
  | with_reducible refine r_ct ?_
  | with_reducible refine r_sfld ?_
  | with_reducible refine r_fld ?_
  | with_reducible refine r_tup ?_
  | with_reducible refine r_lst ?_
  | with_reducible refine r_bm ?_
  | with_reducible refine r_bm0 ?_
  | with_reducible refine r_sl ?_
  | with_reducible refine r_noPart ?_
  | with_reducible refine r_part ?_
  | with_reducible refine r_intE ?_
  | with_reducible refine r_abs ?_
  | with_reducible refine r_intI ?_
  | with_reducible refine r_intB ?_
  | with_reducible refine isi_II ?_
  | with_reducible refine isi_IB ?_
  | with_reducible refine isi_BI ?_
  | with_reducible refine isi_BB ?_
  | with_reducible refine isi_SI ?_
  | with_reducible refine isi_SB ?_
  | with_reducible refine isi_NI ?_
  | with_reducible refine isi_NB ?_
  | with_reducible refine isi_SL ?_
  | with_reducible refine isi_NL ?_
  | with_reducible refine r_dget ?_
  | with_reducible refine r_din ?_
  | with_reducible refine r_dnin ?_
  | with_reducible refine r_dnew ?_
  | with_reducible refine r_dput ?_
  | with_reducible refine r_ddel ?_
  | with_reducible refine r_dpop ?_
  | with_reducible refine r_tru ?_
  | with_reducible refine r_ckw ?_
  | with_reducible refine r_yes ?_
  | with_reducible refine r_lcL ?_
  | with_reducible refine r_lcR ?_
  | with_reducible refine r_lstRg ?_
  | with_reducible refine r_rg1 ?_
  | with_reducible refine r_rg2 ?_
  | with_reducible refine r_intE2 ?_
  | with_reducible refine r_gsub ?_
  | with_reducible refine r_gcons ?_
  | with_reducible refine r_gnil ?_
  | with_reducible refine r_ifNT ?_
  | with_reducible refine r_ifNF ?_
  | with_reducible refine r_forL ?_
  | with_reducible refine r_forR ?_)
local macro_rules | `(tactic| walk_at "rd") => `(tactic| repeat (walk_at "rd1"))

structure Ad where
  K : PySem.W.Frag
  c_Shelf : Addr
  c_RoomError : Addr
  c_NoRoom : Addr
  c_NotOut : Addr

/-! ### rows of slots -/
def freeFrom (k : Nat) : List Bool → List Int
  | [] => []
  | b :: r => if b = true then freeFrom (k + 1) r else (k : Int) :: freeFrom (k + 1) r
def takenFrom (k : Nat) : List Bool → List Int
  | [] => []
  | b :: r => if b = true then (k : Int) :: takenFrom (k + 1) r else takenFrom (k + 1) r
theorem mem_free : ∀ (row : List Bool) (k : Nat) (x : Int), x ∈ freeFrom k row ↔ ∃ i : Nat, x = ((k + i : Nat) : Int) ∧ row[i]? = some false
  | [], k, x => by simp [freeFrom]
  | b :: r, k, x => by
    have ih := mem_free r (k + 1) x
    unfold freeFrom
    constructor
    · intro h
      cases b with
      | true =>
        rw [if_pos rfl, ih] at h
        obtain ⟨i, h1, h2⟩ := h
        exact ⟨i + 1, by rw [h1]; congr 1; omega, by simpa using h2⟩
      | false =>
        rw [if_neg Bool.false_ne_true, List.mem_cons, ih] at h
        rcases h with h | ⟨i, h1, h2⟩
        · exact ⟨0, h, rfl⟩
        · exact ⟨i + 1, by rw [h1]; congr 1; omega, by simpa using h2⟩
    · rintro ⟨i, h1, h2⟩
      cases i with
      | zero =>
        have e : b = false := by simpa using h2
        rw [e, if_neg Bool.false_ne_true, h1]
        exact List.mem_cons_self
      | succ i =>
        have : x ∈ freeFrom (k + 1) r := ih.mpr ⟨i, by rw [h1]; congr 1; omega, by simpa using h2⟩
        split
        · exact this
        · exact List.mem_cons_of_mem _ this
theorem mem_taken : ∀ (row : List Bool) (k : Nat) (x : Int), x ∈ takenFrom k row ↔ ∃ i : Nat, x = ((k + i : Nat) : Int) ∧ row[i]? = some true
  | [], k, x => by simp [takenFrom]
  | b :: r, k, x => by
    have ih := mem_taken r (k + 1) x
    unfold takenFrom
    constructor
    · intro h
      cases b with
      | false =>
        rw [if_neg Bool.false_ne_true, ih] at h
        obtain ⟨i, h1, h2⟩ := h
        exact ⟨i + 1, by rw [h1]; congr 1; omega, by simpa using h2⟩
      | true =>
        rw [if_pos rfl, List.mem_cons, ih] at h
        rcases h with h | ⟨i, h1, h2⟩
        · exact ⟨0, h, rfl⟩
        · exact ⟨i + 1, by rw [h1]; congr 1; omega, by simpa using h2⟩
    · rintro ⟨i, h1, h2⟩
      cases i with
      | zero =>
        have e : b = true := by simpa using h2
        rw [e, if_pos rfl, h1]
        exact List.mem_cons_self
      | succ i =>
        have : x ∈ takenFrom (k + 1) r := ih.mpr ⟨i, by rw [h1]; congr 1; omega, by simpa using h2⟩
        split
        · exact List.mem_cons_of_mem _ this
        · exact this
theorem free_ge {row : List Bool} {k : Nat} {x : Int} (h : x ∈ freeFrom k row) : (k : Int) ≤ x := by
  obtain ⟨i, h1, _⟩ := (mem_free row k x).mp h
  omega
theorem taken_ge {row : List Bool} {k : Nat} {x : Int} (h : x ∈ takenFrom k row) : (k : Int) ≤ x := by
  obtain ⟨i, h1, _⟩ := (mem_taken row k x).mp h
  omega
theorem free_up : ∀ (row : List Bool) (k : Nat), (freeFrom k row).Pairwise (· < ·)
  | [], _ => List.Pairwise.nil
  | b :: r, k => by
    unfold freeFrom
    split
    · exact free_up r (k + 1)
    · refine List.Pairwise.cons (fun x hx => ?_) (free_up r (k + 1))
      have := free_ge hx
      omega
theorem taken_up : ∀ (row : List Bool) (k : Nat), (takenFrom k row).Pairwise (· < ·)
  | [], _ => List.Pairwise.nil
  | b :: r, k => by
    unfold takenFrom
    split
    · refine List.Pairwise.cons (fun x hx => ?_) (taken_up r (k + 1))
      have := taken_ge hx
      omega
    · exact taken_up r (k + 1)
theorem nodup_of_lt {l : List Int} (h : l.Pairwise (· < ·)) : l.Nodup := h.imp fun q e => by omega
theorem perm_of_mem {l m : List Int} (h1 : l.Nodup) (h2 : m.Nodup) (h : ∀ x, x ∈ l ↔ x ∈ m) : l.Perm m := (List.perm_ext_iff_of_nodup h1 h2).mpr h
theorem up_unique : ∀ {l m : List Int}, l.Pairwise (· < ·) → m.Pairwise (· ≤ ·) → m.Perm l → m = l
  | [], m, _, _, p => List.Perm.eq_nil p
  | x :: l, [], _, _, p => absurd p.length_eq (by simp)
  | x :: l, y :: m, h1, h2, p => by
    obtain ⟨a1, a2⟩ := List.pairwise_cons.mp h1
    obtain ⟨b1, b2⟩ := List.pairwise_cons.mp h2
    have e : y = x := by
      have q1 : y ∈ x :: l := p.mem_iff.mp List.mem_cons_self
      have q2 : x ∈ y :: m := p.mem_iff.mpr List.mem_cons_self
      rcases List.mem_cons.mp q1 with e | q1
      · exact e
      · rcases List.mem_cons.mp q2 with e | q2
        · exact e.symm
        · have := a1 y q1
          have := b1 x q2
          omega
    subst e
    rw [up_unique a2 b2 (List.Perm.cons_inv p)]
theorem len_free : ∀ (row : List Bool) (k : Nat), (freeFrom k row).length = row.count false
  | [], _ => rfl
  | b :: r, k => by
    unfold freeFrom
    cases b with
    | true => rw [if_pos rfl, len_free r, List.count_cons]; simp
    | false => rw [if_neg Bool.false_ne_true, List.length_cons, len_free r, List.count_cons]; simp
theorem len_taken : ∀ (row : List Bool) (k : Nat), (takenFrom k row).length = row.count true
  | [], _ => rfl
  | b :: r, k => by
    unfold takenFrom
    cases b with
    | false => rw [if_neg Bool.false_ne_true, len_taken r, List.count_cons]; simp
    | true => rw [if_pos rfl, List.length_cons, len_taken r, List.count_cons]; simp
theorem free_set {row : List Bool} {i : Nat} (h : row[i]? = some false) : (freeFrom 0 row).Perm ((i : Int) :: freeFrom 0 (row.set i true)) := by
  have hi : i < row.length := (List.getElem?_eq_some_iff.mp h).1
  refine perm_of_mem (nodup_of_lt (free_up _ _)) (List.nodup_cons.mpr ⟨fun m => ?_, nodup_of_lt (free_up _ _)⟩) fun x => ?_
  · obtain ⟨j, h1, h2⟩ := (mem_free _ _ _).mp m
    have : i = j := by omega
    subst this
    rw [List.getElem?_set_self (by simpa using hi)] at h2
    cases h2
  · rw [List.mem_cons, mem_free, mem_free]
    constructor
    · rintro ⟨j, h1, h2⟩
      by_cases e : i = j
      · left; omega
      · right; exact ⟨j, h1, by rw [List.getElem?_set_ne e]; exact h2⟩
    · rintro (e | ⟨j, h1, h2⟩)
      · exact ⟨i, by rw [e]; simp, h⟩
      · by_cases e : i = j
        · subst e
          rw [List.getElem?_set_self (by simpa using hi)] at h2
          cases h2
        · rw [List.getElem?_set_ne e] at h2
          exact ⟨j, h1, h2⟩
theorem taken_set {row : List Bool} {i : Nat} (h : row[i]? = some false) : (takenFrom 0 (row.set i true)).Perm ((i : Int) :: takenFrom 0 row) := by
  have hi : i < row.length := (List.getElem?_eq_some_iff.mp h).1
  refine perm_of_mem (nodup_of_lt (taken_up _ _)) (List.nodup_cons.mpr ⟨fun m => ?_, nodup_of_lt (taken_up _ _)⟩) fun x => ?_
  · obtain ⟨j, h1, h2⟩ := (mem_taken _ _ _).mp m
    have : i = j := by omega
    subst this
    rw [h] at h2
    cases h2
  · rw [List.mem_cons, mem_taken, mem_taken]
    constructor
    · rintro ⟨j, h1, h2⟩
      by_cases e : i = j
      · left; omega
      · right
        rw [List.getElem?_set_ne e] at h2
        exact ⟨j, h1, h2⟩
    · rintro (e | ⟨j, h1, h2⟩)
      · exact ⟨i, by rw [e]; simp, by rw [List.getElem?_set_self (by simpa using hi)]⟩
      · by_cases e : i = j
        · subst e
          rw [h] at h2
          cases h2
        · exact ⟨j, h1, by rw [List.getElem?_set_ne e]; exact h2⟩
theorem set_back {row : List Bool} {i : Nat} (h : row[i]? = some true) : (row.set i false).set i true = row := by
  rw [List.set_set]
  refine List.ext_getElem? fun j => ?_
  by_cases e : i = j
  · subst e
    rw [List.getElem?_set_self (List.getElem?_eq_some_iff.mp h).1, h]
  · rw [List.getElem?_set_ne e]
theorem set_false {row : List Bool} {i : Nat} (h : row[i]? = some true) : (row.set i false)[i]? = some false := List.getElem?_set_self (List.getElem?_eq_some_iff.mp h).1
theorem free_all (n : Nat) : ∀ k, freeFrom k (List.replicate n false) = (List.range n).map fun i => ((k + i : Nat) : Int) := by
  induction n with
  | zero => intro k; rfl
  | succ n ih =>
    intro k
    rw [List.replicate_succ]
    unfold freeFrom
    rw [if_neg Bool.false_ne_true, ih, List.range_succ_eq_map, List.map_cons, List.map_map]
    congr 1
    refine List.map_congr_left fun i _ => ?_
    show ((k + 1 + i : Nat) : Int) = ((k + (i + 1) : Nat) : Int)
    congr 1
    omega
theorem taken_none (n : Nat) : ∀ k, takenFrom k (List.replicate n false) = [] := by
  induction n with
  | zero => intro k; rfl
  | succ n ih =>
    intro k
    rw [List.replicate_succ]
    unfold takenFrom
    rw [if_neg Bool.false_ne_true, ih]
/-- the least free slot -/
theorem free_head : ∀ (row : List Bool) (k : Nat), false ∈ row → ∃ t, freeFrom k row = ((k + row.idxOf false : Nat) : Int) :: t
  | [], _, h => nomatch h
  | b :: r, k, h => by
    unfold freeFrom
    cases b with
    | false => rw [if_neg Bool.false_ne_true]; exact ⟨freeFrom (k + 1) r, by simp⟩
    | true =>
      rw [if_pos rfl]
      obtain ⟨t, ht⟩ := free_head r (k + 1) (by simpa using h)
      refine ⟨t, ?_⟩
      rw [ht, List.idxOf_cons]
      simp
      omega
theorem idx_false {row : List Bool} (h : false ∈ row) : row[row.idxOf false]? = some false := by
  have hl := List.idxOf_lt_length_of_mem h
  rw [List.getElem?_eq_getElem hl, List.getElem_idxOf hl]
theorem up_le {l : List Int} (h : l.Pairwise (· < ·)) : l.Pairwise (· ≤ ·) := h.imp fun q => by omega
theorem ord_of_up {l : List Int} (h : l.Pairwise (· < ·)) : Hq.Ord l := fun i i0 il => by
  unfold Hq.at0
  have h1 : (i - 1) / 2 < l.length := by omega
  rw [List.getD_eq_getElem?_getD, List.getD_eq_getElem?_getD, List.getElem?_eq_getElem il, List.getElem?_eq_getElem h1]
  have := List.pairwise_iff_getElem.mp h _ _ h1 il (by omega)
  show l[(i - 1) / 2] ≤ l[i]
  omega
/-- the first of a heap is the least free slot -/
theorem heap_first {ns : List Int} {row : List Bool} (o : Hq.Ord ns) (p : ns.Perm (freeFrom 0 row)) (h : false ∈ row) : Hq.at0 ns 0 = ((row.idxOf false : Nat) : Int) := by
  obtain ⟨t, ht⟩ := free_head row 0 h
  rw [Nat.zero_add] at ht
  have hu := free_up row 0
  rw [ht] at p hu
  have hl : 0 < ns.length := by rw [p.length_eq]; simp
  have m0 : Hq.at0 ns 0 ∈ ns := by
    unfold Hq.at0
    rw [List.getD_eq_getElem?_getD, List.getElem?_eq_getElem hl]
    exact List.getElem_mem hl
  have m1 := p.mem_iff.mp m0
  have m2 : ((row.idxOf false : Nat) : Int) ∈ ns := p.mem_iff.mpr List.mem_cons_self
  obtain ⟨k, hk⟩ := List.mem_iff_getElem?.mp m2
  have hkl : k < ns.length := (List.getElem?_eq_some_iff.mp hk).1
  have a := Hq.ord_least o k hkl
  have e : Hq.at0 ns k = ((row.idxOf false : Nat) : Int) := by
    unfold Hq.at0
    rw [List.getD_eq_getElem?_getD, hk]; rfl
  rcases List.mem_cons.mp m1 with z | z
  · exact z
  · have := (List.pairwise_cons.mp hu).1 _ z
    omega
/-! ### a shelf in the heap -/
def shelfF (pg sz : Int) (fl td : Addr) : List (Str × V) := putF "_taken" (.ref td) (putF "_free" (.ref fl) (putF "size" (.int sz) (putF "page" (.int pg) [])))
theorem sf_page (pg sz : Int) (fl td : Addr) : (shelfF pg sz fl td).lookup ("page" : Str) = some (.int pg) := by
  unfold shelfF
  rw [lookup_putF, if_neg (by decide +kernel), lookup_putF, if_neg (by decide +kernel), lookup_putF, if_neg (by decide +kernel), lookup_putF, if_pos rfl]
theorem sf_size (pg sz : Int) (fl td : Addr) : (shelfF pg sz fl td).lookup ("size" : Str) = some (.int sz) := by
  unfold shelfF
  rw [lookup_putF, if_neg (by decide +kernel), lookup_putF, if_neg (by decide +kernel), lookup_putF, if_pos rfl]
theorem sf_free (pg sz : Int) (fl td : Addr) : (shelfF pg sz fl td).lookup ("_free" : Str) = some (.ref fl) := by
  unfold shelfF
  rw [lookup_putF, if_neg (by decide +kernel), lookup_putF, if_pos rfl]
theorem sf_taken (pg sz : Int) (fl td : Addr) : (shelfF pg sz fl td).lookup ("_taken" : Str) = some (.ref td) := by
  unfold shelfF
  rw [lookup_putF, if_pos rfl]
theorem sf_no (pg sz : Int) (fl td : Addr) {x : Str} (h1 : ¬ x = "_taken") (h2 : ¬ x = "_free") (h3 : ¬ x = "size") (h4 : ¬ x = "page") : (shelfF pg sz fl td).lookup x = none := by
  unfold shelfF
  rw [lookup_putF, if_neg h1, lookup_putF, if_neg h2, lookup_putF, if_neg h3, lookup_putF, if_neg h4]
  rfl
/-- a shelf stands at a: its free slots at fl, what is taken at td -/
structure ShelfAt (A : Ad) (H : Hp) (a fl td : Addr) (pg sz : Int) (row : List Bool) : Prop where
  ob : ∃ dx, H a = some (.ins A.c_Shelf dx (shelfF pg sz fl td))
  fr : ∃ ns, H fl = some (.lst (ns.map V.int)) ∧ Hq.Ord ns ∧ ns.Perm (freeFrom 0 row)
  tk : ∃ kvs, H td = some (.dK kvs) ∧ (kvs.map (·.1)).Perm ((takenFrom 0 row).map Sum.inl)
  z : row.length ≤ 60
theorem ShelfAt.same {A : Ad} {H H' : Hp} {a fl td : Addr} {pg sz : Int} {row : List Bool} (h : ShelfAt A H a fl td pg sz row) (s1 : ∀ o, H a = some o → H' a = some o) (s2 : ∀ o, H fl = some o → H' fl = some o) (s3 : ∀ o, H td = some o → H' td = some o) : ShelfAt A H' a fl td pg sz row := by
  obtain ⟨⟨dx, h1⟩, ⟨ns, h2, h3⟩, ⟨kvs, h4, h5⟩, hz⟩ := h
  exact ⟨⟨dx, s1 _ h1⟩, ⟨ns, s2 _ h2, h3⟩, ⟨kvs, s3 _ h4, h5⟩, hz⟩
theorem ShelfAt.sm {A : Ad} {H H' : Hp} {a fl td : Addr} {pg sz : Int} {row : List Bool} (h : ShelfAt A H a fl td pg sz row) (s : Same H H') : ShelfAt A H' a fl td pg sz row := h.same (fun o => s _ o) (fun o => s _ o) (fun o => s _ o)
/-! ### the promises of shelves -/
def sp_Shelf_init (A : Ad) : Sp := fun vs H Q _ => ∃ p dx pg sz, ∃ n : Nat, vs = [.ref p, .int pg, .int sz, .int n] ∧ H p = some (.ins A.c_Shelf dx []) ∧ n ≤ 60 ∧
  ∀ H' fl td, But p H H' → H fl = none → H td = none → fl ≠ p → td ≠ p → fl ≠ td → ShelfAt A H' p fl td pg sz (List.replicate n false) → Q .non H'
def sp_Shelf_out (A : Ad) : Sp := fun vs H Q _ => ∃ a fl td pg sz row, vs = [.ref a] ∧ ShelfAt A H a fl td pg sz row ∧ Q (.int ((row.count true : Nat) : Int)) H
def sp_Shelf_free (A : Ad) : Sp := fun vs H Q _ => ∃ a fl td pg sz row, vs = [.ref a] ∧ ShelfAt A H a fl td pg sz row ∧ ∀ p, H p = none → Q (.ref p) (upd H p (.lst ((freeFrom 0 row).map V.int)))
def sp_Shelf_take (A : Ad) : Sp := fun vs H Q E => ∃ a fl td pg sz row, vs = [.ref a] ∧ ShelfAt A H a fl td pg sz row ∧ (false ∉ row → E (.ref A.c_NoRoom) none H) ∧
  (false ∈ row → ∀ H', But2 fl td H H' → ShelfAt A H' a fl td pg sz (row.set (row.idxOf false) true) → Q (.int ((row.idxOf false : Nat) : Int)) H')
def sp_Shelf_give (A : Ad) : Sp := fun vs H Q E => ∃ a fl td pg sz row s, vs = [.ref a, .int s] ∧ ShelfAt A H a fl td pg sz row ∧ ((∀ i : Nat, s = i → row[i]? ≠ some true) → E (.ref A.c_NotOut) none H) ∧
  ∀ i : Nat, s = i → row[i]? = some true → ∀ H', But2 fl td H H' → ShelfAt A H' a fl td pg sz (row.set i false) → Q .non H'
theorem len_Shelf_init (A : Ad) {vs : List V} {H : Hp} {Q : VK} {E : XK} (h : sp_Shelf_init A vs H Q E) : vs.length = 4 := by
  obtain ⟨_, _, _, _, _, rfl, _⟩ := h; rfl
theorem len_Shelf_out (A : Ad) {vs : List V} {H : Hp} {Q : VK} {E : XK} (h : sp_Shelf_out A vs H Q E) : vs.length = 1 := by
  obtain ⟨_, _, _, _, _, _, rfl, _⟩ := h; rfl
theorem len_Shelf_free (A : Ad) {vs : List V} {H : Hp} {Q : VK} {E : XK} (h : sp_Shelf_free A vs H Q E) : vs.length = 1 := by
  obtain ⟨_, _, _, _, _, _, rfl, _⟩ := h; rfl
theorem len_Shelf_take (A : Ad) {vs : List V} {H : Hp} {Q : VK} {E : XK} (h : sp_Shelf_take A vs H Q E) : vs.length = 1 := by
  obtain ⟨_, _, _, _, _, _, rfl, _⟩ := h; rfl
theorem len_Shelf_give (A : Ad) {vs : List V} {H : Hp} {Q : VK} {E : XK} (h : sp_Shelf_give A vs H Q E) : vs.length = 2 := by
  obtain ⟨_, _, _, _, _, _, _, rfl, _⟩ := h; rfl

/-! ### what all laws share: cells, whole numbers -/
def plainV : V → Bool
  | .non => true
  | .bl _ => true
  | .int _ => true
  | .str _ => true
  | _ => false
def isI : V → Bool
  | .int _ => true
  | _ => false
def spPlain1 : Sp := fun vs H Q _ => ∃ x, vs = [x] ∧ plainV x = true ∧ Q (.bl (isI x)) H
def spL (K : PySem.W.Frag) : Sp := fun vs H Q _ => ∃ (a : Addr) (ns : List Int), vs = [.ref a] ∧ SqL K H a (ns.map V.int) ∧ ns.length ≤ 63 ∧ ∀ H', Q (.bl true) H'
theorem wh_I {i : Int} {H : Hp} {Q : VK} {E : XK} (q : Q (.bl true) H) : spPlain1 [.int i] H Q E := ⟨_, rfl, rfl, q⟩

def cellAt (ns : List Int) (k : Int) : Int := if k < (ns.length : Int) then ns.getD k.toNat 0 else 0
def sp_l_cell_at (A : Ad) : Sp := fun vs H Q _ => ∃ (a : Addr) (k : Int) (ns : List Int), vs = [.ref a, .int k] ∧ SqL A.K H a (ns.map V.int) ∧ 0 ≤ k ∧ Q (.int (cellAt ns k)) H
def sp_l_whole (A : Ad) : Sp := spPlain1
/-- take, by the law: the first free slot, or -1 -/
def sp_l_taken (A : Ad) : Sp := fun vs H Q _ => ∃ a fl td pg sz row, vs = [.ref a] ∧ ShelfAt A H a fl td pg sz row ∧ (false ∉ row → Q (.int (-1)) H) ∧
  (false ∈ row → ∀ H', But2 fl td H H' → ShelfAt A H' a fl td pg sz (row.set (row.idxOf false) true) → Q (.int ((row.idxOf false : Nat) : Int)) H')
def sp_l_given (A : Ad) : Sp := fun vs H Q _ => ∃ a fl td pg sz row s, vs = [.ref a, .int s] ∧ ShelfAt A H a fl td pg sz row ∧ ((∀ i : Nat, s = i → row[i]? ≠ some true) → Q (.bl false) H) ∧
  ∀ i : Nat, s = i → row[i]? = some true → ∀ H', But2 fl td H H' → ShelfAt A H' a fl td pg sz (row.set i false) → Q (.bl true) H'
def But3 (p q r : Addr) (H H' : Hp) : Prop := ∀ b o, H b = some o → b ≠ p → b ≠ q → b ≠ r → H' b = some o
def sp_l_deed (A : Ad) : Sp := fun vs H Q _ => ∃ a fl td l pg sz row c, vs = [.ref a, .ref l, .int c] ∧ ShelfAt A H a fl td pg sz row ∧ H l = some (.lst (row.map V.bl)) ∧ l ≠ fl ∧
  ∀ H' row', But3 fl td l H H' → row'.length = row.length → ShelfAt A H' a fl td pg sz row' → H' l = some (.lst (row'.map V.bl)) → Q (.bl true) H'
/-- the kept ones: lists as they were told and their copies -/
def Kept (H : Hp) (k : Addr) (P : Addr → Prop) : Prop := ∃ ks, H k = some (.lst ks) ∧ ∀ x ∈ ks, ∃ t f c, ∃ ns : List Int, x = .ref t ∧ H t = some (.tup [.ref f, .ref c]) ∧ H f = some (.lst (ns.map V.int)) ∧ H c = some (.lst (ns.map V.int)) ∧ P f ∧ P c
def sp_l_stands (A : Ad) : Sp := fun vs H Q _ => ∃ a fl td l k pg sz row, vs = [.ref a, .ref l, .ref k] ∧ ShelfAt A H a fl td pg sz row ∧ H l = some (.lst (row.map V.bl)) ∧ Kept H k (fun _ => True) ∧ k ≠ fl ∧ k ≠ l ∧
  ∀ H', But k H H' → Kept H' k (fun b => H b = none) → Q (.bl true) H'
def sp_law (A : Ad) : Sp := spL A.K
theorem len_l_cell_at (A : Ad) {vs : List V} {H : Hp} {Q : VK} {E : XK} (h : sp_l_cell_at A vs H Q E) : vs.length = 2 := by
  obtain ⟨_, _, _, rfl, _⟩ := h; rfl
theorem len_l_whole (A : Ad) {vs : List V} {H : Hp} {Q : VK} {E : XK} (h : sp_l_whole A vs H Q E) : vs.length = 1 := by
  obtain ⟨_, rfl, _⟩ := h; rfl
theorem len_l_taken (A : Ad) {vs : List V} {H : Hp} {Q : VK} {E : XK} (h : sp_l_taken A vs H Q E) : vs.length = 1 := by
  obtain ⟨_, _, _, _, _, _, rfl, _⟩ := h; rfl
theorem len_l_given (A : Ad) {vs : List V} {H : Hp} {Q : VK} {E : XK} (h : sp_l_given A vs H Q E) : vs.length = 2 := by
  obtain ⟨_, _, _, _, _, _, _, rfl, _⟩ := h; rfl
theorem len_l_deed (A : Ad) {vs : List V} {H : Hp} {Q : VK} {E : XK} (h : sp_l_deed A vs H Q E) : vs.length = 3 := by
  obtain ⟨_, _, _, _, _, _, _, _, rfl, _⟩ := h; rfl
theorem len_l_stands (A : Ad) {vs : List V} {H : Hp} {Q : VK} {E : XK} (h : sp_l_stands A vs H Q E) : vs.length = 3 := by
  obtain ⟨_, _, _, _, _, _, _, _, rfl, _⟩ := h; rfl
theorem len_law (A : Ad) {vs : List V} {H : Hp} {Q : VK} {E : XK} (h : sp_law A vs H Q E) : vs.length = 1 := by
  obtain ⟨_, _, rfl, _⟩ := h; rfl

structure NA (A : Ad) : Prop where
  cl_Shelf : Cls A.K A.c_Shelf
  na_Shelf_page : NoAttr A.K A.c_Shelf "page"
  na_Shelf_size : NoAttr A.K A.c_Shelf "size"
  na_Shelf__free : NoAttr A.K A.c_Shelf "_free"
  na_Shelf__taken : NoAttr A.K A.c_Shelf "_taken"
  ex_NoRoom_NoRoom : PySem.W.exmOne A.K (.ref A.c_NoRoom) (.ref A.c_NoRoom) = some true
  ex_NoRoom_NotOut : PySem.W.exmOne A.K (.ref A.c_NoRoom) (.ref A.c_NotOut) = some false
  ex_NotOut_NoRoom : PySem.W.exmOne A.K (.ref A.c_NotOut) (.ref A.c_NoRoom) = some false
  ex_NotOut_NotOut : PySem.W.exmOne A.K (.ref A.c_NotOut) (.ref A.c_NotOut) = some true

/-- Shelf.__init__ ['self', 'page', 'size', 'slots'] -/
def t_Shelf_init (A : Ad) (E : XK) : TS :=
  (tSeq (sFld A.K (tVar 0) (tVar 1) "page")
  (tSeq (sFld A.K (tVar 0) (tVar 2) "size")
  (tSeq (sFld A.K (tVar 0) (tLstRg (tRg1 (tVar 3))) "_free")
  (sFld A.K (tVar 0) tDNewK "_taken"))))
/-- Shelf.out ['self'] -/
def t_Shelf_out (A : Ad) (E : XK) : TS :=
  (tRet (tCB rLenD (tCons (tFld A.K (tVar 0) "_taken") tNil)))
/-- Shelf.free ['self'] -/
def t_Shelf_free (A : Ad) (E : XK) : TS :=
  (tRet (tCB (rSortedA A.K) (tCons (tFld A.K (tVar 0) "_free") tNil)))
/-- Shelf.take ['self', 'slot'] -/
def t_Shelf_take (A : Ad) (E : XK) : TS :=
  (tSeq (tIfS (tNot (tTru A.K (tFld A.K (tVar 0) "_free")))
    (fun _ σ H => E (.ref A.c_NoRoom) none H)
    tNext)
  (tSeq (tAsg (tCB rHpop (tCons (tFld A.K (tVar 0) "_free") tNil)) (gName 1))
  (tSeq (sDPut (tFld A.K (tVar 0) "_taken") (tVar 1) (tC (.bl true)))
  (tRet (tVar 1)))))
/-- Shelf.give ['self', 'slot'] -/
def t_Shelf_give (A : Ad) (E : XK) : TS :=
  (tSeq (tIfS (tB (tDNotIn (tVar 1) (tFld A.K (tVar 0) "_taken")))
    (fun _ σ H => E (.ref A.c_NotOut) none H)
    tNext)
  (tSeq (sDDel (tFld A.K (tVar 0) "_taken") (tVar 1))
  (tDrop (tCB rHpush (tCons (tFld A.K (tVar 0) "_free") (tCons (tVar 1) tNil))))))
/-- _law_cell_at ['_law_script', '_law_k'] -/
def t_l_cell_at (A : Ad) (E : XK) : TS :=
  (tSeq (tIfS (tTest (tOp rLtI (tVar 1) (tCB (rLenA A.K) (tCons (tVar 0) tNil))))
    (tRet (tOp (rIxA A.K) (tVar 0) (tVar 1)))
    tNext)
  (tRet (tC (.int 0))))
/-- _law_whole ['_law_found'] -/
def t_l_whole (A : Ad) (E : XK) : TS :=
  (tRet (tAndV (tCB (rIsi A.K) (tCons (tVar 0) (tCons (tC (.ty "int")) tNil))) (tNotV (tCB (rIsi A.K) (tCons (tVar 0) (tCons (tC (.ty "bool")) tNil))))))
/-- _law_taken ['_law_shelf'] -/
def t_l_taken (A : Ad) (E : XK) : TS :=
  (fun D σ H => (fun W0 => (tRet (tMethS A.c_Shelf "take" (sp_Shelf_take A) (WE W0) (tVar 0) tNil))) (wOnly A.K (.ref A.c_NoRoom) (fun _ _ _ => (tRet (tUn (rU fun i => .int (-i)) (tC (.int 1))))) (fun _ _ _ _ => False) D) D σ H)
/-- _law_given ['_law_shelf', '_law_slot'] -/
def t_l_given (A : Ad) (E : XK) : TS :=
  (fun D σ H => (fun W0 => (tRet (tOp rIsNon (tMethS A.c_Shelf "give" (sp_Shelf_give A) (WE W0) (tVar 0) (tCons (tVar 1) tNil)) (tC .non)))) (wOnly A.K (.ref A.c_NotOut) (fun _ _ _ => (tRet (tC (.bl false)))) (fun _ _ _ _ => False) D) D σ H)
/-- _law_deed ['_law_shelf', '_law_row', '_law_cell', '_law_slot', '_law_due', '_law_good'] -/
def t_l_deed (A : Ad) (E : XK) : TS :=
  (tSeq (tIfS (tTest (tOp (rEqA A.K) (tOp rModI (tVar 2) (tC (.int 2))) (tC (.int 0))))
    (tSeq (tAsg (tCall (sp_l_taken A) [] E0 (tCons (tVar 0) tNil)) (gName 3))
    (tSeq (tAsg (tUn (rU fun i => .int (-i)) (tC (.int 1))) (gName 4))
    (tSeq (tIfS (tTest (tOp (rInP A.K) (tC (.bl false)) (tVar 1)))
      (tSeq (tAsg (tBM A.K "list" (rIndexA A.K) (tVar 1) (tCons (tC (.bl false)) tNil)) (gName 4))
      (tAsg (tC (.bl true)) (gSub (tVar 1) (tVar 4) rSetL)))
      tNext)
    (tRet (tAndV (tCall (sp_l_whole A) [] E0 (tCons (tVar 3) tNil)) (tOp (rEqA A.K) (tVar 3) (tVar 4)))))))
    tNext)
  (tSeq (tAsg (tOp rSubI (tOp rModI (tOp rDivI (tVar 2) (tC (.int 2))) (tOp rAddA (tCB (rLenA A.K) (tCons (tVar 1) tNil)) (tC (.int 5)))) (tC (.int 2))) (gName 3))
  (tSeq (tAsg (tAndV (tChain rLeI rLtI (tC (.int 0)) (tVar 3) (tCB (rLenA A.K) (tCons (tVar 1) tNil))) (tOp (rIxA A.K) (tVar 1) (tVar 3))) (gName 5))
  (tSeq (tIfS (tB (tVar 5))
    (tAsg (tC (.bl false)) (gSub (tVar 1) (tVar 3) rSetL))
    tNext)
  (tRet (tOp (rEqA A.K) (tCall (sp_l_given A) [] E0 (tCons (tVar 0) (tCons (tVar 3) tNil))) (tVar 5)))))))
/-- _law_stands ['_law_shelf', '_law_row', '_law_kept', '_law_one', '_law_copy', '_law_slot', '_law_free', '_law_found', '_law_many', '_law_later'] -/
def t_l_stands (A : Ad) (E : XK) : TS :=
  (tSeq (tFor (iList A.K (tVar 2)) (gTup A.K 2 (gCons (gName 3) (gCons (gName 4) gNil)))
    (tIfS (tTest (tOp (rNeA A.K) (tVar 3) (tVar 4)))
      (tRet (tC (.bl false)))
      tNext))
  (tSeq (tAsg (tLc (iRng1 (tCons (tCB (rLenA A.K) (tCons (tVar 1) tNil)) tNil)) (gName 5) (tNot (tB (tOp (rIxA A.K) (tVar 1) (tVar 5)))) (tVar 5) [5]) (gName 6))
  (tSeq (tAsg (tMeth A.c_Shelf "free" (sp_Shelf_free A) [] E0 (tVar 0) tNil) (gName 7))
  (tSeq (tAsg (tMeth A.c_Shelf "out" (sp_Shelf_out A) [] E0 (tVar 0) tNil) (gName 8))
  (tSeq (tIfS (tOr (tNot (tB (tCB (rIsi A.K) (tCons (tVar 7) (tCons (tC (.ty "list")) tNil))))) (tOr (tNot (tB (tCall (sp_l_whole A) [] E0 (tCons (tVar 8) tNil)))) (tTest (tOp (rNeA A.K) (tVar 8) (tOp rSubI (tCB (rLenA A.K) (tCons (tVar 1) tNil)) (tCB (rLenA A.K) (tCons (tVar 6) tNil)))))))
    (tRet (tC (.bl false)))
    tNext)
  (tSeq (tFor (iList A.K (tVar 7)) (gName 5)
    (tIfS (tNot (tB (tCall (sp_l_whole A) [] E0 (tCons (tVar 5) tNil))))
      (tRet (tC (.bl false)))
      tNext))
  (tSeq (tIfS (tTest (tOp (rNeA A.K) (tVar 7) (tVar 6)))
    (tRet (tC (.bl false)))
    tNext)
  (tSeq (tDrop (tBM0 A.K "list" rClear (tVar 2)))
  (tSeq (tDrop (tBM A.K "list" rAppend (tVar 2) (tCons (tTup (tCons (tVar 7) (tCons (tCB (rListA A.K) (tCons (tVar 7) tNil)) tNil))) tNil)))
  (tSeq (tAsg (tMeth A.c_Shelf "free" (sp_Shelf_free A) [] E0 (tVar 0) tNil) (gName 9))
  (tSeq (tDrop (tBM A.K "list" rAppend (tVar 9) (tCons (tCB (rLenA A.K) (tCons (tVar 1) tNil)) tNil)))
  (tRet (tOp (rEqA A.K) (tMeth A.c_Shelf "free" (sp_Shelf_free A) [] E0 (tVar 0) tNil) (tVar 6))))))))))))))
/-- law ['_law_script', '_law_page', '_law_size', '_law_slots', '_law_shelf', '_law_other', '_law_row', '_law_kept', '_law_cell'] -/
def t_law (A : Ad) (E : XK) : TS :=
  (tSeq (tAsg (tOp rModI (tCall (sp_l_cell_at A) [] E0 (tCons (tVar 0) (tCons (tC (.int 0)) tNil))) (tC (.int 40))) (gName 1))
  (tSeq (tAsg (tOp rAddA (tC (.int 1)) (tOp rModI (tCall (sp_l_cell_at A) [] E0 (tCons (tVar 0) (tCons (tC (.int 1)) tNil))) (tC (.int 60)))) (gName 2))
  (tSeq (tAsg (tOp rAddA (tC (.int 1)) (tOp rModI (tCall (sp_l_cell_at A) [] E0 (tCons (tVar 0) (tCons (tC (.int 2)) tNil))) (tC (.int 9)))) (gName 3))
  (tSeq (tIfS (tTest (tOp (rEqA A.K) (tOp rModI (tOp rDivI (tCall (sp_l_cell_at A) [] E0 (tCons (tVar 0) (tCons (tC (.int 2)) tNil))) (tC (.int 9))) (tC (.int 8))) (tC (.int 1))))
    (tAsg (tOp rAddA (tC (.int 1)) (tOp rModI (tOp rDivI (tCall (sp_l_cell_at A) [] E0 (tCons (tVar 0) (tCons (tC (.int 2)) tNil))) (tC (.int 72))) (tC (.int 60)))) (gName 3))
    tNext)
  (tSeq (tAsg (tMake A.c_Shelf (sp_Shelf_init A) [] E0 (tCons (tVar 1) (tCons (tVar 2) (tCons (tVar 3) tNil)))) (gName 4))
  (tSeq (tAsg (tMake A.c_Shelf (sp_Shelf_init A) [] E0 (tCons (tVar 1) (tCons (tVar 2) (tCons (tVar 3) tNil)))) (gName 5))
  (tSeq (tIfS (tTest (tOp (rNeA A.K) (tMeth A.c_Shelf "take" (sp_Shelf_take A) [] E0 (tVar 5) tNil) (tC (.int 0))))
    (tRet (tC (.bl false)))
    tNext)
  (tSeq (tAsg (tOp rMulA (tLst (tCons (tC (.bl false)) tNil)) (tVar 3)) (gName 6))
  (tSeq (tAsg (tLst tNil) (gName 7))
  (tSeq (tFor (iList A.K (tSl (rSlL A.K) (tVar 0) (tPart (tC (.int 3))) tNoPart)) (gName 8)
    (tIfS (tOr (tNot (tB (tCall (sp_l_deed A) [] E0 (tCons (tVar 4) (tCons (tVar 6) (tCons (tVar 8) tNil)))))) (tNot (tB (tCall (sp_l_stands A) [] E0 (tCons (tVar 4) (tCons (tVar 6) (tCons (tVar 7) tNil)))))))
      (tRet (tC (.bl false)))
      tNext))
  (tSeq (tIfS (tOr (tNot (tB (tCall (sp_l_whole A) [] E0 (tCons (tFld A.K (tVar 4) "page") tNil)))) (tOr (tTest (tOp (rNeA A.K) (tFld A.K (tVar 4) "page") (tVar 1))) (tTest (tOp (rNeA A.K) (tFld A.K (tVar 4) "size") (tVar 2)))))
    (tRet (tC (.bl false)))
    tNext)
  (tRet (tAndV (tCall (sp_l_stands A) [] E0 (tCons (tVar 4) (tCons (tVar 6) (tCons (tVar 7) tNil)))) (tCall (sp_l_stands A) [] E0 (tCons (tVar 5) (tCons (tOp rAddA (tLst (tCons (tC (.bl true)) tNil)) (tOp rMulA (tLst (tCons (tC (.bl false)) tNil)) (tOp rSubI (tVar 3) (tC (.int 1))))) (tCons (tLst tNil) tNil)))))))))))))))))

/-! ### the defs of shelves keep their promises -/
theorem keys_len {kvs : List (Key × V)} {row : List Bool} (p : (kvs.map (·.1)).Perm ((takenFrom 0 row).map Sum.inl)) : kvs.length = row.count true := by
  have := p.length_eq
  rw [List.length_map, List.length_map, len_taken] at this
  exact this
theorem key_taken {kvs : List (Key × V)} {row : List Bool} (p : (kvs.map (·.1)).Perm ((takenFrom 0 row).map Sum.inl)) (s : Int) : (valV kvs (.inl s)).isSome = true ↔ ∃ i : Nat, s = i ∧ row[i]? = some true := by
  rw [nd_keys, p.mem_iff, List.mem_map]
  constructor
  · rintro ⟨x, hx, e⟩
    cases e
    obtain ⟨i, h1, h2⟩ := (mem_taken _ _ _).mp hx
    exact ⟨i, by omega, h2⟩
  · rintro ⟨i, h1, h2⟩
    exact ⟨s, (mem_taken _ _ _).mpr ⟨i, by omega, h2⟩, rfl⟩
section
variable (A : Ad) (na : NA A)
include na
theorem pure_Shelf_init (vs : List V) (H : Hp) (Q : VK) (E : XK) (h : sp_Shelf_init A vs H Q E) : t_Shelf_init A E { nx := fun _ H' => Q .non H', rt := Q } (start ["self", "page", "size", "slots"] vs) H := by
  obtain ⟨p, dx, pg, sz, n, rfl, hp, n2, q⟩ := h
  unfold t_Shelf_init
  have l1 : (putF "page" (V.int pg) []).length = 1 := rfl
  have l2 := length_putF "size" (V.int sz) (putF "page" (.int pg) [])
  walk_at "rd"
  refine r_sfldR hp na.cl_Shelf na.na_Shelf_page (by show 0 < 1000; decide) trivial fun _ => ?_
  walk_at "rd"
  refine r_sfldR upd_same na.cl_Shelf na.na_Shelf_size (by omega) trivial fun _ => ?_
  rw [upd_upd]
  walk_at "rd"
  refine ⟨⟨by omega, by omega, by omega, by omega, by omega⟩, fun fl hfl => ?_⟩
  have npf : p ≠ fl := ne_of_none upd_same hfl
  have hfl0 : H fl = none := by rw [upd_ne (Ne.symm npf)] at hfl; exact hfl
  have l3 := length_putF "_free" (V.ref fl) (putF "size" (.int sz) (putF "page" (.int pg) []))
  walk_at "rd"
  refine r_sfldR ((upd_ne npf).trans upd_same) na.cl_Shelf na.na_Shelf__free (by omega) trivial fun _ => ?_
  walk_at "rd"
  intro td htd
  have ntd : p ≠ td := ne_of_none upd_same htd
  have htd1 := htd
  rw [upd_ne (Ne.symm ntd)] at htd1
  have nfd : fl ≠ td := ne_of_none upd_same htd1
  rw [upd_ne (Ne.symm nfd), upd_ne (Ne.symm ntd)] at htd1
  walk_at "rd"
  refine r_sfldR ((upd_ne ntd).trans upd_same) na.cl_Shelf na.na_Shelf__taken (by omega) trivial fun _ => ?_
  walk_at "rd"
  refine q _ fl td (fun b o e nb => ?_) hfl0 htd1 (Ne.symm npf) (Ne.symm ntd) nfd ⟨⟨dx, upd_same⟩, ⟨(List.range n).map fun i => ((0 + i : Nat) : Int), ?_, ?_, ?_⟩, ⟨[], ?_, ?_⟩, by rw [List.length_replicate]; exact n2⟩
  · rw [upd_ne nb, upd_ne (ne_of_none e htd1), upd_ne nb, upd_ne (ne_of_none e hfl0), upd_ne nb]
    exact e
  · rw [upd_ne (Ne.symm npf), upd_ne nfd, upd_ne (Ne.symm npf), upd_same]
    unfold rgV
    rw [List.map_map]
    have : ((n : Int) - 0).toNat = n := by omega
    rw [this]
    congr 2
  · rw [← free_all]
    exact ord_of_up (free_up _ _)
  · rw [← free_all]
  · rw [upd_ne (Ne.symm ntd), upd_same]
  · rw [taken_none]
    exact List.Perm.refl _
theorem pure_Shelf_out (vs : List V) (H : Hp) (Q : VK) (E : XK) (h : sp_Shelf_out A vs H Q E) : t_Shelf_out A E { nx := fun _ H' => Q .non H', rt := Q } (start ["self"] vs) H := by
  obtain ⟨a, fl, td, pg, sz, row, rfl, hS, q⟩ := h
  obtain ⟨dx, h1⟩ := hS.ob
  obtain ⟨kvs, h4, h5⟩ := hS.tk
  unfold t_Shelf_out
  walk_at "rd"
  refine r_fldR h1 na.cl_Shelf na.na_Shelf__taken (sf_taken _ _ _ _) ?_
  walk_at "rd"
  refine r_lenD h4 ?_
  rw [keys_len h5]
  exact q
theorem pure_Shelf_free (vs : List V) (H : Hp) (Q : VK) (E : XK) (h : sp_Shelf_free A vs H Q E) : t_Shelf_free A E { nx := fun _ H' => Q .non H', rt := Q } (start ["self"] vs) H := by
  obtain ⟨a, fl, td, pg, sz, row, rfl, hS, q⟩ := h
  obtain ⟨dx, h1⟩ := hS.ob
  obtain ⟨ns, h2, h3, hp⟩ := hS.fr
  unfold t_Shelf_free
  walk_at "rd"
  refine r_fldR h1 na.cl_Shelf na.na_Shelf__free (sf_free _ _ _ _) ?_
  walk_at "rd"
  refine r_sortI (toL h2) fun ns' p p1 p2 hp' => ?_
  rw [up_unique (free_up row 0) p2 (p1.trans hp)]
  exact q p hp'
theorem pure_Shelf_take (vs : List V) (H : Hp) (Q : VK) (E : XK) (h : sp_Shelf_take A vs H Q E) : t_Shelf_take A E { nx := fun _ H' => Q .non H', rt := Q } (start ["self", "slot"] vs) H := by
  obtain ⟨a, fl, td, pg, sz, row, rfl, hS, q0, q⟩ := h
  obtain ⟨dx, h1⟩ := hS.ob
  obtain ⟨ns, h2, h3, hp⟩ := hS.fr
  obtain ⟨kvs, h4, h5⟩ := hS.tk
  have hz := hS.z
  unfold t_Shelf_take
  walk_at "rd"
  refine r_fldR h1 na.cl_Shelf na.na_Shelf__free (sf_free _ _ _ _) ?_
  refine r_truL (toL h2) ?_
  have hl : ns.length = row.count false := by rw [hp.length_eq, len_free]
  by_cases hf : false ∈ row
  · have h0 : 0 < ns.length := by rw [hl]; exact List.count_pos_iff.mpr hf
    have e : (ns.map V.int).isEmpty = false := by
      cases ns with
      | nil => exact absurd h0 (by decide)
      | cons _ _ => rfl
    rw [e]
    refine r_ifF ?_
    walk_at "rd"
    refine r_fldR h1 na.cl_Shelf na.na_Shelf__free (sf_free _ _ _ _) ?_
    walk_at "rd"
    refine r_hpop h2 h3 h0 fun ns' p1 p2 => ?_
    rw [heap_first h3 hp hf] at p1 ⊢
    have nfa : a ≠ fl := ne_of h1 h2 (by intro z; cases z)
    have nft : td ≠ fl := ne_of h4 h2 (by intro z; cases z)
    have nta : a ≠ td := ne_of h1 h4 (by intro z; cases z)
    walk_at "rd"
    refine r_fldR ((upd_ne nfa).trans h1) na.cl_Shelf na.na_Shelf__taken (sf_taken _ _ _ _) ?_
    walk_at "rd"
    have hi := idx_false hf
    have hnew : valV kvs (.inl ((row.idxOf false : Nat) : Int)) = none := by
      cases e2 : valV kvs (.inl ((row.idxOf false : Nat) : Int)) with
      | none => rfl
      | some v =>
        obtain ⟨i, e3, e4⟩ := (key_taken h5 ((row.idxOf false : Nat) : Int)).mp (by rw [e2]; rfl)
        have : row.idxOf false = i := by omega
        rw [← this, hi] at e4
        cases e4
    have hkl : kvs.length ≤ 60 := by rw [keys_len h5]; exact Nat.le_trans List.count_le_length hz
    refine r_dputI ((upd_ne nft).trans h4) (Nat.lt_of_le_of_lt hkl (by decide)) ?_
    walk_at "rd"
    refine q hf _ (fun b o e n1 n2 => by rw [upd_ne n2, upd_ne n1]; exact e) ⟨⟨dx, by rw [upd_ne nta, upd_ne nfa]; exact h1⟩, ⟨ns', by rw [upd_ne (Ne.symm nft), upd_same], p2, ?_⟩, ⟨putK kvs (.inl ((row.idxOf false : Nat) : Int)) (.bl true), upd_same, ?_⟩, by rw [List.length_set]; exact hz⟩
    · exact List.Perm.cons_inv ((p1.trans hp).trans (free_set hi))
    · rw [putK_new _ hnew, List.map_append]
      refine List.Perm.trans ?_ ((taken_set hi).map Sum.inl).symm
      refine List.Perm.trans (List.perm_append_comm) ?_
      exact List.Perm.cons _ h5
  · have h0 : ns = [] := List.eq_nil_of_length_eq_zero (by rw [hl]; exact List.count_eq_zero.mpr hf)
    rw [h0]
    refine r_ifT ?_
    exact q0 hf
theorem pure_Shelf_give (vs : List V) (H : Hp) (Q : VK) (E : XK) (h : sp_Shelf_give A vs H Q E) : t_Shelf_give A E { nx := fun _ H' => Q .non H', rt := Q } (start ["self", "slot"] vs) H := by
  obtain ⟨a, fl, td, pg, sz, row, s, rfl, hS, q0, q⟩ := h
  obtain ⟨dx, h1⟩ := hS.ob
  obtain ⟨ns, h2, h3, hp⟩ := hS.fr
  obtain ⟨kvs, h4, h5⟩ := hS.tk
  have hz := hS.z
  unfold t_Shelf_give
  walk_at "rd"
  refine r_fldR h1 na.cl_Shelf na.na_Shelf__taken (sf_taken _ _ _ _) ?_
  refine r_dinI h4 ?_
  cases hv : (valV kvs (.inl s)).isSome with
  | false =>
    refine ⟨_, rfl, r_ifT ?_⟩
    refine q0 fun i e1 e2 => ?_
    have := (key_taken h5 s).mpr ⟨i, e1, e2⟩
    rw [hv] at this
    cases this
  | true =>
    obtain ⟨i, rfl, hi⟩ := (key_taken h5 s).mp hv
    refine ⟨_, rfl, r_ifF ?_⟩
    walk_at "rd"
    refine r_fldR h1 na.cl_Shelf na.na_Shelf__taken (sf_taken _ _ _ _) ?_
    walk_at "rd"
    refine r_ddelI h4 hv ?_
    have nfa : a ≠ fl := ne_of h1 h2 (by intro z; cases z)
    have nft : td ≠ fl := ne_of h4 h2 (by intro z; cases z)
    have nta : a ≠ td := ne_of h1 h4 (by intro z; cases z)
    walk_at "rd"
    refine r_fldR ((upd_ne nta).trans h1) na.cl_Shelf na.na_Shelf__free (sf_free _ _ _ _) ?_
    walk_at "rd"
    have hl : ns.length = row.count false := by rw [hp.length_eq, len_free]
    refine r_hpush ((upd_ne (Ne.symm nft)).trans h2) h3 (Nat.lt_of_le_of_lt (m := 60) (by rw [hl]; exact Nat.le_trans List.count_le_length hz) (by decide)) fun ns' p1 p2 => ?_
    walk_at "rd"
    have sb := set_back hi
    have sf := set_false hi
    refine q i rfl hi _ (fun b o e n1 n2 => by rw [upd_ne n1, upd_ne n2]; exact e) ⟨⟨dx, by rw [upd_ne nfa, upd_ne nta]; exact h1⟩, ⟨ns', upd_same, p2, ?_⟩, ⟨dropK kvs (.inl (i : Int)), by rw [upd_ne nft, upd_same], ?_⟩, by rw [List.length_set]; exact hz⟩
    · refine p1.trans ?_
      have := free_set sf
      rw [sb] at this
      exact (List.Perm.cons _ hp).trans this.symm
    · have t := taken_set sf
      rw [sb] at t
      rw [keys_drop]
      have f := h5.filter fun j => decide (j ≠ Sum.inl (i : Int))
      refine f.trans ?_
      have g := (t.map (Sum.inl : Int → Key)).filter fun j => decide (j ≠ Sum.inl (i : Int))
      refine g.trans ?_
      rw [List.map_cons, List.filter_cons, if_neg (by simp)]
      refine List.Perm.of_eq (List.filter_eq_self.mpr fun j hj => ?_)
      obtain ⟨x, hx, rfl⟩ := List.mem_map.mp hj
      refine decide_eq_true fun z => ?_
      cases z
      obtain ⟨k, e1, e2⟩ := (mem_taken _ _ _).mp hx
      have : i = k := by omega
      subst this
      rw [sf] at e2
      cases e2
end

theorem free_fm (row : List Bool) : (List.range row.length).filterMap (fun i : Nat => if row[i]? = some false then some (V.int (i : Int)) else none) = (freeFrom 0 row).map V.int := by
  have key : ∀ (row : List Bool) (k : Nat), (freeFrom k row).map V.int = (List.range row.length).filterMap (fun i => if row[i]? = some false then some (V.int ((k + i : Nat) : Int)) else none) := by
    intro row
    induction row with
    | nil => intro k; rfl
    | cons b r ih =>
      intro k
      rw [List.length_cons, List.range_succ_eq_map, List.filterMap_cons, List.filterMap_map]
      unfold freeFrom
      have e : (List.range r.length).filterMap ((fun i => if (b :: r)[i]? = some false then some (V.int ((k + i : Nat) : Int)) else none) ∘ Nat.succ) = (freeFrom (k + 1) r).map V.int := by
        rw [ih (k + 1)]
        congr 1
        funext i
        show (if (b :: r)[i + 1]? = some false then some (V.int ((k + (i + 1) : Nat) : Int)) else none) = _
        rw [List.getElem?_cons_succ, show k + (i + 1) = k + 1 + i by omega]
      rw [e]
      cases b with
      | true => simp
      | false => simp
  rw [key row 0]
  simp
theorem count_two (row : List Bool) : row.count true + row.count false = row.length := by
  induction row with
  | nil => rfl
  | cons b r ih =>
    rw [List.count_cons, List.count_cons, List.length_cons]
    cases b <;> simp <;> omega
section
variable (A : Ad) (na : NA A)
include na
theorem ints_at {ns : List Int} {k : Int} (h0 : 0 ≤ k) (h1 : k < (ns.length : Int)) : (ns.map V.int)[k.toNat]? = some (.int (ns.getD k.toNat 0)) := by
  have hk : k.toNat < ns.length := by omega
  rw [List.getElem?_map, List.getD_eq_getElem?_getD, List.getElem?_eq_getElem hk]
  rfl
theorem pure_l_cell_at (vs : List V) (H : Hp) (Q : VK) (E : XK) (h : sp_l_cell_at A vs H Q E) : t_l_cell_at A E { nx := fun _ H' => Q .non H', rt := Q } (start ["_law_script", "_law_k"] vs) H := by
  obtain ⟨a, k, ns, rfl, hs, h0, q⟩ := h
  unfold t_l_cell_at
  unfold cellAt at q
  walk_at "rd"
  refine r_lenL hs ?_
  walk_at "rd"
  rw [List.length_map]
  refine r_ifd (fun h1 => ?_) (fun h1 => ?_)
  · walk_at "rd"
    refine r_ixL hs (Int.toNat_of_nonneg h0).symm (ints_at (A := A) na h0 h1) ?_
    rw [if_pos h1] at q
    exact q
  · walk_at "rd"
    rw [if_neg h1] at q
    exact q
theorem pure_l_whole (vs : List V) (H : Hp) (Q : VK) (E : XK) (h : sp_l_whole A vs H Q E) : t_l_whole A E { nx := fun _ H' => Q .non H', rt := Q } (start ["_law_found"] vs) H := by
  obtain ⟨x, rfl, hp, q⟩ := h
  unfold t_l_whole
  cases x with
  | non => walk_at "rd"; exact q
  | bl b => walk_at "rd"; exact q
  | int i => walk_at "rd"; exact q
  | str z => walk_at "rd"; exact q
  | _ => exact absurd hp Bool.false_ne_true
theorem pure_l_taken (vs : List V) (H : Hp) (Q : VK) (E : XK) (h : sp_l_taken A vs H Q E) : t_l_taken A E { nx := fun _ H' => Q .non H', rt := Q } (start ["_law_shelf"] vs) H := by
  obtain ⟨a, fl, td, pg, sz, row, rfl, hS, q0, q⟩ := h
  obtain ⟨dx, h1⟩ := hS.ob
  unfold t_l_taken
  dsimp only
  walk_at "rd"
  refine r_recv h1 (sf_no _ _ _ _ (by decide +kernel) (by decide +kernel) (by decide +kernel) (by decide +kernel)) ?_
  walk_at "rd"
  refine ⟨a, fl, td, pg, sz, row, rfl, hS, fun hf => ?_, fun hf H' b hS' => ?_⟩
  · refine ⟨true, na.ex_NoRoom_NoRoom, fun _ e he => ?_, fun e => Bool.noConfusion e⟩
    walk_at "rd"
    exact q0 hf
  · exact q hf H' b hS'
theorem pure_l_given (vs : List V) (H : Hp) (Q : VK) (E : XK) (h : sp_l_given A vs H Q E) : t_l_given A E { nx := fun _ H' => Q .non H', rt := Q } (start ["_law_shelf", "_law_slot"] vs) H := by
  obtain ⟨a, fl, td, pg, sz, row, s, rfl, hS, q0, q⟩ := h
  obtain ⟨dx, h1⟩ := hS.ob
  unfold t_l_given
  dsimp only
  walk_at "rd"
  refine r_recv h1 (sf_no _ _ _ _ (by decide +kernel) (by decide +kernel) (by decide +kernel) (by decide +kernel)) ?_
  walk_at "rd"
  refine ⟨a, fl, td, pg, sz, row, s, rfl, hS, fun hf => ?_, fun i e hi H' b hS' => ?_⟩
  · refine ⟨true, na.ex_NotOut_NotOut, fun _ e he => ?_, fun e => Bool.noConfusion e⟩
    walk_at "rd"
    exact q0 hf
  · walk_at "rd"
    exact q i e hi H' b hS'
theorem pure_l_deed (vs : List V) (H : Hp) (Q : VK) (E : XK) (h : sp_l_deed A vs H Q E) : t_l_deed A E { nx := fun _ H' => Q .non H', rt := Q } (start ["_law_shelf", "_law_row", "_law_cell", "_law_slot", "_law_due", "_law_good"] vs) H := by
  obtain ⟨a, fl, td, l, pg, sz, row, c, rfl, hS, hl, nlf, q⟩ := h
  obtain ⟨dx, h1⟩ := hS.ob
  obtain ⟨ns, h2, _, _⟩ := hS.fr
  obtain ⟨kvs, h4, _⟩ := hS.tk
  have nla : l ≠ a := ne_of hl h1 (by intro z; cases z)
  have nlt : l ≠ td := ne_of hl h4 (by intro z; cases z)
  have hz := hS.z
  unfold t_l_deed
  walk_at "rd"
  refine r_ifd (fun hc => ?_) (fun hc => ?_)
  · walk_at "rd"
    refine ⟨a, fl, td, pg, sz, row, rfl, hS, fun hf => ?_, fun hf H' b hS' => ?_⟩
    · walk_at "rd"
      refine r_inB (toL hl) ?_
      walk_at "rd"
      refine r_ifd (fun h => absurd h hf) (fun _ => ?_)
      walk_at "rd"
      refine ⟨_, rfl, rfl, ?_⟩
      refine ⟨_, rfl, r_ifT ?_⟩
      walk_at "rd"
      exact q H row (fun b o e _ _ _ => e) rfl hS hl
    · have hl' : H' l = some (.lst (row.map V.bl)) := b _ _ hl nlf nlt
      walk_at "rd"
      refine r_inB (toL hl') ?_
      walk_at "rd"
      refine r_ifd (fun _ => ?_) (fun h => absurd hf h)
      have hi := idx_at hf
      have hil := (List.getElem?_eq_some_iff.mp hi).1
      walk_at "rd"
      refine ⟨ty_list (toL hl'), ?_⟩
      walk_at "rd"
      refine r_indexB (toL hl') hf ?_
      walk_at "rd"
      refine r_setL hl' rfl (by rw [List.length_map]; exact hil) ?_
      walk_at "rd"
      refine ⟨_, rfl, rfl, ?_⟩
      refine ⟨_, rfl, r_ifT ?_⟩
      walk_at "rd"
      rw [decide_eq_true rfl]
      rw [← List.map_set]
      refine q _ _ (fun b' o e n1 n2 n3 => by rw [upd_ne n3]; exact b _ _ e n1 n2) (List.length_set) (hS'.same (fun o e => by rw [upd_ne (Ne.symm nla)]; exact e) (fun o e => by rw [upd_ne (Ne.symm nlf)]; exact e) (fun o e => by rw [upd_ne (Ne.symm nlt)]; exact e)) upd_same
  · walk_at "rd"
    refine r_lenL (toL hl) ?_
    rw [List.length_map]
    walk_at "rd"
    generalize hs : c / 2 % ((row.length : Int) + 5) - 2 = s
    refine r_ifd (fun h0 => ?_) (fun h0 => ?_)
    · walk_at "rd"
      refine r_lenL (toL hl) ?_
      rw [List.length_map]
      walk_at "rd"
      refine r_ifd (fun h3 => ?_) (fun h3 => ?_)
      · obtain ⟨i, rfl⟩ : ∃ i : Nat, s = i := ⟨s.toNat, by omega⟩
        have hil : i < row.length := by omega
        obtain ⟨b, hb⟩ : ∃ b, row[i]? = some b := ⟨_, List.getElem?_eq_getElem hil⟩
        walk_at "rd"
        refine r_ixL (toL hl) rfl (bl_at hb) ?_
        walk_at "rd"
        cases b with
        | true =>
          refine r_ifT ?_
          walk_at "rd"
          refine r_setL hl rfl (by rw [List.length_map]; exact hil) ?_
          walk_at "rd"
          have hS1 : ShelfAt A (upd H l (.lst ((row.map V.bl).set i (.bl false)))) a fl td pg sz row := hS.same (fun o e => by rw [upd_ne (Ne.symm nla)]; exact e) (fun o e => by rw [upd_ne (Ne.symm nlf)]; exact e) (fun o e => by rw [upd_ne (Ne.symm nlt)]; exact e)
          refine ⟨a, fl, td, pg, sz, row, i, rfl, hS1, fun hno => absurd hb (hno i rfl), fun i' e hi' H' b' hS' => ?_⟩
          have : i' = i := by omega
          subst this
          walk_at "rd"
          refine q H' _ (fun b'' o e n1 n2 n3 => b' _ _ (by rw [upd_ne n3]; exact e) n1 n2) List.length_set hS' ?_
          rw [b' _ _ upd_same nlf nlt, List.map_set]
        | false =>
          refine r_ifF ?_
          walk_at "rd"
          refine ⟨a, fl, td, pg, sz, row, i, rfl, hS, fun hno => ?_, fun i' e hi' H' b' hS' => ?_⟩
          · walk_at "rd"
            exact q H row (fun b o e _ _ _ => e) rfl hS hl
          · have : i' = i := by omega
            subst this
            rw [hb] at hi'
            cases hi'
      · walk_at "rd"
        refine ⟨a, fl, td, pg, sz, row, s, rfl, hS, fun hno => ?_, fun i' e hi' H' b' hS' => ?_⟩
        · walk_at "rd"
          exact q H row (fun b o e _ _ _ => e) rfl hS hl
        · have := (List.getElem?_eq_some_iff.mp hi').1
          omega
    · walk_at "rd"
      refine ⟨a, fl, td, pg, sz, row, s, rfl, hS, fun hno => ?_, fun i' e hi' H' b' hS' => ?_⟩
      · walk_at "rd"
        exact q H row (fun b o e _ _ _ => e) rfl hS hl
      · omega
theorem pure_l_stands (vs : List V) (H : Hp) (Q : VK) (E : XK) (h : sp_l_stands A vs H Q E) : t_l_stands A E { nx := fun _ H' => Q .non H', rt := Q } (start ["_law_shelf", "_law_row", "_law_kept", "_law_one", "_law_copy", "_law_slot", "_law_free", "_law_found", "_law_many", "_law_later"] vs) H := by
  obtain ⟨a, fl, td, l, k, pg, sz, row, rfl, hS, hl, ⟨ks, hk, hks⟩, nkf, nkl, q⟩ := h
  obtain ⟨dx, h1⟩ := hS.ob
  obtain ⟨ns, h2, _, _⟩ := hS.fr
  obtain ⟨kvs, h4, _⟩ := hS.tk
  have hz := hS.z
  have nka : k ≠ a := ne_of hk h1 (by intro z; cases z)
  have nkt : k ≠ td := ne_of hk h4 (by intro z; cases z)
  unfold t_l_stands
  walk_at "rd"
  refine ⟨k, rfl, ⟨_, toL hk⟩, for_list (K := A.K) (a := k) (xs := ks) (fun i σ H' => ∃ v1 v2 : Option V, σ = [some (.ref a), some (.ref l), some (.ref k), v1, v2, none, none, none, none, none] ∧ H' = H) ⟨none, none, rfl, rfl⟩ (fun i σ H' _ ⟨_, _, _, e⟩ => by rw [e]; exact toL hk) ?_ ?_⟩
  · rintro i x σ H' hx ⟨v1, v2, rfl, rfl⟩
    obtain ⟨t, f, c, ms, rfl, ht, hf, hc, _⟩ := hks x (List.mem_of_getElem? hx)
    refine r_gtup (toT ht) rfl ?_
    walk_at "rd"
    refine r_neL (toL hf) (toL hc) ?_
    rw [decide_eq_true rfl]
    refine ⟨_, rfl, r_ifF ?_⟩
    walk_at "rd"
    exact ⟨_, _, rfl, rfl⟩
  rintro σ H' ⟨v1, v2, rfl, rfl⟩
  walk_at "rd"
  refine r_lenL (toL hl) ?_
  rw [List.length_map]
  walk_at "rd"
  refine ⟨_, rfl, by omega, by omega, fun D hD => ?_⟩
  rw [Int.toNat_natCast]
  refine lc_fmR (fun i : Nat => if row[i]? = some false then some (V.int (i : Int)) else none) hD (Nat.le_trans hz (by decide)) (fun i H2 Ny Nn hi s hy hn => ?_) fun H2 s2 hD2 => ?_
  · walk_at "rd"
    refine ⟨rfl, ?_⟩
    walk_at "rd"
    obtain ⟨b, hb⟩ : ∃ b, row[i]? = some b := ⟨_, List.getElem?_eq_getElem hi⟩
    refine r_ixL (toL (s _ _ hl)) (by omega) (bl_at hb) ?_
    walk_at "rd"
    cases b with
    | true =>
      refine r_ifF ?_
      exact hn _ (Same.refl _) (by rw [hb]; rfl)
    | false =>
      refine r_ifT ?_
      walk_at "rd"
      refine hy _ _ (Same.refl _) ?_
      rw [hb]
      show some (V.int i) = some (V.int (0 + (i : Nat)))
      congr 2
      omega
  have efr : (List.range row.length).filterMap (fun i : Nat => if row[i]? = some false then some (V.int (i : Int)) else none) = (freeFrom 0 row).map V.int := free_fm row
  rw [efr] at hD2
  have hS2 := hS.sm s2
  obtain ⟨dx2, h12⟩ := hS2.ob
  have hl2 := s2 _ _ hl
  have hk2 := s2 _ _ hk
  have nDk : D ≠ k := Ne.symm (ne_of_none hk hD)
  walk_at "rd"
  refine r_recv h12 (sf_no _ _ _ _ (by decide +kernel) (by decide +kernel) (by decide +kernel) (by decide +kernel)) ?_
  walk_at "rd"
  refine ⟨a, fl, td, pg, sz, row, rfl, hS2, fun f hf => ?_⟩
  have s3 := same_new (o := .lst ((freeFrom 0 row).map V.int)) hf
  have hS3 := hS2.sm s3
  obtain ⟨dx3, h13⟩ := hS3.ob
  walk_at "rd"
  refine r_recv h13 (sf_no _ _ _ _ (by decide +kernel) (by decide +kernel) (by decide +kernel) (by decide +kernel)) ?_
  walk_at "rd"
  refine ⟨a, fl, td, pg, sz, row, rfl, hS3, ?_⟩
  walk_at "rd"
  refine isi_LL upd_same ?_
  walk_at "rd"
  refine wh_I ?_
  walk_at "rd"
  refine r_lenL (toL (s3 _ _ hl2)) ?_
  walk_at "rd"
  refine r_lenL (toL (s3 _ _ hD2)) ?_
  rw [List.length_map, List.length_map, len_free]
  have ecount : row.count true + row.count false = row.length := count_two row
  walk_at "rd"
  refine r_ifnd (fun hno => absurd (by omega) hno) (fun _ => ?_)
  walk_at "rd"
  refine ⟨f, rfl, ⟨_, toL upd_same⟩, for_list (K := A.K) (a := f) (xs := (freeFrom 0 row).map V.int) (fun i σ H' => ∃ v : Option V, σ = [some (.ref a), some (.ref l), some (.ref k), v1, v2, v, some (.ref D), some (.ref f), some (.int ((row.count true : Nat) : Int)), none] ∧ H' = upd H2 f (.lst ((freeFrom 0 row).map V.int))) ⟨none, rfl, rfl⟩ (fun i σ H' _ ⟨_, _, e⟩ => by rw [e]; exact toL upd_same) ?_ ?_⟩
  · rintro i x σ H3 hx ⟨v, rfl, rfl⟩
    obtain ⟨z, hz, rfl⟩ : ∃ z, (freeFrom 0 row)[i]? = some z ∧ x = V.int z := by
      rw [List.getElem?_map] at hx
      cases e : (freeFrom 0 row)[i]? with
      | none => rw [e] at hx; cases hx
      | some z => rw [e] at hx; exact ⟨z, rfl, (Option.some.inj hx).symm⟩
    walk_at "rd"
    refine wh_I ?_
    walk_at "rd"
    exact ⟨_, rfl, rfl⟩
  rintro σ H3 ⟨v, rfl, rfl⟩
  walk_at "rd"
  refine r_neL (toL upd_same) (toL (s3 _ _ hD2)) ?_
  rw [decide_eq_true rfl]
  walk_at "rd"
  have hk3 := s3 _ _ hk2
  have nfk : f ≠ k := Ne.symm (ne_of_none hk2 hf)
  have nfD : f ≠ D := Ne.symm (ne_of_none hD2 hf)
  refine ⟨ty_list (toL hk3), ?_⟩
  refine ⟨k, ks, rfl, rfl, hk3, ?_⟩
  walk_at "rd"
  refine ⟨ty_list (toL upd_same), ?_⟩
  have hff : upd (upd H2 f (.lst ((freeFrom 0 row).map V.int))) k (.lst []) f = some (.lst ((freeFrom 0 row).map V.int)) := by rw [upd_ne nfk, upd_same]
  walk_at "rd"
  refine r_listL (toL hff) fun c hc => ?_
  walk_at "rd"
  refine ⟨by show 2 ≤ sizeLine; decide, fun t ht => ?_⟩
  have nck : c ≠ k := fun z => by rw [z, upd_same] at hc; cases hc
  have ntk : t ≠ k := fun z => by rw [z, upd_ne (Ne.symm nck), upd_same] at ht; cases ht
  have hk4 : upd (upd (upd (upd H2 f (.lst ((freeFrom 0 row).map V.int))) k (.lst [])) c (.lst ((freeFrom 0 row).map V.int))) t (.tup [.ref f, .ref c]) k = some (.lst []) := by rw [upd_ne (Ne.symm ntk), upd_ne (Ne.symm nck), upd_same]
  walk_at "rd"
  refine r_append hk4 (by decide) ?_
  walk_at "rd"
  -- the heap so far
  generalize hH5 : upd (upd (upd (upd (upd H2 f (.lst ((freeFrom 0 row).map V.int))) k (.lst [])) c (.lst ((freeFrom 0 row).map V.int))) t (.tup [.ref f, .ref c])) k (.lst ([] ++ [V.ref t])) = H5
  have b5 : ∀ b o, H2 b = some o → b ≠ k → H5 b = some o := fun b o e nb => by
    have n1 : b ≠ f := ne_of_none e hf
    have e2 : upd (upd H2 f (.lst ((freeFrom 0 row).map V.int))) k (.lst []) b = some o := by rw [upd_ne nb, upd_ne n1]; exact e
    have n2 : b ≠ c := ne_of_none e2 hc
    have e3 : upd (upd (upd H2 f (.lst ((freeFrom 0 row).map V.int))) k (.lst [])) c (.lst ((freeFrom 0 row).map V.int)) b = some o := by rw [upd_ne n2]; exact e2
    have n3 : b ≠ t := ne_of_none e3 ht
    rw [← hH5, upd_ne nb, upd_ne n3]
    exact e3
  have hk5 : H5 k = some (.lst [V.ref t]) := by rw [← hH5]; exact upd_same
  have ht5 : H5 t = some (.tup [.ref f, .ref c]) := by rw [← hH5, upd_ne ntk, upd_same]
  have nct : c ≠ t := fun z => by rw [← z, upd_same] at ht; cases ht
  have hc5 : H5 c = some (.lst ((freeFrom 0 row).map V.int)) := by rw [← hH5, upd_ne nck, upd_ne nct, upd_same]
  have nfc : f ≠ c := fun z => by rw [← z, upd_ne nfk, upd_same] at hc; cases hc
  have nft : f ≠ t := fun z => by rw [← z, upd_ne nfc, upd_ne nfk, upd_same] at ht; cases ht
  have hf5 : H5 f = some (.lst ((freeFrom 0 row).map V.int)) := by rw [← hH5, upd_ne nfk, upd_ne nft, upd_ne nfc]; exact hff
  have hS5 : ShelfAt A H5 a fl td pg sz row := hS2.same (fun o e => b5 _ _ e (Ne.symm nka)) (fun o e => b5 _ _ e (Ne.symm nkf)) (fun o e => b5 _ _ e (Ne.symm nkt))
  obtain ⟨dx5, h15⟩ := hS5.ob
  have hl5 := b5 _ _ hl2 (Ne.symm nkl)
  have hD5 := b5 _ _ hD2 nDk
  refine r_recv h15 (sf_no _ _ _ _ (by decide +kernel) (by decide +kernel) (by decide +kernel) (by decide +kernel)) ?_
  walk_at "rd"
  refine ⟨a, fl, td, pg, sz, row, rfl, hS5, fun g hg => ?_⟩
  have s6 := same_new (o := .lst ((freeFrom 0 row).map V.int)) hg
  walk_at "rd"
  refine ⟨ty_list (toL upd_same), ?_⟩
  walk_at "rd"
  refine r_lenL (toL (s6 _ _ hl5)) ?_
  walk_at "rd"
  refine r_append upd_same ?_ ?_
  · have : ((freeFrom 0 row).map V.int).length ≤ 60 := by rw [List.length_map, len_free]; exact Nat.le_trans List.count_le_length hz
    exact Nat.lt_of_le_of_lt this (by decide)
  rw [upd_upd]
  have s7 := same_new (o := .lst ((freeFrom 0 row).map V.int ++ [V.int ((row.map V.bl).length : Nat)])) hg
  have hS7 := hS5.sm s7
  obtain ⟨dx7, h17⟩ := hS7.ob
  walk_at "rd"
  refine r_recv h17 (sf_no _ _ _ _ (by decide +kernel) (by decide +kernel) (by decide +kernel) (by decide +kernel)) ?_
  walk_at "rd"
  refine ⟨a, fl, td, pg, sz, row, rfl, hS7, fun r hr => ?_⟩
  have s8 := same_new (o := .lst ((freeFrom 0 row).map V.int)) hr
  walk_at "rd"
  refine r_eqL (toL upd_same) (toL (s8 _ _ (s7 _ _ hD5))) ?_
  rw [decide_eq_true rfl]
  have s78 := s7.trans s8
  refine q _ (fun b o e nb => s78 _ _ (b5 _ _ (s2 _ _ e) nb)) ⟨[.ref t], s78 _ _ hk5, fun x hx => ?_⟩
  rw [List.mem_singleton.mp hx]
  refine ⟨t, f, c, freeFrom 0 row, rfl, s78 _ _ ht5, s78 _ _ hf5, s78 _ _ hc5, ?_, ?_⟩
  · cases e : H' f with
    | none => exact e
    | some o => rw [s2 _ _ e] at hf; cases hf
  · cases e : H' c with
    | none => exact e
    | some o =>
      have e2 := s2 _ _ e
      rw [upd_ne nck, upd_ne (Ne.symm nfc), e2] at hc
      cases hc
end

section
variable (A : Ad) (na : NA A)
include na
theorem pure_law (vs : List V) (H : Hp) (Q : VK) (E : XK) (h : sp_law A vs H Q E) : t_law A E { nx := fun _ H' => Q .non H', rt := Q } (start ["_law_script", "_law_page", "_law_size", "_law_slots", "_law_shelf", "_law_other", "_law_row", "_law_kept", "_law_cell"] vs) H := by
  obtain ⟨a, ns, rfl, hs, h63, q⟩ := h
  unfold t_law
  have rc : ∀ (k : Int) (H' : Hp) (Q' : VK) (E' : XK), Same H H' → 0 ≤ k → Q' (.int (cellAt ns k)) H' → sp_l_cell_at A [.ref a, .int k] H' Q' E' := fun k H' Q' E' s hk q => ⟨a, k, ns, rfl, s.seq hs, hk, q⟩
  walk_at "rd"
  refine rc 0 _ _ _ (Same.refl H) (by decide) ?_
  walk_at "rd"
  refine rc 1 _ _ _ (Same.refl H) (by decide) ?_
  walk_at "rd"
  refine rc 2 _ _ _ (Same.refl H) (by decide) ?_
  walk_at "rd"
  refine rc 2 _ _ _ (Same.refl H) (by decide) ?_
  walk_at "rd"
  generalize hpg : cellAt ns 0 % 40 = pg
  generalize hsz : 1 + cellAt ns 1 % 60 = sz
  refine r_join (fun σ' H' => ∃ n : Nat, 1 ≤ n ∧ n ≤ 60 ∧ σ' = [some (.ref a), some (.int pg), some (.int sz), some (.int n), none, none, none, none, none] ∧ H' = H) ?_ (fun R main => ?_)
  rotate_left
  · refine r_ifd (fun h3 => ?_) (fun h3 => ?_)
    · walk_at "rd"
      refine rc 2 _ _ _ (Same.refl H) (by decide) ?_
      walk_at "rd"
      refine main _ _ ⟨(1 + cellAt ns 2 / 72 % 60).toNat, by omega, by omega, ?_, rfl⟩
      have : ((1 + cellAt ns 2 / 72 % 60).toNat : Int) = 1 + cellAt ns 2 / 72 % 60 := by omega
      rw [this]
      rfl
    · walk_at "rd"
      refine main _ _ ⟨(1 + cellAt ns 2 % 9).toNat, by omega, by omega, ?_, rfl⟩
      have : ((1 + cellAt ns 2 % 9).toNat : Int) = 1 + cellAt ns 2 % 9 := by omega
      rw [this]
      rfl
  rintro σ' H' ⟨n, n1, n2, rfl, rfl⟩
  walk_at "rd"
  intro s1 d1 hs1 hd1 ne1
  refine ⟨s1, d1, pg, sz, n, rfl, upd_same, n2, fun H1 fl1 td1 b1 hf1 ht1 _ _ _ hS1 => ⟨rfl, ?_⟩⟩
  -- what stood before the first shelf was made stands
  have S1 : Same H' H1 := fun b o e => b1 b o ((upd_ne (ne_of_none e hs1)).trans ((upd_ne (ne_of_none e hd1)).trans e)) (ne_of_none e hs1)
  have old1 : ∀ b o, H' b = some o → b ≠ fl1 ∧ b ≠ td1 := fun b o e => by
    have e2 : upd (upd H' d1 (.own s1)) s1 (.ins A.c_Shelf d1 []) b = some o := (upd_ne (ne_of_none e hs1)).trans ((upd_ne (ne_of_none e hd1)).trans e)
    exact ⟨ne_of_none e2 hf1, ne_of_none e2 ht1⟩
  walk_at "rd"
  intro s2 d2 hs2 hd2 ne2
  refine ⟨s2, d2, pg, sz, n, rfl, upd_same, n2, fun H2 fl2 td2 b2 hf2 ht2 _ _ _ hS2 => ⟨rfl, ?_⟩⟩
  have S2 : Same H1 H2 := fun b o e => b2 b o ((upd_ne (ne_of_none e hs2)).trans ((upd_ne (ne_of_none e hd2)).trans e)) (ne_of_none e hs2)
  have old2 : ∀ b o, H1 b = some o → b ≠ fl2 ∧ b ≠ td2 := fun b o e => by
    have e2 : upd (upd H1 d2 (.own s2)) s2 (.ins A.c_Shelf d2 []) b = some o := (upd_ne (ne_of_none e hs2)).trans ((upd_ne (ne_of_none e hd2)).trans e)
    exact ⟨ne_of_none e2 hf2, ne_of_none e2 ht2⟩
  have hS1' := hS1.sm S2
  obtain ⟨dx1, o11⟩ := hS1.ob
  obtain ⟨fs1, o12, _, _⟩ := hS1.fr
  obtain ⟨ks1, o13, _⟩ := hS1.tk
  have m0 : false ∈ List.replicate n false := List.mem_replicate.mpr ⟨by omega, rfl⟩
  have i0 : (List.replicate n false).idxOf false = 0 := by
    obtain ⟨k, rfl⟩ : ∃ k, n = k + 1 := ⟨n - 1, by omega⟩
    rw [List.replicate_succ, List.idxOf_cons_self]
  obtain ⟨dx2, o21⟩ := hS2.ob
  walk_at "rd"
  refine r_recv o21 (sf_no _ _ _ _ (by decide +kernel) (by decide +kernel) (by decide +kernel) (by decide +kernel)) ?_
  walk_at "rd"
  refine ⟨s2, fl2, td2, pg, sz, _, rfl, hS2, fun hno => absurd m0 hno, fun _ H3 b3 hS3 => ?_⟩
  rw [i0] at hS3 ⊢
  have hS1'' : ShelfAt A H3 s1 fl1 td1 pg sz (List.replicate n false) := hS1'.same (fun o e => b3 _ _ e (old2 _ _ o11).1 (old2 _ _ o11).2) (fun o e => b3 _ _ e (old2 _ _ o12).1 (old2 _ _ o12).2) (fun o e => b3 _ _ e (old2 _ _ o13).1 (old2 _ _ o13).2)
  have S3 : Same H' H3 := fun b o e => b3 _ _ (S2 _ _ (S1 _ _ e)) (old2 _ _ (S1 _ _ e)).1 (old2 _ _ (S1 _ _ e)).2
  walk_at "rd"
  refine r_ifnd (fun hno => absurd rfl hno) (fun _ => ?_)
  walk_at "rd"
  refine ⟨by show 1 ≤ sizeLine; decide, fun u hu => ?_⟩
  have su := same_new (o := .lst [V.bl false]) hu
  walk_at "rd"
  refine r_rep (k := (n : Int)) upd_same (by omega) (by omega) ?_ fun l hl => ?_
  · have : [V.bl false].length * ((n : Int)).toNat ≤ 60 := by rw [List.length_singleton, Nat.one_mul]; omega
    exact Nat.le_trans this (by decide)
  have el : (List.replicate ((n : Int)).toNat [V.bl false]).flatten = (List.replicate n false).map V.bl := by
    rw [Int.toNat_natCast, flat_rep, List.map_replicate]
  rw [el] at *
  have sl := same_new (o := .lst ((List.replicate n false).map V.bl)) hl
  walk_at "rd"
  refine ⟨Nat.zero_le _, fun k hk => ?_⟩
  have sk := same_new (o := .lst []) hk
  have S6 : Same H3 (upd (upd (upd H3 u (.lst [V.bl false])) l (.lst ((List.replicate n false).map V.bl))) k (.lst [])) := (su.trans sl).trans sk
  have hS1a := hS1''.sm S6
  have hS3a := hS3.sm S6
  have hla := sk _ _ (upd_same (H := upd H3 u (.lst [V.bl false])) (a := l) (o := .lst ((List.replicate n false).map V.bl)))
  have hka : upd (upd (upd H3 u (.lst [V.bl false])) l (.lst ((List.replicate n false).map V.bl))) k (.lst []) k = some (.lst []) := upd_same
  -- the lists stand apart
  obtain ⟨_, p12, _, _⟩ := hS1''.fr
  obtain ⟨_, p22, _, _⟩ := hS3.fr
  have nu : ∀ b o, H3 b = some o → b ≠ l := fun b o e => ne_of_none (su _ _ e) hl
  have nk' : ∀ b o, H3 b = some o → b ≠ k := fun b o e => ne_of_none (sl _ _ (su _ _ e)) hk
  obtain ⟨fsA, q12, _, _⟩ := hS1''.fr
  obtain ⟨fsB, q22, _, _⟩ := hS3.fr
  obtain ⟨ksA, q13, _⟩ := hS1''.tk
  obtain ⟨ksB, q23, _⟩ := hS3.tk
  have nlf1 := Ne.symm (nu _ _ q12)
  have nlf2 := Ne.symm (nu _ _ q22)
  have nkf1 := Ne.symm (nk' _ _ q12)
  have nkf2 := Ne.symm (nk' _ _ q22)
  have nkl : k ≠ l := fun z => by rw [z] at hk; rw [upd_same] at hk; cases hk
  have nff : fl1 ≠ fl2 := (old2 _ _ o12).1
  have ntt : td1 ≠ td2 := (old2 _ _ o13).2
  have hsl : SqL A.K (upd (upd (upd H3 u (.lst [V.bl false])) l (.lst ((List.replicate n false).map V.bl))) k (.lst [])) a (ns.map V.int) := (S3.trans S6).seq hs
  generalize upd (upd (upd H3 u (.lst [V.bl false])) l (.lst ((List.replicate n false).map V.bl))) k (.lst []) = H4 at *
  clear S6 su sl sk hk hl hu
  walk_at "rd"
  obtain ⟨m, em⟩ : ∃ m : Nat, cutV (ns.map V.int) (some 3) none = (ns.drop m).map V.int := ⟨3, by rw [show (3 : Int) = ((3 : Nat) : Int) from rfl, cut_dropA, List.map_drop]⟩
  refine ⟨a, _, rfl, hsl, fun t ht => ?_⟩
  rw [em]
  have st := same_new (o := .lst ((ns.drop m).map V.int)) ht
  -- the loop
  refine ⟨t, rfl, ⟨_, toL upd_same⟩, for_list (K := A.K) (a := t) (xs := (ns.drop m).map V.int) (fun i σ H5 => ∃ (v : Option V) (row : List Bool), σ = [some (.ref a), some (.int pg), some (.int sz), some (.int n), some (.ref s1), some (.ref s2), some (.ref l), some (.ref k), v] ∧ row.length = n ∧
      ShelfAt A H5 s1 fl1 td1 pg sz row ∧ ShelfAt A H5 s2 fl2 td2 pg sz ((List.replicate n false).set 0 true) ∧ H5 l = some (.lst (row.map V.bl)) ∧ Kept H5 k (fun b => b ≠ fl1 ∧ b ≠ td1 ∧ b ≠ l) ∧ H5 t = some (.lst ((ns.drop m).map V.int)))
    ⟨none, List.replicate n false, rfl, List.length_replicate, hS1a.sm st, hS3a.sm st, st _ _ hla, ⟨[], st _ _ hka, fun x hx => nomatch hx⟩, upd_same⟩ (fun i σ H5 _ ⟨_, _, _, _, _, _, _, _, e⟩ => toL e) ?_ ?_⟩
  · rintro i x σ H5 hx ⟨v, row, rfl, hrl, hA, hB, hl5, hk5, ht5⟩
    obtain ⟨z, hz, rfl⟩ : ∃ z, (ns.drop m)[i]? = some z ∧ x = V.int z := by
      rw [List.getElem?_map] at hx
      cases e : (ns.drop m)[i]? with
      | none => rw [e] at hx; cases hx
      | some z => rw [e] at hx; exact ⟨z, rfl, (Option.some.inj hx).symm⟩
    have ntl : t ≠ l := Ne.symm (ne_of_none hla ht)
    have ntk : t ≠ k := Ne.symm (ne_of_none hka ht)
    obtain ⟨gA, r12, _, _⟩ := hS1a.fr
    obtain ⟨gB, r22, _, _⟩ := hS3a.fr
    have ntf : t ≠ fl1 := Ne.symm (ne_of_none r12 ht)
    walk_at "rd"
    refine ⟨s1, fl1, td1, l, pg, sz, row, z, rfl, hA, hl5, nlf1, fun H6 row' b6 hrl' hA' hl6 => ?_⟩
    obtain ⟨ks, hk1, hk2⟩ := hk5
    obtain ⟨dxA, a1⟩ := hA.ob
    obtain ⟨fsA', a2, _, _⟩ := hA.fr
    obtain ⟨ksA', a3, _⟩ := hA.tk
    obtain ⟨dxB, c1⟩ := hB.ob
    obtain ⟨fsB', c2, _, _⟩ := hB.fr
    obtain ⟨ksB', c3, _⟩ := hB.tk
    have kp6 : ∀ b o, H5 b = some o → b ≠ fl1 → b ≠ td1 → b ≠ l → H6 b = some o := b6
    have hB' : ShelfAt A H6 s2 fl2 td2 pg sz ((List.replicate n false).set 0 true) := hB.same (fun o e => kp6 _ _ e (ne_of c1 a2 (by intro z; cases z)) (ne_of c1 a3 (by intro z; cases z)) (ne_of c1 hl5 (by intro z; cases z)))
      (fun o e => kp6 _ _ e (Ne.symm nff) (ne_of c2 a3 (by intro z; cases z)) (Ne.symm nlf2)) (fun o e => kp6 _ _ e (ne_of c3 a2 (by intro z; cases z)) (Ne.symm ntt) (ne_of c3 hl5 (by intro z; cases z)))
    have hk6 : Kept H6 k (fun b => b ≠ fl1 ∧ b ≠ td1 ∧ b ≠ l) := ⟨ks, kp6 _ _ hk1 nkf1 (ne_of hk1 a3 (by intro z; cases z)) nkl, fun x hx => by
      obtain ⟨t', f, c, ms, e, h1, h2, h3, p1, p2⟩ := hk2 x hx
      exact ⟨t', f, c, ms, e, kp6 _ _ h1 (ne_of h1 a2 (by intro z; cases z)) (ne_of h1 a3 (by intro z; cases z)) (ne_of h1 hl5 (by intro z; cases z)), kp6 _ _ h2 p1.1 p1.2.1 p1.2.2, kp6 _ _ h3 p2.1 p2.2.1 p2.2.2, p1, p2⟩⟩
    have ht6 := kp6 _ _ ht5 ntf (ne_of ht5 a3 (by intro z; cases z)) ntl
    walk_at "rd"
    refine ⟨s1, fl1, td1, l, k, pg, sz, row', rfl, hA', hl6, ?_, nkf1, nkl, fun H7 b7 hk7 => ?_⟩
    · obtain ⟨ks', e1, e2⟩ := hk6
      exact ⟨ks', e1, fun x hx => by
        obtain ⟨t', f, c, ms, e, h1, h2, h3, p1, p2⟩ := e2 x hx
        exact ⟨t', f, c, ms, e, h1, h2, h3, trivial, trivial⟩⟩
    obtain ⟨dxA', a1'⟩ := hA'.ob
    obtain ⟨fsA'', a2', _, _⟩ := hA'.fr
    obtain ⟨ksA'', a3', _⟩ := hA'.tk
    obtain ⟨ks', k6, _⟩ := hk6
    walk_at "rd"
    refine ⟨_, row', rfl, by omega, hA'.same (fun o e => b7 _ _ e (ne_of a1' k6 (by intro z; cases z))) (fun o e => b7 _ _ e (Ne.symm nkf1)) (fun o e => b7 _ _ e (ne_of a3' k6 (by intro z; cases z))),
      hB'.same (fun o e => b7 _ _ e (ne_of hB'.ob.choose_spec k6 (by intro z; cases z))) (fun o e => b7 _ _ e (Ne.symm nkf2)) (fun o e => b7 _ _ e (ne_of hB'.tk.choose_spec.1 k6 (by intro z; cases z))), b7 _ _ hl6 (Ne.symm nkl), ?_, b7 _ _ ht6 ntk⟩
    obtain ⟨ks7, e1, e2⟩ := hk7
    refine ⟨ks7, e1, fun x hx => ?_⟩
    obtain ⟨t', f, c, ms, e, h1, h2, h3, p1, p2⟩ := e2 x hx
    exact ⟨t', f, c, ms, e, h1, h2, h3, ⟨Ne.symm (ne_of_none a2' p1), Ne.symm (ne_of_none a3' p1), Ne.symm (ne_of_none hl6 p1)⟩, ⟨Ne.symm (ne_of_none a2' p2), Ne.symm (ne_of_none a3' p2), Ne.symm (ne_of_none hl6 p2)⟩⟩
  rintro σ H5 ⟨v, row, rfl, hrl, hA, hB, hl5, hk5, ht5⟩
  obtain ⟨dxA, a1⟩ := hA.ob
  walk_at "rd"
  refine r_fldR a1 na.cl_Shelf na.na_Shelf_page (sf_page _ _ _ _) ?_
  walk_at "rd"
  refine wh_I ?_
  walk_at "rd"
  refine r_fldR a1 na.cl_Shelf na.na_Shelf_page (sf_page _ _ _ _) ?_
  walk_at "rd"
  refine r_ifnd (fun hno => absurd rfl hno) (fun _ => ?_)
  walk_at "rd"
  refine r_fldR a1 na.cl_Shelf na.na_Shelf_size (sf_size _ _ _ _) ?_
  walk_at "rd"
  refine r_ifnd (fun hno => absurd rfl hno) (fun _ => ?_)
  walk_at "rd"
  obtain ⟨ks, hk1, hk2⟩ := hk5
  refine ⟨s1, fl1, td1, l, k, pg, sz, row, rfl, hA, hl5, ⟨ks, hk1, fun x hx => ?_⟩, nkf1, nkl, fun H6 b6 hk6 => ?_⟩
  · obtain ⟨t', f, c, ms, e, h1, h2, h3, p1, p2⟩ := hk2 x hx
    exact ⟨t', f, c, ms, e, h1, h2, h3, trivial, trivial⟩
  have hB6 : ShelfAt A H6 s2 fl2 td2 pg sz ((List.replicate n false).set 0 true) := hB.same (fun o e => b6 _ _ e (ne_of hB.ob.choose_spec hk1 (by intro z; cases z))) (fun o e => b6 _ _ e (Ne.symm nkf2)) (fun o e => b6 _ _ e (ne_of hB.tk.choose_spec.1 hk1 (by intro z; cases z)))
  walk_at "rd"
  refine ⟨by show 1 ≤ sizeLine; decide, fun u1 hu1 => ?_⟩
  have su1 := same_new (o := .lst [V.bl true]) hu1
  walk_at "rd"
  refine ⟨by show 1 ≤ sizeLine; decide, fun u2 hu2 => ?_⟩
  have su2 := same_new (o := .lst [V.bl false]) hu2
  walk_at "rd"
  walk_at "rd"
  refine r_rep (k := (n : Int) - 1) upd_same (by omega) (by omega) ?_ fun u3 hu3 => ?_
  · have : [V.bl false].length * ((n : Int) - 1).toNat ≤ 60 := by rw [List.length_singleton, Nat.one_mul]; omega
    exact Nat.le_trans this (by decide)
  have el2 : (List.replicate ((n : Int) - 1).toNat [V.bl false]).flatten = (List.replicate (n - 1) false).map V.bl := by
    rw [show ((n : Int) - 1).toNat = n - 1 by omega, flat_rep, List.map_replicate]
  rw [el2]
  have su3 := same_new (o := .lst ((List.replicate (n - 1) false).map V.bl)) hu3
  refine r_cat (su3 _ _ (su2 _ _ upd_same)) upd_same ?_ fun u4 hu4 => ?_
  · have : [V.bl true].length + ((List.replicate (n - 1) false).map V.bl).length ≤ 60 := by rw [List.length_singleton, List.length_map, List.length_replicate]; omega
    exact Nat.le_trans this (by decide)
  have el3 : [V.bl true] ++ (List.replicate (n - 1) false).map V.bl = ((List.replicate n false).set 0 true).map V.bl := by
    obtain ⟨k, rfl⟩ : ∃ k, n = k + 1 := ⟨n - 1, by omega⟩
    rw [Nat.add_sub_cancel, List.replicate_succ]
    rfl
  rw [el3] at *
  have su4 := same_new (o := .lst (((List.replicate n false).set 0 true).map V.bl)) hu4
  walk_at "rd"
  refine ⟨Nat.zero_le _, fun u5 hu5 => ?_⟩
  have su5 := same_new (o := .lst []) hu5
  walk_at "rd"
  have sAll := (((su1.trans su2).trans su3).trans su4).trans su5
  have hB7 := hB6.sm sAll
  obtain ⟨fsX, x22, _, _⟩ := hB6.fr
  refine ⟨s2, fl2, td2, u4, u5, pg, sz, _, rfl, hB7, su5 _ _ upd_same, ⟨[], upd_same, fun x hx => nomatch hx⟩, ?_, ?_, fun H8 b8 hk8 => ?_⟩
  · exact Ne.symm (ne_of_none (su4 _ _ (su3 _ _ (su2 _ _ (su1 _ _ x22)))) hu5)
  · exact Ne.symm (ne_of_none (upd_same (H := upd (upd (upd H6 u1 (.lst [V.bl true])) u2 (.lst [V.bl false])) u3 (.lst ((List.replicate (n - 1) false).map V.bl))) (a := u4) (o := .lst (((List.replicate n false).set 0 true).map V.bl))) hu5)
  · exact q H8
end

def top (i : Nat) : Stmt := PySem.Challenge.pw_slabroom_k03_a_shelf.main.body.getD i (.Pass ⟨0, 0, 0, 0⟩)
abbrev s_Shelf_init : Stmt := inClass (top 6) 0
abbrev s_Shelf_out : Stmt := inClass (top 6) 1
abbrev s_Shelf_free : Stmt := inClass (top 6) 2
abbrev s_Shelf_take : Stmt := inClass (top 6) 3
abbrev s_Shelf_give : Stmt := inClass (top 6) 4
abbrev s_l_cell_at : Stmt := top 8
abbrev s_l_whole : Stmt := top 9
abbrev s_l_taken : Stmt := top 10
abbrev s_l_given : Stmt := top 11
abbrev s_l_deed : Stmt := top 12
abbrev s_l_stands : Stmt := top 13
abbrev s_law : Stmt := top 14

structure Txt (A : Ad) (mg : Str → Option Value) where
  f_Shelf_init : Addr
  fd_Shelf_init : FuncData
  F_Shelf_init : Fun A.K "__init__" "Shelf.__init__" s_Shelf_init f_Shelf_init fd_Shelf_init
  b_Shelf_init : Binds A.K fd_Shelf_init ["self", "page", "size", "slots"] []
  mk_Shelf : Mk A.K A.c_Shelf f_Shelf_init
  f_Shelf_out : Addr
  fd_Shelf_out : FuncData
  F_Shelf_out : Fun A.K "out" "Shelf.out" s_Shelf_out f_Shelf_out fd_Shelf_out
  b_Shelf_out : Binds A.K fd_Shelf_out ["self"] []
  m_Shelf_out : Meth A.K A.c_Shelf "out" f_Shelf_out
  f_Shelf_free : Addr
  fd_Shelf_free : FuncData
  F_Shelf_free : Fun A.K "free" "Shelf.free" s_Shelf_free f_Shelf_free fd_Shelf_free
  b_Shelf_free : Binds A.K fd_Shelf_free ["self"] []
  m_Shelf_free : Meth A.K A.c_Shelf "free" f_Shelf_free
  f_Shelf_take : Addr
  fd_Shelf_take : FuncData
  F_Shelf_take : Fun A.K "take" "Shelf.take" s_Shelf_take f_Shelf_take fd_Shelf_take
  b_Shelf_take : Binds A.K fd_Shelf_take ["self"] []
  m_Shelf_take : Meth A.K A.c_Shelf "take" f_Shelf_take
  f_Shelf_give : Addr
  fd_Shelf_give : FuncData
  F_Shelf_give : Fun A.K "give" "Shelf.give" s_Shelf_give f_Shelf_give fd_Shelf_give
  b_Shelf_give : Binds A.K fd_Shelf_give ["self", "slot"] []
  m_Shelf_give : Meth A.K A.c_Shelf "give" f_Shelf_give
  f_l_cell_at : Addr
  fd_l_cell_at : FuncData
  F_l_cell_at : Fun A.K "_law_cell_at" "_law_cell_at" s_l_cell_at f_l_cell_at fd_l_cell_at
  b_l_cell_at : Binds A.K fd_l_cell_at ["_law_script", "_law_k"] []
  g_l_cell_at : mg "_law_cell_at" = some (.ref f_l_cell_at)
  k_l_cell_at : PySem.W.keepIn A.K (.ref f_l_cell_at) = true
  f_l_whole : Addr
  fd_l_whole : FuncData
  F_l_whole : Fun A.K "_law_whole" "_law_whole" s_l_whole f_l_whole fd_l_whole
  b_l_whole : Binds A.K fd_l_whole ["_law_found"] []
  g_l_whole : mg "_law_whole" = some (.ref f_l_whole)
  k_l_whole : PySem.W.keepIn A.K (.ref f_l_whole) = true
  f_l_taken : Addr
  fd_l_taken : FuncData
  F_l_taken : Fun A.K "_law_taken" "_law_taken" s_l_taken f_l_taken fd_l_taken
  b_l_taken : Binds A.K fd_l_taken ["_law_shelf"] []
  g_l_taken : mg "_law_taken" = some (.ref f_l_taken)
  k_l_taken : PySem.W.keepIn A.K (.ref f_l_taken) = true
  f_l_given : Addr
  fd_l_given : FuncData
  F_l_given : Fun A.K "_law_given" "_law_given" s_l_given f_l_given fd_l_given
  b_l_given : Binds A.K fd_l_given ["_law_shelf", "_law_slot"] []
  g_l_given : mg "_law_given" = some (.ref f_l_given)
  k_l_given : PySem.W.keepIn A.K (.ref f_l_given) = true
  f_l_deed : Addr
  fd_l_deed : FuncData
  F_l_deed : Fun A.K "_law_deed" "_law_deed" s_l_deed f_l_deed fd_l_deed
  b_l_deed : Binds A.K fd_l_deed ["_law_shelf", "_law_row", "_law_cell"] []
  g_l_deed : mg "_law_deed" = some (.ref f_l_deed)
  k_l_deed : PySem.W.keepIn A.K (.ref f_l_deed) = true
  f_l_stands : Addr
  fd_l_stands : FuncData
  F_l_stands : Fun A.K "_law_stands" "_law_stands" s_l_stands f_l_stands fd_l_stands
  b_l_stands : Binds A.K fd_l_stands ["_law_shelf", "_law_row", "_law_kept"] []
  g_l_stands : mg "_law_stands" = some (.ref f_l_stands)
  k_l_stands : PySem.W.keepIn A.K (.ref f_l_stands) = true
  f_law : Addr
  fd_law : FuncData
  F_law : Fun A.K "law" "law" s_law f_law fd_law
  b_law : Binds A.K fd_law ["_law_script"] []
  g_law : mg "law" = some (.ref f_law)
  k_law : PySem.W.keepIn A.K (.ref f_law) = true
  cl_Shelf : Cls A.K A.c_Shelf
  g_Shelf : mg "Shelf" = some (.ref A.c_Shelf)
  na : NA A
  g_RoomError : mg "RoomError" = some (.ref A.c_RoomError)
  x_RoomError : PySem.W.excIn A.K A.c_RoomError [.type "ValueError", .type "Exception", .type "BaseException", .type "object"] "ValueError.__new__" = true
  k_RoomError : PySem.W.keepIn A.K (.ref A.c_RoomError) = true
  bs_RoomError : PySem.W.subIn A.K (.ref A.c_RoomError) (.type "BaseException") = some true
  ty_RoomError : PySem.W.typeIn A.K (.ref A.c_RoomError) = some (.type "type")
  g_NoRoom : mg "NoRoom" = some (.ref A.c_NoRoom)
  x_NoRoom : PySem.W.excIn A.K A.c_NoRoom [.type "ValueError", .type "Exception", .type "BaseException", .type "object"] "ValueError.__new__" = true
  k_NoRoom : PySem.W.keepIn A.K (.ref A.c_NoRoom) = true
  bs_NoRoom : PySem.W.subIn A.K (.ref A.c_NoRoom) (.type "BaseException") = some true
  ty_NoRoom : PySem.W.typeIn A.K (.ref A.c_NoRoom) = some (.type "type")
  g_NotOut : mg "NotOut" = some (.ref A.c_NotOut)
  x_NotOut : PySem.W.excIn A.K A.c_NotOut [.type "ValueError", .type "Exception", .type "BaseException", .type "object"] "ValueError.__new__" = true
  k_NotOut : PySem.W.keepIn A.K (.ref A.c_NotOut) = true
  bs_NotOut : PySem.W.subIn A.K (.ref A.c_NotOut) (.type "BaseException") = some true
  ty_NotOut : PySem.W.typeIn A.K (.ref A.c_NotOut) = some (.type "type")
  n_bool : mg "bool" = none
  n_int : mg "int" = none
  n_isinstance : mg "isinstance" = none
  n_len : mg "len" = none
  n_list : mg "list" = none
  n_range : mg "range" = none
  n_sorted : mg "sorted" = none
  h_heappop : mg "heappop" = some (.builtin "_heapq.heappop")
  h_heappush : mg "heappush" = some (.builtin "_heapq.heappush")

theorem sc_Shelf_init : FnScope ["self", "page", "size", "slots"] ["self", "page", "size", "slots"] (defScope s_Shelf_init) := ⟨rfl, rfl, rfl, by decide +kernel, rfl, by decide +kernel, by decide +kernel⟩
theorem sc_Shelf_out : FnScope ["self"] ["self"] (defScope s_Shelf_out) := ⟨rfl, rfl, rfl, by decide +kernel, rfl, by decide +kernel, by decide +kernel⟩
theorem sc_Shelf_free : FnScope ["self"] ["self"] (defScope s_Shelf_free) := ⟨rfl, rfl, rfl, by decide +kernel, rfl, by decide +kernel, by decide +kernel⟩
theorem sc_Shelf_take : FnScope ["self", "slot"] ["self"] (defScope s_Shelf_take) := ⟨rfl, rfl, rfl, by decide +kernel, rfl, by decide +kernel, by decide +kernel⟩
theorem sc_Shelf_give : FnScope ["self", "slot"] ["self", "slot"] (defScope s_Shelf_give) := ⟨rfl, rfl, rfl, by decide +kernel, rfl, by decide +kernel, by decide +kernel⟩
theorem sc_l_cell_at : FnScope ["_law_script", "_law_k"] ["_law_script", "_law_k"] (defScope s_l_cell_at) := ⟨rfl, rfl, rfl, by decide +kernel, rfl, by decide +kernel, by decide +kernel⟩
theorem sc_l_whole : FnScope ["_law_found"] ["_law_found"] (defScope s_l_whole) := ⟨rfl, rfl, rfl, by decide +kernel, rfl, by decide +kernel, by decide +kernel⟩
theorem sc_l_taken : FnScope ["_law_shelf"] ["_law_shelf"] (defScope s_l_taken) := ⟨rfl, rfl, rfl, by decide +kernel, rfl, by decide +kernel, by decide +kernel⟩
theorem sc_l_given : FnScope ["_law_shelf", "_law_slot"] ["_law_shelf", "_law_slot"] (defScope s_l_given) := ⟨rfl, rfl, rfl, by decide +kernel, rfl, by decide +kernel, by decide +kernel⟩
theorem sc_l_deed : FnScope ["_law_shelf", "_law_row", "_law_cell", "_law_slot", "_law_due", "_law_good"] ["_law_shelf", "_law_row", "_law_cell"] (defScope s_l_deed) := ⟨rfl, rfl, rfl, by decide +kernel, rfl, by decide +kernel, by decide +kernel⟩
theorem sc_l_stands : FnScope ["_law_shelf", "_law_row", "_law_kept", "_law_one", "_law_copy", "_law_slot", "_law_free", "_law_found", "_law_many", "_law_later"] ["_law_shelf", "_law_row", "_law_kept"] (defScope s_l_stands) := ⟨rfl, rfl, rfl, by decide +kernel, rfl, by decide +kernel, by decide +kernel⟩
theorem sc_law : FnScope ["_law_script", "_law_page", "_law_size", "_law_slots", "_law_shelf", "_law_other", "_law_row", "_law_kept", "_law_cell"] ["_law_script"] (defScope s_law) := ⟨rfl, rfl, rfl, by decide +kernel, rfl, by decide +kernel, by decide +kernel⟩
section
variable {P : Program} {w : World} {A : Ad} {mg : Str → Option Value} {base : Heap}
theorem ok_Shelf_init (T : Txt A mg) : FnOk P w A.K mg base CX0 1 T.f_Shelf_init T.fd_Shelf_init ["self", "page", "size", "slots"] (sp_Shelf_init A) := by
  refine T.F_Shelf_init.ok sc_Shelf_init (fun vs H Q E h => len_Shelf_init A h) (fun cdv Ar outer s H vs Q E hr h => ⟨t_Shelf_init A E, ?_, pure_Shelf_init A T.na vs H Q E h⟩)
  have hu64 := hr.units
  have hu65 := hu65_of hr
  have hu1 := hu_of hr
  exact (pss_cons (ps_fld (pv 0) (pv 1) rfl)
  (pss_cons (ps_fld (pv 0) (pv 2) rfl)
  (pss_cons (ps_fld (pv 0) (pe_listRg rfl (by rfl) T.n_list (prg_1 (by rfl) T.n_range (pv 3))) rfl)
  (pss_one (ps_fld (pv 0) pe_dnewK rfl)))))
theorem ok_Shelf_out (T : Txt A mg) : FnOk P w A.K mg base CX0 1 T.f_Shelf_out T.fd_Shelf_out ["self"] (sp_Shelf_out A) := by
  refine T.F_Shelf_out.ok sc_Shelf_out (fun vs H Q E h => len_Shelf_out A h) (fun cdv Ar outer s H vs Q E hr h => ⟨t_Shelf_out A E, ?_, pure_Shelf_out A T.na vs H Q E h⟩)
  have hu64 := hr.units
  have hu65 := hu65_of hr
  have hu1 := hu_of hr
  exact (pss_one (ps_ret (by exact (pe_callB call_lenDA (by rfl) T.n_len (by decide +kernel) (pa_cons (pe_fld (pv 0) rfl) pa_nil)))))
theorem ok_Shelf_free (T : Txt A mg) : FnOk P w A.K mg base CX0 1 T.f_Shelf_free T.fd_Shelf_free ["self"] (sp_Shelf_free A) := by
  refine T.F_Shelf_free.ok sc_Shelf_free (fun vs H Q E h => len_Shelf_free A h) (fun cdv Ar outer s H vs Q E hr h => ⟨t_Shelf_free A E, ?_, pure_Shelf_free A T.na vs H Q E h⟩)
  have hu64 := hr.units
  have hu65 := hu65_of hr
  have hu1 := hu_of hr
  exact (pss_one (ps_ret (by exact (pe_callB (call_sortedA rfl) (by rfl) T.n_sorted (by decide +kernel) (pa_cons (pe_fld (pv 0) rfl) pa_nil)))))
theorem ok_l_cell_at (T : Txt A mg) : FnOk P w A.K mg base CX0 1 T.f_l_cell_at T.fd_l_cell_at ["_law_script", "_law_k"] (sp_l_cell_at A) := by
  refine T.F_l_cell_at.ok sc_l_cell_at (fun vs H Q E h => len_l_cell_at A h) (fun cdv Ar outer s H vs Q E hr h => ⟨t_l_cell_at A E, ?_, pure_l_cell_at A T.na vs H Q E h⟩)
  have hu64 := hr.units
  have hu65 := hu65_of hr
  have hu1 := hu_of hr
  exact (pss_cons (ps_if (by exact (pt_cmpR op_ltA (pv 1) (pe_callB call_lenA (by rfl) T.n_len (by decide +kernel) (pa_cons (pv 0) pa_nil)) (nomark _)))
    (pss_one (ps_ret (by exact (pe_ix ix_A (pv 0) (pv 1) (fun _ _ => rfl)))))
    pss_nil)
  (pss_one (ps_ret (by exact pe_int))))
theorem ok_l_whole (T : Txt A mg) : FnOk P w A.K mg base CX0 1 T.f_l_whole T.fd_l_whole ["_law_found"] (sp_l_whole A) := by
  refine T.F_l_whole.ok sc_l_whole (fun vs H Q E h => len_l_whole A h) (fun cdv Ar outer s H vs Q E hr h => ⟨t_l_whole A E, ?_, pure_l_whole A T.na vs H Q E h⟩)
  have hu64 := hr.units
  have hu65 := hu65_of hr
  have hu1 := hu_of hr
  exact (pss_one (ps_ret (by exact (pe_and (pe_callB call_isi (by rfl) T.n_isinstance (by decide +kernel) (pa_cons (pv 0) (pa_cons (pe_bltn (v := .ty "int") rfl T.n_int (by decide +kernel) rfl) pa_nil))) (pe_one (pe_not (pe_callB call_isi (by rfl) T.n_isinstance (by decide +kernel) (pa_cons (pv 0) (pa_cons (pe_bltn (v := .ty "bool") rfl T.n_bool (by decide +kernel) rfl) pa_nil)))))))))
theorem ok_Shelf_take (T : Txt A mg) : FnOk P w A.K mg base (L2.CX P w) 2 T.f_Shelf_take T.fd_Shelf_take ["self"] (sp_Shelf_take A) := by
  refine T.F_Shelf_take.okX sc_Shelf_take (fun vs H Q E h => len_Shelf_take A h) (fun cdv Ar outer s H vs Q E hr h => ⟨t_Shelf_take A E, ?_, pure_Shelf_take A T.na vs H Q E h⟩)
  have hu64 := hr.units
  have hu65 := hu65_of hr
  have hu1 := hu_of hr
  have tk0 := takes_of (X := cxOf (L2.CX P w) P w A.K mg base ["self", "slot"] "Shelf.take" (defScope s_Shelf_take) T.f_Shelf_take cdv Ar outer s H E) rfl rfl rfl rfl
  exact (pss_cons (ps_if (by exact (pt_not (pt_truth (pe_fld (pv 0) rfl) (by intro _; rfl))))
    (pss_one (ps_raise rfl tk0 (pmk_own PySem.F.excBase_ValueError T.x_NoRoom T.g_NoRoom T.k_NoRoom (raises_own T.bs_NoRoom T.ty_NoRoom) rfl)))
    pss_nil)
  (pss_cons (ps_set (i := 1) sc_Shelf_take.nd rfl (Or.inl rfl) (by exact (pe_callBfun cr_heappop (by rfl) T.h_heappop (pa_cons (pe_fld (pv 0) rfl) pa_nil))))
  (pss_cons (ps_dput hu1 (pe_fld (pv 0) rfl) (pv 1) pe_bl rfl)
  (pss_one (ps_ret (by exact (pv 1)))))))
theorem ok_Shelf_give (T : Txt A mg) : FnOk P w A.K mg base (L2.CX P w) 2 T.f_Shelf_give T.fd_Shelf_give ["self", "slot"] (sp_Shelf_give A) := by
  refine T.F_Shelf_give.okX sc_Shelf_give (fun vs H Q E h => len_Shelf_give A h) (fun cdv Ar outer s H vs Q E hr h => ⟨t_Shelf_give A E, ?_, pure_Shelf_give A T.na vs H Q E h⟩)
  have hu64 := hr.units
  have hu65 := hu65_of hr
  have hu1 := hu_of hr
  have tk0 := takes_of (X := cxOf (L2.CX P w) P w A.K mg base ["self", "slot"] "Shelf.give" (defScope s_Shelf_give) T.f_Shelf_give cdv Ar outer s H E) rfl rfl rfl rfl
  exact (pss_cons (ps_if (by exact (pt_cmp (pc_dnotin hu1 (pv 1) (pe_fld (pv 0) rfl)) (by rfl)))
    (pss_one (ps_raise rfl tk0 (pmk_own PySem.F.excBase_ValueError T.x_NotOut T.g_NotOut T.k_NotOut (raises_own T.bs_NotOut T.ty_NotOut) rfl)))
    pss_nil)
  (pss_cons (ps_ddel (pe_fld (pv 0) rfl) (pv 1))
  (pss_one (ps_expr (by exact (pe_callBfun cr_heappush (by rfl) T.h_heappush (pa_cons (pe_fld (pv 0) rfl) (pa_cons (pv 1) pa_nil))))))))
theorem ok_l_stands (T : Txt A mg) : FnOk P w A.K mg base CX0 2 T.f_l_stands T.fd_l_stands ["_law_shelf", "_law_row", "_law_kept"] (sp_l_stands A) := by
  refine T.F_l_stands.ok sc_l_stands (fun vs H Q E h => len_l_stands A h) (fun cdv Ar outer s H vs Q E hr h => ⟨t_l_stands A E, ?_, pure_l_stands A T.na vs H Q E h⟩)
  have hu64 := hr.units
  have hu65 := hu65_of hr
  have hu1 := hu_of hr
  exact (pss_cons (ps_for PassesOwn.never rfl (pi_list (pv 2)) (pg_tup rfl (pgs_cons (pg_name (i := 3) sc_l_stands.nd rfl (Or.inl rfl)) (pgs_cons (pg_name (i := 4) sc_l_stands.nd rfl (Or.inl rfl)) pgs_nil)))
    (pss_one (ps_if (by exact (pt_cmpR (op_neA hu64) (pv 3) (pv 4) (nomark _)))
      (pss_one (ps_ret (by exact pe_bl)))
      pss_nil)))
  (pss_cons (ps_setLc (i := 6) (own := [("_law_slot", 5)]) (g := (gName 5)) (tt := (tNot (tB (tOp (rIxA A.K) (tVar 1) (tVar 5))))) rfl sc_l_stands.nd rfl rfl (sw_true rfl rfl rfl (by decide +kernel)) (pi_range1 (by rfl) T.n_range (pa_cons (pe_callB call_lenA (by rfl) T.n_len (by decide +kernel) (pa_cons (pv 1) pa_nil)) pa_nil)) (blkOk_by (own := [("_law_slot", 5)]) (N := ["_law_shelf", "_law_row", "_law_kept", "_law_one", "_law_copy", "_law_slot", "_law_free", "_law_found", "_law_many", "_law_later"]) (sc := defScope s_l_stands) (by decide +kernel)) (fun _ _ _ _ _ => (pg_name (i := 5) sc_l_stands.nd rfl (Or.inl rfl))) (fun _ _ _ _ _ => (pts_one (pt_not (pt_val (pe_ix ix_A (pv 1) (pv 5) (fun _ _ => rfl)))))) (fun _ _ _ _ _ => (pv 5)))
  (pss_cons (ps_set (i := 7) sc_l_stands.nd rfl (Or.inl rfl) (by exact (pe_meth0 (pv 0) T.cl_Shelf T.m_Shelf_free (ok_Shelf_free T) (hr.mono (by decide)) T.b_Shelf_free .nil pass0)))
  (pss_cons (ps_set (i := 8) sc_l_stands.nd rfl (Or.inl rfl) (by exact (pe_meth0 (pv 0) T.cl_Shelf T.m_Shelf_out (ok_Shelf_out T) (hr.mono (by decide)) T.b_Shelf_out .nil pass0)))
  (pss_cons (ps_if (by exact (PW.pt (pw_or (pt_not (pt_val (pe_callB call_isi (by rfl) T.n_isinstance (by decide +kernel) (pa_cons (pv 7) (pa_cons (pe_bltn (v := .ty "list") rfl T.n_list (by decide +kernel) rfl) pa_nil))))) (pw_or (pt_not (pt_val (pe_call (ok_l_whole T) (hr.mono (by decide)) rfl T.g_l_whole T.k_l_whole T.b_l_whole .nil pass0 (pa_cons (pv 8) pa_nil)))) (pw_or1 (pt_cmpR (op_neA hu64) (pv 8) (pe_op op_subA (pe_callB call_lenA (by rfl) T.n_len (by decide +kernel) (pa_cons (pv 1) pa_nil)) (pe_callB call_lenA (by rfl) T.n_len (by decide +kernel) (pa_cons (pv 6) pa_nil))) (nomark _)))))))
    (pss_one (ps_ret (by exact pe_bl)))
    pss_nil)
  (pss_cons (ps_for PassesOwn.never rfl (pi_list (pv 7)) (pg_name (i := 5) sc_l_stands.nd rfl (Or.inl rfl))
    (pss_one (ps_if (by exact (pt_not (pt_val (pe_call (ok_l_whole T) (hr.mono (by decide)) rfl T.g_l_whole T.k_l_whole T.b_l_whole .nil pass0 (pa_cons (pv 5) pa_nil)))))
      (pss_one (ps_ret (by exact pe_bl)))
      pss_nil)))
  (pss_cons (ps_if (by exact (pt_cmpR (op_neA hu64) (pv 7) (pv 6) (nomark _)))
    (pss_one (ps_ret (by exact pe_bl)))
    pss_nil)
  (pss_cons (ps_expr (by exact (pe_bm0 PySem.F.plainAttrs_list PySem.F.slot_list_clear PySem.F.type_list_clear mt_clear (pv 2))))
  (pss_cons (ps_expr (by exact (pe_bm PySem.F.plainAttrs_list PySem.F.slot_list_append PySem.F.type_list_append mt_append (pv 2) (pa_cons (pe_tup (pa_cons (pv 7) (pa_cons (pe_callTy call_listA (by rfl) T.n_list (by decide +kernel) (pa_cons (pv 7) pa_nil)) pa_nil))) pa_nil))))
  (pss_cons (ps_set (i := 9) sc_l_stands.nd rfl (Or.inl rfl) (by exact (pe_meth0 (pv 0) T.cl_Shelf T.m_Shelf_free (ok_Shelf_free T) (hr.mono (by decide)) T.b_Shelf_free .nil pass0)))
  (pss_cons (ps_expr (by exact (pe_bm PySem.F.plainAttrs_list PySem.F.slot_list_append PySem.F.type_list_append mt_append (pv 9) (pa_cons (pe_callB call_lenA (by rfl) T.n_len (by decide +kernel) (pa_cons (pv 1) pa_nil)) pa_nil))))
  (pss_one (ps_ret (by exact (pe_cmpR (op_eqA hu64) (pe_meth0 (pv 0) T.cl_Shelf T.m_Shelf_free (ok_Shelf_free T) (hr.mono (by decide)) T.b_Shelf_free .nil pass0) (pv 6) (nomark _))))))))))))))))
theorem ok_l_taken (T : Txt A mg) : FnOk P w A.K mg base CX0 3 T.f_l_taken T.fd_l_taken ["_law_shelf"] (sp_l_taken A) := by
  refine T.F_l_taken.ok sc_l_taken (fun vs H Q E h => len_l_taken A h) (fun cdv Ar outer s H vs Q E hr h => ⟨t_l_taken A E, ?_, pure_l_taken A T.na vs H Q E h⟩)
  have hu64 := hr.units
  have hu65 := hu65_of hr
  have hu1 := hu_of hr
  exact (pss_one (ps_try_only (tb := fun W0 => (tRet (tMethS A.c_Shelf "take" (sp_Shelf_take A) (WE W0) (tVar 0) tNil))) (ts := fun _ _ _ => (tRet (tUn (rU fun i => .int (-i)) (tC (.int 1))))) (Wout := (fun _ _ _ _ => False)) rfl rfl ⟨rfl, by decide, Or.inl T.g_NoRoom⟩ takes0 (fun W0 pn xe tk1 _ => by exact (pss_one (ps_ret (by exact (pe_methS0 (pv 0) T.cl_Shelf T.m_Shelf_take (ok_Shelf_take T) (hr.mono (by decide)) T.b_Shelf_take (fun σ => passAt tk1 σ)))))) (fun a oe cls d pn _ _ => by exact (pss_one (ps_ret (by exact (pe_un un_neg pe_int)))))))
theorem ok_l_given (T : Txt A mg) : FnOk P w A.K mg base CX0 3 T.f_l_given T.fd_l_given ["_law_shelf", "_law_slot"] (sp_l_given A) := by
  refine T.F_l_given.ok sc_l_given (fun vs H Q E h => len_l_given A h) (fun cdv Ar outer s H vs Q E hr h => ⟨t_l_given A E, ?_, pure_l_given A T.na vs H Q E h⟩)
  have hu64 := hr.units
  have hu65 := hu65_of hr
  have hu1 := hu_of hr
  exact (pss_one (ps_try_only (tb := fun W0 => (tRet (tOp rIsNon (tMethS A.c_Shelf "give" (sp_Shelf_give A) (WE W0) (tVar 0) (tCons (tVar 1) tNil)) (tC .non)))) (ts := fun _ _ _ => (tRet (tC (.bl false)))) (Wout := (fun _ _ _ _ => False)) rfl rfl ⟨rfl, by decide, Or.inl T.g_NotOut⟩ takes0 (fun W0 pn xe tk1 _ => by exact (pss_one (ps_ret (by exact (pe_cmpR op_isNon (pe_methS1 (pv 0) T.cl_Shelf T.m_Shelf_give (ok_Shelf_give T) (hr.mono (by decide)) T.b_Shelf_give (fun σ => passAt tk1 σ) (pa_cons (pv 1) pa_nil)) pe_non (nomark _)))))) (fun a oe cls d pn _ _ => by exact (pss_one (ps_ret (by exact pe_bl))))))
theorem ok_l_deed (T : Txt A mg) : FnOk P w A.K mg base CX0 4 T.f_l_deed T.fd_l_deed ["_law_shelf", "_law_row", "_law_cell"] (sp_l_deed A) := by
  refine T.F_l_deed.ok sc_l_deed (fun vs H Q E h => len_l_deed A h) (fun cdv Ar outer s H vs Q E hr h => ⟨t_l_deed A E, ?_, pure_l_deed A T.na vs H Q E h⟩)
  have hu64 := hr.units
  have hu65 := hu65_of hr
  have hu1 := hu_of hr
  exact (pss_cons (ps_if (by exact (pt_cmpR (op_eqA hu64) (pe_op op_modA (pv 2) pe_int) pe_int (nomark _)))
    (pss_cons (ps_set (i := 3) sc_l_deed.nd rfl (Or.inl rfl) (by exact (pe_call (ok_l_taken T) (hr.mono (by decide)) rfl T.g_l_taken T.k_l_taken T.b_l_taken .nil pass0 (pa_cons (pv 0) pa_nil))))
    (pss_cons (ps_set (i := 4) sc_l_deed.nd rfl (Or.inl rfl) (by exact (pe_un un_neg pe_int)))
    (pss_cons (ps_if (by exact (pt_cmpR (op_inP hu65) pe_bl (pv 1) (by first | exact nomark _ | rfl)))
      (pss_cons (ps_set (i := 4) sc_l_deed.nd rfl (Or.inl rfl) (by exact (pe_bm PySem.F.plainAttrs_list PySem.F.slot_list_index PySem.F.type_list_index (mt_indexA hu65) (pv 1) (pa_cons pe_bl pa_nil))))
      (pss_one (ps_asg pe_bl (pg_sub (pv 1) (pv 4) set_list))))
      pss_nil)
    (pss_one (ps_ret (by exact (pe_and (pe_call (ok_l_whole T) (hr.mono (by decide)) rfl T.g_l_whole T.k_l_whole T.b_l_whole .nil pass0 (pa_cons (pv 3) pa_nil)) (pe_one (pe_cmpR (op_eqA hu64) (pv 3) (pv 4) (nomark _))))))))))
    pss_nil)
  (pss_cons (ps_set (i := 3) sc_l_deed.nd rfl (Or.inl rfl) (by exact (pe_op op_subA (pe_op op_modA (pe_op op_divA (pv 2) pe_int) (pe_op op_addA (pe_callB call_lenA (by rfl) T.n_len (by decide +kernel) (pa_cons (pv 1) pa_nil)) pe_int)) pe_int)))
  (pss_cons (ps_set (i := 5) sc_l_deed.nd rfl (Or.inl rfl) (by exact (pe_and (pe_chain op_leA op_ltA pe_int (pv 3) (pe_callB call_lenA (by rfl) T.n_len (by decide +kernel) (pa_cons (pv 1) pa_nil))) (pe_one (pe_ix ix_A (pv 1) (pv 3) (fun _ _ => rfl))))))
  (pss_cons (ps_if (by exact (pt_val (pv 5)))
    (pss_one (ps_asg pe_bl (pg_sub (pv 1) (pv 3) set_list)))
    pss_nil)
  (pss_one (ps_ret (by exact (pe_cmpR (op_eqA hu64) (pe_call (ok_l_given T) (hr.mono (by decide)) rfl T.g_l_given T.k_l_given T.b_l_given .nil pass0 (pa_cons (pv 0) (pa_cons (pv 3) pa_nil))) (pv 5) (nomark _)))))))))
theorem ok_law (T : Txt A mg) : FnOk P w A.K mg base CX0 5 T.f_law T.fd_law ["_law_script"] (sp_law A) := by
  refine T.F_law.ok sc_law (fun vs H Q E h => len_law A h) (fun cdv Ar outer s H vs Q E hr h => ⟨t_law A E, ?_, pure_law A T.na vs H Q E h⟩)
  have hu64 := hr.units
  have hu65 := hu65_of hr
  have hu1 := hu_of hr
  exact (pss_cons (ps_set (i := 1) sc_law.nd rfl (Or.inl rfl) (by exact (pe_op op_modA (pe_call (ok_l_cell_at T) (hr.mono (by decide)) rfl T.g_l_cell_at T.k_l_cell_at T.b_l_cell_at .nil pass0 (pa_cons (pv 0) (pa_cons pe_int pa_nil))) pe_int)))
  (pss_cons (ps_set (i := 2) sc_law.nd rfl (Or.inl rfl) (by exact (pe_op op_addA pe_int (pe_op op_modA (pe_call (ok_l_cell_at T) (hr.mono (by decide)) rfl T.g_l_cell_at T.k_l_cell_at T.b_l_cell_at .nil pass0 (pa_cons (pv 0) (pa_cons pe_int pa_nil))) pe_int))))
  (pss_cons (ps_set (i := 3) sc_law.nd rfl (Or.inl rfl) (by exact (pe_op op_addA pe_int (pe_op op_modA (pe_call (ok_l_cell_at T) (hr.mono (by decide)) rfl T.g_l_cell_at T.k_l_cell_at T.b_l_cell_at .nil pass0 (pa_cons (pv 0) (pa_cons pe_int pa_nil))) pe_int))))
  (pss_cons (ps_if (by exact (pt_cmpR (op_eqA hu64) (pe_op op_modA (pe_op op_divA (pe_call (ok_l_cell_at T) (hr.mono (by decide)) rfl T.g_l_cell_at T.k_l_cell_at T.b_l_cell_at .nil pass0 (pa_cons (pv 0) (pa_cons pe_int pa_nil))) pe_int) pe_int) pe_int (nomark _)))
    (pss_one (ps_set (i := 3) sc_law.nd rfl (Or.inl rfl) (by exact (pe_op op_addA pe_int (pe_op op_modA (pe_op op_divA (pe_call (ok_l_cell_at T) (hr.mono (by decide)) rfl T.g_l_cell_at T.k_l_cell_at T.b_l_cell_at .nil pass0 (pa_cons (pv 0) (pa_cons pe_int pa_nil))) pe_int) pe_int)))))
    pss_nil)
  (pss_cons (ps_set (i := 4) sc_law.nd rfl (Or.inl rfl) (by exact (pe_make T.mk_Shelf (ok_Shelf_init T) (hr.mono (by decide)) rfl T.g_Shelf T.b_Shelf_init .nil pass0 (pa_cons (pv 1) (pa_cons (pv 2) (pa_cons (pv 3) pa_nil))))))
  (pss_cons (ps_set (i := 5) sc_law.nd rfl (Or.inl rfl) (by exact (pe_make T.mk_Shelf (ok_Shelf_init T) (hr.mono (by decide)) rfl T.g_Shelf T.b_Shelf_init .nil pass0 (pa_cons (pv 1) (pa_cons (pv 2) (pa_cons (pv 3) pa_nil))))))
  (pss_cons (ps_if (by exact (pt_cmpR (op_neA hu64) (pe_meth0 (pv 5) T.cl_Shelf T.m_Shelf_take (ok_Shelf_take T) (hr.mono (by decide)) T.b_Shelf_take .nil passL) pe_int (nomark _)))
    (pss_one (ps_ret (by exact pe_bl)))
    pss_nil)
  (pss_cons (ps_set (i := 6) sc_law.nd rfl (Or.inl rfl) (by exact (pe_op op_mulA (pe_lst (pa_cons pe_bl pa_nil)) (pv 3))))
  (pss_cons (ps_set (i := 7) sc_law.nd rfl (Or.inl rfl) (by exact (pe_lst pa_nil)))
  (pss_cons (ps_for PassesOwn.never rfl (pi_list (pe_slice sl_list (pv 0) (po_some pe_int) po_none)) (pg_name (i := 8) sc_law.nd rfl (Or.inl rfl))
    (pss_one (ps_if (by exact (PW.pt (pw_or (pt_not (pt_val (pe_call (ok_l_deed T) (hr.mono (by decide)) rfl T.g_l_deed T.k_l_deed T.b_l_deed .nil pass0 (pa_cons (pv 4) (pa_cons (pv 6) (pa_cons (pv 8) pa_nil)))))) (pw_or1 (pt_not (pt_val (pe_call (ok_l_stands T) (hr.mono (by decide)) rfl T.g_l_stands T.k_l_stands T.b_l_stands .nil pass0 (pa_cons (pv 4) (pa_cons (pv 6) (pa_cons (pv 7) pa_nil))))))))))
      (pss_one (ps_ret (by exact pe_bl)))
      pss_nil)))
  (pss_cons (ps_if (by exact (PW.pt (pw_or (pt_not (pt_val (pe_call (ok_l_whole T) (hr.mono (by decide)) rfl T.g_l_whole T.k_l_whole T.b_l_whole .nil pass0 (pa_cons (pe_fld (pv 4) rfl) pa_nil)))) (pw_or (pt_cmpR (op_neA hu64) (pe_fld (pv 4) rfl) (pv 1) (nomark _)) (pw_or1 (pt_cmpR (op_neA hu64) (pe_fld (pv 4) rfl) (pv 2) (nomark _)))))))
    (pss_one (ps_ret (by exact pe_bl)))
    pss_nil)
  (pss_one (ps_ret (by exact (pe_and (pe_call (ok_l_stands T) (hr.mono (by decide)) rfl T.g_l_stands T.k_l_stands T.b_l_stands .nil pass0 (pa_cons (pv 4) (pa_cons (pv 6) (pa_cons (pv 7) pa_nil)))) (pe_one (pe_call (ok_l_stands T) (hr.mono (by decide)) rfl T.g_l_stands T.k_l_stands T.b_l_stands .nil pass0 (pa_cons (pv 5) (pa_cons (pe_op op_addA (pe_lst (pa_cons pe_bl pa_nil)) (pe_op op_mulA (pe_lst (pa_cons pe_bl pa_nil)) (pe_op op_subA (pv 3) pe_int))) (pa_cons (pe_lst pa_nil) pa_nil))))))))))))))))))))
end

theorem all_mk {l : PySem.W.OpenLaw} {w : World} {K : PySem.W.Frag} {h : Heap} {mg : Str → Option Value} {fa : Addr} (X : K.In h) (G : h.Ns mainGlobals mg) (hfa : mg "law" = some (.ref fa))
    {f0 : Addr} {od0 an0 : Option Addr} {sl0 : Array (Option Value)} {oc0 kV0 dc0 pm0 cd0 ct0 : Value}
    {f1 : Addr} {od1 an1 : Option Addr} {sl1 : Array (Option Value)} {oc1 kV1 dc1 pm1 cd1 ct1 : Value}
    {f2 : Addr} {od2 an2 : Option Addr} {sl2 : Array (Option Value)} {oc2 kV2 dc2 pm2 cd2 ct2 : Value}
    {f3 : Addr} {od3 an3 : Option Addr} {sl3 : Array (Option Value)} {oc3 kV3 dc3 pm3 cd3 ct3 : Value}
    {f4 : Addr} {od4 an4 : Option Addr} {sl4 : Array (Option Value)} {oc4 kV4 dc4 pm4 cd4 ct4 : Value}
    {f5 : Addr} {od5 an5 : Option Addr} {sl5 : Array (Option Value)} {oc5 kV5 dc5 pm5 cd5 ct5 : Value}
    {f6 : Addr} {od6 an6 : Option Addr} {sl6 : Array (Option Value)} {oc6 kV6 dc6 pm6 cd6 ct6 : Value}
    {f7 : Addr} {od7 an7 : Option Addr} {sl7 : Array (Option Value)} {oc7 kV7 dc7 pm7 cd7 ct7 : Value}
    {f8 : Addr} {od8 an8 : Option Addr} {sl8 : Array (Option Value)} {oc8 kV8 dc8 pm8 cd8 ct8 : Value}
    {f9 : Addr} {od9 an9 : Option Addr} {sl9 : Array (Option Value)} {oc9 kV9 dc9 pm9 cd9 ct9 : Value}
    {f10 : Addr} {od10 an10 : Option Addr} {sl10 : Array (Option Value)} {oc10 kV10 dc10 pm10 cd10 ct10 : Value}
    {f11 : Addr} {od11 an11 : Option Addr} {sl11 : Array (Option Value)} {oc11 kV11 dc11 pm11 cd11 ct11 : Value}
    {C_Shelf : Addr}
    {C_RoomError : Addr}
    {C_NoRoom : Addr}
    {C_NotOut : Addr}
    (aC_Shelf : PySem.W.nsIn K mainGlobals "Shelf" = some (some (.ref C_Shelf)))
    (aC_RoomError : PySem.W.nsIn K mainGlobals "RoomError" = some (some (.ref C_RoomError)))
    (aC_NoRoom : PySem.W.nsIn K mainGlobals "NoRoom" = some (some (.ref C_NoRoom)))
    (aC_NotOut : PySem.W.nsIn K mainGlobals "NotOut" = some (some (.ref C_NotOut)))
    (a0 : PySem.W.findIn K (.ref C_Shelf) "__init__" = some (some (.ref f0)))
    (i0 : PySem.W.isFn K (.ref f0) = true)
    (l0 : K.lookup f0 = some ⟨oc0, od0, .func (PySem.W.fnOf "__init__" "Shelf.__init__" (defArgs s_Shelf_init) (defBody s_Shelf_init) (defScope s_Shelf_init) .none kV0 dc0 pm0 an0 cd0 ct0), sl0⟩)
    (c0 : PySem.W.codeIn K cd0 "Shelf.__init__" = true)
    (k0 : PySem.W.keepIn K (.ref f0) = true)
    (a1 : PySem.W.findIn K (.ref C_Shelf) "out" = some (some (.ref f1)))
    (i1 : PySem.W.isFn K (.ref f1) = true)
    (l1 : K.lookup f1 = some ⟨oc1, od1, .func (PySem.W.fnOf "out" "Shelf.out" (defArgs s_Shelf_out) (defBody s_Shelf_out) (defScope s_Shelf_out) .none kV1 dc1 pm1 an1 cd1 ct1), sl1⟩)
    (c1 : PySem.W.codeIn K cd1 "Shelf.out" = true)
    (k1 : PySem.W.keepIn K (.ref f1) = true)
    (a2 : PySem.W.findIn K (.ref C_Shelf) "free" = some (some (.ref f2)))
    (i2 : PySem.W.isFn K (.ref f2) = true)
    (l2 : K.lookup f2 = some ⟨oc2, od2, .func (PySem.W.fnOf "free" "Shelf.free" (defArgs s_Shelf_free) (defBody s_Shelf_free) (defScope s_Shelf_free) .none kV2 dc2 pm2 an2 cd2 ct2), sl2⟩)
    (c2 : PySem.W.codeIn K cd2 "Shelf.free" = true)
    (k2 : PySem.W.keepIn K (.ref f2) = true)
    (a3 : PySem.W.findIn K (.ref C_Shelf) "take" = some (some (.ref f3)))
    (i3 : PySem.W.isFn K (.ref f3) = true)
    (l3 : K.lookup f3 = some ⟨oc3, od3, .func (PySem.W.fnOf "take" "Shelf.take" (defArgs s_Shelf_take) (defBody s_Shelf_take) (defScope s_Shelf_take) .none kV3 dc3 pm3 an3 cd3 ct3), sl3⟩)
    (c3 : PySem.W.codeIn K cd3 "Shelf.take" = true)
    (k3 : PySem.W.keepIn K (.ref f3) = true)
    (a4 : PySem.W.findIn K (.ref C_Shelf) "give" = some (some (.ref f4)))
    (i4 : PySem.W.isFn K (.ref f4) = true)
    (l4 : K.lookup f4 = some ⟨oc4, od4, .func (PySem.W.fnOf "give" "Shelf.give" (defArgs s_Shelf_give) (defBody s_Shelf_give) (defScope s_Shelf_give) .none kV4 dc4 pm4 an4 cd4 ct4), sl4⟩)
    (c4 : PySem.W.codeIn K cd4 "Shelf.give" = true)
    (k4 : PySem.W.keepIn K (.ref f4) = true)
    (a5 : PySem.W.nsIn K mainGlobals "_law_cell_at" = some (some (.ref f5)))
    (l5 : K.lookup f5 = some ⟨oc5, od5, .func (PySem.W.fnOf "_law_cell_at" "_law_cell_at" (defArgs s_l_cell_at) (defBody s_l_cell_at) (defScope s_l_cell_at) .none kV5 dc5 pm5 an5 cd5 ct5), sl5⟩)
    (c5 : PySem.W.codeIn K cd5 "_law_cell_at" = true)
    (k5 : PySem.W.keepIn K (.ref f5) = true)
    (a6 : PySem.W.nsIn K mainGlobals "_law_whole" = some (some (.ref f6)))
    (l6 : K.lookup f6 = some ⟨oc6, od6, .func (PySem.W.fnOf "_law_whole" "_law_whole" (defArgs s_l_whole) (defBody s_l_whole) (defScope s_l_whole) .none kV6 dc6 pm6 an6 cd6 ct6), sl6⟩)
    (c6 : PySem.W.codeIn K cd6 "_law_whole" = true)
    (k6 : PySem.W.keepIn K (.ref f6) = true)
    (a7 : PySem.W.nsIn K mainGlobals "_law_taken" = some (some (.ref f7)))
    (l7 : K.lookup f7 = some ⟨oc7, od7, .func (PySem.W.fnOf "_law_taken" "_law_taken" (defArgs s_l_taken) (defBody s_l_taken) (defScope s_l_taken) .none kV7 dc7 pm7 an7 cd7 ct7), sl7⟩)
    (c7 : PySem.W.codeIn K cd7 "_law_taken" = true)
    (k7 : PySem.W.keepIn K (.ref f7) = true)
    (a8 : PySem.W.nsIn K mainGlobals "_law_given" = some (some (.ref f8)))
    (l8 : K.lookup f8 = some ⟨oc8, od8, .func (PySem.W.fnOf "_law_given" "_law_given" (defArgs s_l_given) (defBody s_l_given) (defScope s_l_given) .none kV8 dc8 pm8 an8 cd8 ct8), sl8⟩)
    (c8 : PySem.W.codeIn K cd8 "_law_given" = true)
    (k8 : PySem.W.keepIn K (.ref f8) = true)
    (a9 : PySem.W.nsIn K mainGlobals "_law_deed" = some (some (.ref f9)))
    (l9 : K.lookup f9 = some ⟨oc9, od9, .func (PySem.W.fnOf "_law_deed" "_law_deed" (defArgs s_l_deed) (defBody s_l_deed) (defScope s_l_deed) .none kV9 dc9 pm9 an9 cd9 ct9), sl9⟩)
    (c9 : PySem.W.codeIn K cd9 "_law_deed" = true)
    (k9 : PySem.W.keepIn K (.ref f9) = true)
    (a10 : PySem.W.nsIn K mainGlobals "_law_stands" = some (some (.ref f10)))
    (l10 : K.lookup f10 = some ⟨oc10, od10, .func (PySem.W.fnOf "_law_stands" "_law_stands" (defArgs s_l_stands) (defBody s_l_stands) (defScope s_l_stands) .none kV10 dc10 pm10 an10 cd10 ct10), sl10⟩)
    (c10 : PySem.W.codeIn K cd10 "_law_stands" = true)
    (k10 : PySem.W.keepIn K (.ref f10) = true)
    (a11 : PySem.W.nsIn K mainGlobals "law" = some (some (.ref f11)))
    (l11 : K.lookup f11 = some ⟨oc11, od11, .func (PySem.W.fnOf "law" "law" (defArgs s_law) (defBody s_law) (defScope s_law) .none kV11 dc11 pm11 an11 cd11 ct11), sl11⟩)
    (c11 : PySem.W.codeIn K cd11 "law" = true)
    (k11 : PySem.W.keepIn K (.ref f11) = true)
    (pg_Shelf : PySem.W.plainGet K C_Shelf Str.empty = true)
    (hd_Shelf : PySem.W.hasDictIn K C_Shelf = true)
    (po_Shelf : PySem.W.plainOver K C_Shelf = true)
    (sa_Shelf : PySem.W.findIn K (.ref C_Shelf) "__setattr__" = some (some (.builtin "object.__setattr__")))
    (mk_Shelf : PySem.W.makesIn K C_Shelf = true)
    (kc_Shelf : PySem.W.keepIn K (.ref C_Shelf) = true)
    (na_Shelf_page : PySem.W.findIn K (.ref C_Shelf) "page" = some none)
    (na_Shelf_size : PySem.W.findIn K (.ref C_Shelf) "size" = some none)
    (na_Shelf__free : PySem.W.findIn K (.ref C_Shelf) "_free" = some none)
    (na_Shelf__taken : PySem.W.findIn K (.ref C_Shelf) "_taken" = some none)
    (x_RoomError : PySem.W.excIn K C_RoomError [.type "ValueError", .type "Exception", .type "BaseException", .type "object"] "ValueError.__new__" = true)
    (ke_RoomError : PySem.W.keepIn K (.ref C_RoomError) = true)
    (bs_RoomError : PySem.W.subIn K (.ref C_RoomError) (.type "BaseException") = some true)
    (ty_RoomError : PySem.W.typeIn K (.ref C_RoomError) = some (.type "type"))
    (ic_RoomError : PySem.W.isClsIn K C_RoomError = true)
    (x_NoRoom : PySem.W.excIn K C_NoRoom [.type "ValueError", .type "Exception", .type "BaseException", .type "object"] "ValueError.__new__" = true)
    (ke_NoRoom : PySem.W.keepIn K (.ref C_NoRoom) = true)
    (bs_NoRoom : PySem.W.subIn K (.ref C_NoRoom) (.type "BaseException") = some true)
    (ty_NoRoom : PySem.W.typeIn K (.ref C_NoRoom) = some (.type "type"))
    (ic_NoRoom : PySem.W.isClsIn K C_NoRoom = true)
    (x_NotOut : PySem.W.excIn K C_NotOut [.type "ValueError", .type "Exception", .type "BaseException", .type "object"] "ValueError.__new__" = true)
    (ke_NotOut : PySem.W.keepIn K (.ref C_NotOut) = true)
    (bs_NotOut : PySem.W.subIn K (.ref C_NotOut) (.type "BaseException") = some true)
    (ty_NotOut : PySem.W.typeIn K (.ref C_NotOut) = some (.type "type"))
    (ic_NotOut : PySem.W.isClsIn K C_NotOut = true)
    (sb_NoRoom_NoRoom : PySem.W.subIn K (.ref C_NoRoom) (.ref C_NoRoom) = some true)
    (sb_NoRoom_NotOut : PySem.W.subIn K (.ref C_NoRoom) (.ref C_NotOut) = some false)
    (sb_NotOut_NoRoom : PySem.W.subIn K (.ref C_NotOut) (.ref C_NoRoom) = some false)
    (sb_NotOut_NotOut : PySem.W.subIn K (.ref C_NotOut) (.ref C_NotOut) = some true)
    (n_bool : PySem.W.nsIn K mainGlobals "bool" = some none)
    (n_int : PySem.W.nsIn K mainGlobals "int" = some none)
    (n_isinstance : PySem.W.nsIn K mainGlobals "isinstance" = some none)
    (n_len : PySem.W.nsIn K mainGlobals "len" = some none)
    (n_list : PySem.W.nsIn K mainGlobals "list" = some none)
    (n_range : PySem.W.nsIn K mainGlobals "range" = some none)
    (n_sorted : PySem.W.nsIn K mainGlobals "sorted" = some none)
    (h_heappop : PySem.W.nsIn K mainGlobals "heappop" = some (some (.builtin "_heapq.heappop")))
    (h_heappush : PySem.W.nsIn K mainGlobals "heappush" = some (some (.builtin "_heapq.heappush"))) :
    ∃ fd : FuncData, (∀ (s : Shared) (v : Value), BindsTo s fd ⟨[v], []⟩ [("_law_script", v)]) ∧ ∀ base : Heap, K.In base → base.Ns mainGlobals mg → FnOk l.prog w K mg base CX0 5 fa fd ["_law_script"] (spL K) := by
  have e := hfa.symm.trans (PySem.W.mg_of X G a11)
  cases e
  have F0 := fun_mk (st := s_Shelf_init) l0 c0 k0
  have b0 := F0.binds (ps := ["self", "page", "size", "slots"]) fun _ _ _ _ _ _ us hl => match us, hl with | [_, _, _, _], _ => rfl
  have F1 := fun_mk (st := s_Shelf_out) l1 c1 k1
  have b1 := F1.binds (ps := ["self"]) fun _ _ _ _ _ _ us hl => match us, hl with | [_], _ => rfl
  have F2 := fun_mk (st := s_Shelf_free) l2 c2 k2
  have b2 := F2.binds (ps := ["self"]) fun _ _ _ _ _ _ us hl => match us, hl with | [_], _ => rfl
  have F3 := fun_mk (st := s_Shelf_take) l3 c3 k3
  have b3 := F3.binds (ps := ["self"]) fun _ _ _ _ _ _ us hl => match us, hl with | [_], _ => rfl
  have F4 := fun_mk (st := s_Shelf_give) l4 c4 k4
  have b4 := F4.binds (ps := ["self", "slot"]) fun _ _ _ _ _ _ us hl => match us, hl with | [_, _], _ => rfl
  have F5 := fun_mk (st := s_l_cell_at) l5 c5 k5
  have b5 := F5.binds (ps := ["_law_script", "_law_k"]) fun _ _ _ _ _ _ us hl => match us, hl with | [_, _], _ => rfl
  have F6 := fun_mk (st := s_l_whole) l6 c6 k6
  have b6 := F6.binds (ps := ["_law_found"]) fun _ _ _ _ _ _ us hl => match us, hl with | [_], _ => rfl
  have F7 := fun_mk (st := s_l_taken) l7 c7 k7
  have b7 := F7.binds (ps := ["_law_shelf"]) fun _ _ _ _ _ _ us hl => match us, hl with | [_], _ => rfl
  have F8 := fun_mk (st := s_l_given) l8 c8 k8
  have b8 := F8.binds (ps := ["_law_shelf", "_law_slot"]) fun _ _ _ _ _ _ us hl => match us, hl with | [_, _], _ => rfl
  have F9 := fun_mk (st := s_l_deed) l9 c9 k9
  have b9 := F9.binds (ps := ["_law_shelf", "_law_row", "_law_cell"]) fun _ _ _ _ _ _ us hl => match us, hl with | [_, _, _], _ => rfl
  have F10 := fun_mk (st := s_l_stands) l10 c10 k10
  have b10 := F10.binds (ps := ["_law_shelf", "_law_row", "_law_kept"]) fun _ _ _ _ _ _ us hl => match us, hl with | [_, _, _], _ => rfl
  have F11 := fun_mk (st := s_law) l11 c11 k11
  have b11 := F11.binds (ps := ["_law_script"]) fun _ _ _ _ _ _ us hl => match us, hl with | [_], _ => rfl
  let A : Ad := ⟨K, C_Shelf, C_RoomError, C_NoRoom, C_NotOut⟩
  let T : Txt A mg := {
    f_Shelf_init := f0,
    fd_Shelf_init := _,
    F_Shelf_init := F0,
    b_Shelf_init := b0,
    mk_Shelf := ⟨mk_Shelf, a0, i0, kc_Shelf⟩,
    f_Shelf_out := f1,
    fd_Shelf_out := _,
    F_Shelf_out := F1,
    b_Shelf_out := b1,
    m_Shelf_out := ⟨a1, i1, k1⟩,
    f_Shelf_free := f2,
    fd_Shelf_free := _,
    F_Shelf_free := F2,
    b_Shelf_free := b2,
    m_Shelf_free := ⟨a2, i2, k2⟩,
    f_Shelf_take := f3,
    fd_Shelf_take := _,
    F_Shelf_take := F3,
    b_Shelf_take := b3,
    m_Shelf_take := ⟨a3, i3, k3⟩,
    f_Shelf_give := f4,
    fd_Shelf_give := _,
    F_Shelf_give := F4,
    b_Shelf_give := b4,
    m_Shelf_give := ⟨a4, i4, k4⟩,
    f_l_cell_at := f5,
    fd_l_cell_at := _,
    F_l_cell_at := F5,
    b_l_cell_at := b5,
    g_l_cell_at := PySem.W.mg_of X G a5,
    k_l_cell_at := k5,
    f_l_whole := f6,
    fd_l_whole := _,
    F_l_whole := F6,
    b_l_whole := b6,
    g_l_whole := PySem.W.mg_of X G a6,
    k_l_whole := k6,
    f_l_taken := f7,
    fd_l_taken := _,
    F_l_taken := F7,
    b_l_taken := b7,
    g_l_taken := PySem.W.mg_of X G a7,
    k_l_taken := k7,
    f_l_given := f8,
    fd_l_given := _,
    F_l_given := F8,
    b_l_given := b8,
    g_l_given := PySem.W.mg_of X G a8,
    k_l_given := k8,
    f_l_deed := f9,
    fd_l_deed := _,
    F_l_deed := F9,
    b_l_deed := b9,
    g_l_deed := PySem.W.mg_of X G a9,
    k_l_deed := k9,
    f_l_stands := f10,
    fd_l_stands := _,
    F_l_stands := F10,
    b_l_stands := b10,
    g_l_stands := PySem.W.mg_of X G a10,
    k_l_stands := k10,
    f_law := fa,
    fd_law := _,
    F_law := F11,
    b_law := b11,
    g_law := PySem.W.mg_of X G a11,
    k_law := k11,
    cl_Shelf := ⟨pg_Shelf, hd_Shelf, po_Shelf, sa_Shelf⟩,
    g_Shelf := PySem.W.mg_of X G aC_Shelf,
    g_RoomError := PySem.W.mg_of X G aC_RoomError,
    x_RoomError := x_RoomError,
    k_RoomError := ke_RoomError,
    bs_RoomError := bs_RoomError,
    ty_RoomError := ty_RoomError,
    g_NoRoom := PySem.W.mg_of X G aC_NoRoom,
    x_NoRoom := x_NoRoom,
    k_NoRoom := ke_NoRoom,
    bs_NoRoom := bs_NoRoom,
    ty_NoRoom := ty_NoRoom,
    g_NotOut := PySem.W.mg_of X G aC_NotOut,
    x_NotOut := x_NotOut,
    k_NotOut := ke_NotOut,
    bs_NotOut := bs_NotOut,
    ty_NotOut := ty_NotOut,
    n_bool := PySem.W.mg_none_of X G n_bool,
    n_int := PySem.W.mg_none_of X G n_int,
    n_isinstance := PySem.W.mg_none_of X G n_isinstance,
    n_len := PySem.W.mg_none_of X G n_len,
    n_list := PySem.W.mg_none_of X G n_list,
    n_range := PySem.W.mg_none_of X G n_range,
    n_sorted := PySem.W.mg_none_of X G n_sorted,
    h_heappop := PySem.W.mg_of X G h_heappop,
    h_heappush := PySem.W.mg_of X G h_heappush,
    na := { cl_Shelf := ⟨pg_Shelf, hd_Shelf, po_Shelf, sa_Shelf⟩, na_Shelf_page := na_Shelf_page, na_Shelf_size := na_Shelf_size, na_Shelf__free := na_Shelf__free, na_Shelf__taken := na_Shelf__taken, ex_NoRoom_NoRoom := exm_mk rfl bs_NoRoom ic_NoRoom ty_NoRoom sb_NoRoom_NoRoom, ex_NoRoom_NotOut := exm_mk rfl bs_NotOut ic_NotOut ty_NotOut sb_NoRoom_NotOut, ex_NotOut_NoRoom := exm_mk rfl bs_NoRoom ic_NoRoom ty_NoRoom sb_NotOut_NoRoom, ex_NotOut_NotOut := exm_mk rfl bs_NotOut ic_NotOut ty_NotOut sb_NotOut_NotOut } }
  exact ⟨PySem.W.fnOf "law" "law" (defArgs s_law) (defBody s_law) (defScope s_law) .none kV11 dc11 pm11 an11 cd11 ct11, fun s v => .of_eq rfl, fun base _ _ => (ok_law T : FnOk l.prog w A.K mg base CX0 5 T.f_law T.fd_law ["_law_script"] (sp_law A))⟩
theorem walk {l : PySem.W.OpenLaw} {q : Program} {loose : List Str} {XP : (Str → Option Value) → Heap → Prop} {YP : World → Heap → Prop} {d : DefRec} {K : Params → PySem.W.Frag} (hn : l.most = some 63) (hdf : d.params.defaults = [])
    (hY : ∀ (w : World) (h : Heap), YP w h → (K w.params).In h)
    (F : ∀ (w : World) (mg : Str → Option Value) (fa : Addr) (h : Heap), (K w.params).In h → h.Ns mainGlobals mg → mg d.name = some (.ref fa) →
      ∃ fd : FuncData, (∀ (s : Shared) (u : Value), BindsTo s fd ⟨[u], []⟩ [("_law_script", u)]) ∧ ∀ base : Heap, (K w.params).In base → base.Ns mainGlobals mg → FnOk l.prog w (K w.params) mg base CX0 5 fa fd ["_law_script"] (spL (K w.params))) :
    PySem.W.WalkO q loose XP YP l.row.toRowW d [] (fun f vs => PySem.call f vs) :=
  L2.walk_of (n := 63) (k := 5) (x := "_law_script") (CX := fun _ => CX0) (sp := fun w => spL (K w.params)) hn (by decide) hdf ⟨rfl, by decide, by decide⟩ hY F (fun _ _ a ns hl _ hS => ⟨a, ns, rfl, hS, hl, fun _ => rfl⟩) fun _ _ _ _ _ z => z


end My
open PySem PySem.W PyProof.Rows
set_option maxRecDepth 100000 in
set_option maxHeartbeats 0 in
theorem PySem.Challenge.cw_slabroom_k03_a_shelf_holds : PySem.Challenge.rw_slabroom_k03_a_shelf.Holds := by
  w_on; o_law; k_head; (case hw => w_witness2)
  k_fill
  refine My.walk (l := PySem.Challenge.rw_slabroom_k03_a_shelf) rfl rfl (fun w h Y => PySem.W.kIn_of Y) ?F
  case F =>
    intro w mg fa h KX G hmg
    refine' My.all_mk KX G hmg ?aC_Shelf ?aC_RoomError ?aC_NoRoom ?aC_NotOut ?a0 ?i0 ?l0 ?c0 ?k0 ?a1 ?i1 ?l1 ?c1 ?k1 ?a2 ?i2 ?l2 ?c2 ?k2 ?a3 ?i3 ?l3 ?c3 ?k3 ?a4 ?i4 ?l4 ?c4 ?k4 ?a5 ?l5 ?c5 ?k5 ?a6 ?l6 ?c6 ?k6 ?a7 ?l7 ?c7 ?k7 ?a8 ?l8 ?c8 ?k8 ?a9 ?l9 ?c9 ?k9 ?a10 ?l10 ?c10 ?k10 ?a11 ?l11 ?c11 ?k11 ?pg_Shelf ?hd_Shelf ?po_Shelf ?sa_Shelf ?mk_Shelf ?kc_Shelf ?na_Shelf_page ?na_Shelf_size ?na_Shelf__free ?na_Shelf__taken ?x_RoomError ?ke_RoomError ?bs_RoomError ?ty_RoomError ?ic_RoomError ?x_NoRoom ?ke_NoRoom ?bs_NoRoom ?ty_NoRoom ?ic_NoRoom ?x_NotOut ?ke_NotOut ?bs_NotOut ?ty_NotOut ?ic_NotOut ?sb_NoRoom_NoRoom ?sb_NoRoom_NotOut ?sb_NotOut_NoRoom ?sb_NotOut_NotOut ?n_bool ?n_int ?n_isinstance ?n_len ?n_list ?n_range ?n_sorted ?h_heappop ?h_heappush
    (case aC_Shelf => k_is)
    (case aC_RoomError => k_is)
    (case aC_NoRoom => k_is)
    (case aC_NotOut => k_is)
    (case a0 => k_is)
    (case i0 => k_is)
    (case l0 => k_is)
    (case c0 => k_is)
    (case k0 => k_is)
    (case a1 => k_is)
    (case i1 => k_is)
    (case l1 => k_is)
    (case c1 => k_is)
    (case k1 => k_is)
    (case a2 => k_is)
    (case i2 => k_is)
    (case l2 => k_is)
    (case c2 => k_is)
    (case k2 => k_is)
    (case a3 => k_is)
    (case i3 => k_is)
    (case l3 => k_is)
    (case c3 => k_is)
    (case k3 => k_is)
    (case a4 => k_is)
    (case i4 => k_is)
    (case l4 => k_is)
    (case c4 => k_is)
    (case k4 => k_is)
    (case a5 => k_is)
    (case l5 => k_is)
    (case c5 => k_is)
    (case k5 => k_is)
    (case a6 => k_is)
    (case l6 => k_is)
    (case c6 => k_is)
    (case k6 => k_is)
    (case a7 => k_is)
    (case l7 => k_is)
    (case c7 => k_is)
    (case k7 => k_is)
    (case a8 => k_is)
    (case l8 => k_is)
    (case c8 => k_is)
    (case k8 => k_is)
    (case a9 => k_is)
    (case l9 => k_is)
    (case c9 => k_is)
    (case k9 => k_is)
    (case a10 => k_is)
    (case l10 => k_is)
    (case c10 => k_is)
    (case k10 => k_is)
    (case a11 => k_is)
    (case l11 => k_is)
    (case c11 => k_is)
    (case k11 => k_is)
    (case pg_Shelf => k_is)
    (case hd_Shelf => k_is)
    (case po_Shelf => k_is)
    (case sa_Shelf => k_is)
    (case mk_Shelf => k_is)
    (case kc_Shelf => k_is)
    (case na_Shelf_page => k_is)
    (case na_Shelf_size => k_is)
    (case na_Shelf__free => k_is)
    (case na_Shelf__taken => k_is)
    (case x_RoomError => k_exc)
    (case ke_RoomError => k_is)
    (case bs_RoomError => k_is)
    (case ty_RoomError => k_is)
    (case ic_RoomError => k_is)
    (case x_NoRoom => k_exc)
    (case ke_NoRoom => k_is)
    (case bs_NoRoom => k_is)
    (case ty_NoRoom => k_is)
    (case ic_NoRoom => k_is)
    (case x_NotOut => k_exc)
    (case ke_NotOut => k_is)
    (case bs_NotOut => k_is)
    (case ty_NotOut => k_is)
    (case ic_NotOut => k_is)
    (case sb_NoRoom_NoRoom => k_is)
    (case sb_NoRoom_NotOut => k_is)
    (case sb_NotOut_NoRoom => k_is)
    (case sb_NotOut_NotOut => k_is)
    (case n_bool => k_is)
    (case n_int => k_is)
    (case n_isinstance => k_is)
    (case n_len => k_is)
    (case n_list => k_is)
    (case n_range => k_is)
    (case n_sorted => k_is)
    (case h_heappop => k_is)
    (case h_heappush => k_is)
#print axioms PySem.Challenge.cw_slabroom_k03_a_shelf_holds
