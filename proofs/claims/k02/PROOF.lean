import PyProof.Rows.All
import Wide.All
import OpenK.AllK
import Wide.FinOn
import HandS.ForMost
import HandS.ForExc
import HandS.IsInst
import HandS.TryMany
import HandS.RaiseMore
import HandS.FStr
import HandS.Deep
import HandS.Conv
import HandS.SortInts
import HandS.ExcIs
import PySem.Challenge.RW_slabroom_k02_plans
set_option Elab.async false
set_option linter.all false
set_option maxRecDepth 100000
set_option maxHeartbeats 4000000
/-! Pre: rules that leave the choice of the kind to the reading, and the readings' steps (walk_at "rd"). -/

namespace My
open PySem PySem.Spec PyProof.Rows L2

/-! ### rules whose kind the reading chooses -/
section
variable {X : Cx}
theorem orR {f : Value → Value → Sem Value} {r1 r2 : R2} (h1 : OpR X f r1) (h2 : OpR X f r2) : OpR X f (fun x y H Q => r1 x y H Q ∨ r2 x y H Q) :=
  fun pins s σ H x y v u Q I rx ry q => q.elim (h1 pins s σ H x y v u Q I rx ry) (h2 pins s σ H x y v u Q I rx ry)
theorem orC {f : Value} {r1 r2 : List V → Hp → VK → Prop} (h1 : CallR X f r1) (h2 : CallR X f r2) : CallR X f (fun xs H Q => r1 xs H Q ∨ r2 xs H Q) :=
  fun pins s σ H xs us Q I r q => q.elim (h1 pins s σ H xs us Q I r) (h2 pins s σ H xs us Q I r)
def rAddA : R2 := fun x y H Q => rI0 (fun i j => .int (i + j)) x y H Q ∨ rCat x y H Q
theorem op_addA : OpR X (binaryOp .Add) rAddA := orR op_add op_cat
def rMulA : R2 := fun x y H Q => rI CMul (fun i j => .int (i * j)) x y H Q ∨ rRep x y H Q
theorem op_mulA : OpR X (binaryOp .Mult) rMulA := orR op_mul op_rep
def rSubI : R2 := rI0 fun i j => .int (i - j)
theorem op_subA : OpR X (binaryOp .Sub) rSubI := op_sub
def rDivI : R2 := rI CDivN fun i j => .int (i.fdiv j)
theorem op_divA : OpR X (binaryOp .FloorDiv) rDivI := op_fdivN
def rModI : R2 := rI (fun _ j => j ≠ 0) fun i j => .int (i.fmod j)
theorem op_modA : OpR X (binaryOp .Mod) rModI := op_modN
def rPowI : R2 := rI CPow fun i j => .int (i ^ j.toNat)
theorem op_powA : OpR X (binaryOp .Pow) rPowI := op_pow
def rLtI : R2 := rI0 fun i j => .bl (decide (i < j))
def rLeI : R2 := rI0 fun i j => .bl (decide (i ≤ j))
def rGtI : R2 := rI0 fun i j => .bl (decide (j < i))
def rGeI : R2 := rI0 fun i j => .bl (decide (j ≤ i))
theorem op_ltA : OpR X (compareOp .Lt) rLtI := op_lt
theorem op_leA : OpR X (compareOp .LtE) rLeI := op_le
theorem op_gtA : OpR X (compareOp .Gt) rGtI := op_gt
theorem op_geA : OpR X (compareOp .GtE) rGeI := op_ge
def rEqA (K : PySem.W.Frag) : R2 := fun x y H Q => rEq x y H Q ∨ rEqD K x y H Q
def rNeA (K : PySem.W.Frag) : R2 := fun x y H Q => rNe x y H Q ∨ rNeD K x y H Q
theorem op_eqA (hu : X.A.units + 64 < cLine) : OpR X (compareOp .Eq) (rEqA X.K) := orR op_eq (op_eqD hu)
theorem op_neA (hu : X.A.units + 64 < cLine) : OpR X (compareOp .NotEq) (rNeA X.K) := orR op_ne (op_neD hu)
def rInP (K : PySem.W.Frag) : R2 := fun x y H Q => rIn K false x y H Q ∨ rInD K x y H Q
def rInN (K : PySem.W.Frag) : R2 := fun x y H Q => rIn K true x y H Q ∨ rNotInD K x y H Q
theorem op_inP (hu : X.A.units + 65 < cLine) : OpR X (compareOp .In) (rInP X.K) := orR op_in_seq (op_inD hu)
theorem op_inN (hu : X.A.units + 65 < cLine) : OpR X (compareOp .NotIn) (rInN X.K) := orR op_notIn_seq (op_notInD hu)
def rIsNon : R2 := fun x y H Q => y = .non ∧ Q (.bl (decide (x = .non))) H
def rNotNon : R2 := fun x y H Q => y = .non ∧ Q (.bl (!decide (x = .non))) H
theorem op_isNon : OpR X (compareOp .Is) rIsNon := op_isN
theorem op_notNon : OpR X (compareOp .IsNot) rNotNon := op_notN
def rIxA (K : PySem.W.Frag) : R2 := rIx K
theorem ix_A : IxR X (rIxA X.K) := ix_seq
def rLenA (K : PySem.W.Frag) : List V → Hp → VK → Prop := fun xs H Q => ∃ x n, xs = [x] ∧ LenV K x H n ∧ Q (.int n) H
theorem call_lenA : CallR X (.builtin "len") (rLenA X.K) := call_len
def rAbsI : List V → Hp → VK → Prop := fun xs H Q => ∃ i, xs = [.int i] ∧ Q (.int (if i < 0 then -i else i)) H
theorem call_absA : CallR X (.builtin "abs") rAbsI := call_abs
def rInt1 : List V → Hp → VK → Prop := fun xs H Q => (∃ i, xs = [.int i] ∧ Q (.int i) H) ∨ ∃ k, xs = [.bl k] ∧ Q (.int (if k then 1 else 0)) H
theorem call_intA : CallR X (.type "int") rInt1 := call_int1
def rListA (K : PySem.W.Frag) : List V → Hp → VK → Prop := fun xs H Q => ∃ p ys, xs = [.ref p] ∧ (SqL K H p ys ∨ SqT K H p ys) ∧ ∀ l, H l = none → Q (.ref l) (upd H l (.lst ys))
theorem call_listA : CallR X (.type "list") (rListA X.K) := call_list_of
def rTupA (K : PySem.W.Frag) : List V → Hp → VK → Prop := fun xs H Q => ∃ p ys, xs = [.ref p] ∧ ((SqL K H p ys ∧ ∀ l, H l = none → Q (.ref l) (upd H l (.tup ys))) ∨ (SqT K H p ys ∧ Q (.ref p) H))
theorem call_tupA : CallR X (.type "tuple") (rTupA X.K) := call_tuple_of
def rIndexA (K : PySem.W.Frag) : V → List V → Hp → VK → Prop := fun x xs H Q => rIndex K x xs H Q ∨ rIndexD K x xs H Q
theorem mt_indexA (hu : X.A.units + 65 < cLine) : MtR X "list.index" (rIndexA X.K) := MtR.or mt_index (mt_indexD hu)
def tJoin (ts : List TE) : TE := fun σ H Q => tJs ts Str.empty σ H fun out H1 => Q (.str out) H1
theorem hu65_of {A : Around} {k : Nat} (hr : Room k A) : A.units + 65 < cLine := by have := hr.un; omega
end

/-! ### calls in a try: what is raised is wished for at the caller's slots -/
def tMethS (C : Addr) (m : Str) (sp : Sp) (E : L2.St → XK) (ta : TE) (t : TA) : TE := fun σ H Q => ta σ H fun x H1 => ∃ a dx fs, x = .ref a ∧ H1 a = some (.ins C dx fs) ∧ fs.lookup m = none ∧
  t σ H1 fun vs H2 => sp (x :: vs) H2 Q (E σ)
def tMakeS (C : Addr) (sp : Sp) (E : L2.St → XK) (t : TA) : TE := fun σ H Q => t σ H fun vs H1 => ∀ x dx, H1 x = none → H1 dx = none → dx ≠ x →
  sp (.ref x :: vs) (upd (upd H1 dx (.own x)) x (.ins C dx [])) (fun v H2 => v = .non ∧ Q (.ref x) H2) fun cls d H2 => E σ cls d H2
section
variable {X : Cx} {CX : CXT} {k : Nat} {f C : Addr} {fd : FuncData} {ps : List Str} {sp : Sp} {E : L2.St → XK} {x m : Str} {p pos apos : Pos} {e o : Expr} {es : List Expr} {ta : TE} {t : TA}
theorem pe_methS1 {pl : Sem Bool} (he : PE X o ta) (c : Cls X.K C) (hm : Meth X.K C m f) (F : FnOk X.prog X.w X.K X.mg X.base CX k f fd ps sp) (hr : Room k X.A) (hb : Binds X.K fd ps []) (hx : ∀ σ, PassesAt CX X σ (E σ)) (ha : PA X (e :: es) t)
    (hst : starEach (e :: es) X.env = (false, eval e X.env) :: starEach es X.env := by rfl) (hpl : (backTo pos (starEach es X.env)).any (·.1) = false := by rfl)
    (ht : eval (.Call (.Attribute o m apos) (e :: es) [] pos) X.env = (do
      let ov ← eval o X.env
      standAt apos.atName
      let (f, first) ← holding [ov] (getMethod ov m pl)
      callWith pos f first (backTo pos (starEach (e :: es) X.env)) (backToKw pos (keywordEach [] X.env))) := by rfl) :
    PE X (.Call (.Attribute o m apos) (e :: es) [] pos) (tMethS C m sp E ta t) :=
  ⟨fun pins s σ H Q I h => PySem.W.methodCall_KW (pl := pl) (thn (he.run pins s σ H _ I h) fun u s1 hh => by
    obtain ⟨x, H1, I1, rx, a, dx, fs, ex, ea, l, q⟩ := hh
    subst ex
    obtain rfl : u = Value.ref a := rx
    exact getmeth_ok I1 ea c hm l (PySem.W.callWith_K (first := [.ref a]) (h₀ := X.base) I.ok.mod.kin hm.kp (thn (ha.run pos pins s1 σ H1 _ I1 q) fun us s2 hh2 => by
      obtain ⟨vs, H2, I2, r, q2⟩ := hh2
      exact ⟨I2.kIn, run_fnS (us := .ref a :: us) (vs := .ref a :: vs) F hr hb (hx σ) I2 (.cons rfl r) q2⟩) hst hpl)) ht⟩
theorem pe_methS0 {pl : Sem Bool} (he : PE X o ta) (c : Cls X.K C) (hm : Meth X.K C m f) (F : FnOk X.prog X.w X.K X.mg X.base CX k f fd ps sp) (hr : Room k X.A) (hb : Binds X.K fd ps []) (hx : ∀ σ, PassesAt CX X σ (E σ))
    (ht : eval (.Call (.Attribute o m apos) [] [] pos) X.env = (do
      let ov ← eval o X.env
      standAt apos.atName
      let (f, first) ← holding [ov] (getMethod ov m pl)
      callWith pos f first (backTo pos (starEach [] X.env)) (backToKw pos (keywordEach [] X.env))) := by rfl) :
    PE X (.Call (.Attribute o m apos) [] [] pos) (tMethS C m sp E ta tNil) :=
  ⟨fun pins s σ H Q I h => PySem.W.methodCall_KW (pl := pl) (thn (he.run pins s σ H _ I h) fun u s1 hh => by
    obtain ⟨x, H1, I1, rx, a, dx, fs, ex, ea, l, q⟩ := hh
    subst ex
    obtain rfl : u = Value.ref a := rx
    exact getmeth_ok I1 ea c hm l (PySem.W.callWith_K0 (first := [.ref a]) I1.kIn hm.kp (run_fnS (us := [.ref a]) (vs := [.ref a]) F hr hb (hx σ) I1 (.cons rfl .nil) q))) ht⟩
/-- the new instance's __init__ may raise; what is wished of that is asked of the heap in which the instance stands -/
theorem pe_makeS (M : Mk X.K C f) (F : FnOk X.prog X.w X.K X.mg X.base (L2.CX X.prog X.w) k f fd ps sp) (hr : Room (k + 1) X.A) (hg : Gl X x) (hm : X.mg x = some (.ref C)) (hb : Binds X.K fd ps []) (hx : ∀ σ, PassesAt (L2.CX X.prog X.w) X σ (E σ))
    (ha : PA X (e :: es) t) (hdb : (x == ("__debug__" : Str)) = false := by decide) (he : starEach (e :: es) X.env = (false, eval e X.env) :: starEach es X.env := by rfl) (hpl : (backTo pos (starEach es X.env)).any (·.1) = false := by rfl) :
    PE X (.Call (.Name x p) (e :: es) [] pos) (tMakeS C sp E t) :=
  ⟨fun pins s σ H Q I h => wpAny_Call_Name_kw (ld_glob I hg hm (PySem.W.callWith_K (h₀ := X.base) I.ok.mod.kin M.kp (thn (ha.run pos pins s σ H _ I h) fun us s1 hh => by
    obtain ⟨vs, H1, I1, r, q⟩ := hh
    refine ⟨I1.kIn, ?_⟩
    have hq := q (s1.heap.objs.size + 1) s1.heap.objs.size (I1.hok.fresh (Nat.le_succ _)) (I1.hok.fresh (Nat.le_refl _)) (Nat.ne_of_lt (Nat.lt_succ_self _))
    have I2 := Inv.made (C := C) I1
    have r2 : Vals (V.ref (s1.heap.objs.size + 1) :: vs) (Value.ref (s1.heap.objs.size + 1) :: us) := .cons rfl r
    have hl : (Value.ref (s1.heap.objs.size + 1) :: us).length = ps.length := by rw [← r2.length]; exact F.len _ _ _ _ hq
    have hbb := hb _ (Value.ref (s1.heap.objs.size + 1) :: us) I2.kIn (by rw [List.append_nil]; exact hl)
    rw [List.append_nil] at hbb
    refine wpAny_call (L2.make_map (f := f) I1.kIn M.makes M.init (beq_iff_eq.mp M.fn) (codeAny_mono (F.run _ X.stack _ _ ⟨Value.ref (s1.heap.objs.size + 1) :: us, []⟩ _ _ _ _ (hr.make C us [])
      (I2.env0.make C us []) hbb r2 hq) fun r s' hq' => ?_))
    cases r with
    | error e => exact hx σ pins _ _ e s' I2 hq'
    | ok fl =>
      cases fl with
      | ret u =>
        obtain ⟨v, H', I3, rv, ev, q3⟩ := I2.after hq'
        subst ev
        exact ⟨rv, ⟨V.ref (s1.heap.objs.size + 1), H', I3, rfl, q3⟩⟩
      | next => exact False.elim hq'
      | brk => exact False.elim hq'
      | cont => exact False.elim hq') he hpl) hdb)⟩
end
/-- what an except clause says of a class -/
theorem exm_mk {K : PySem.W.Frag} {c d : Value} {S : Addr} {b : Bool} (e : d = .ref S) (h1 : PySem.W.subIn K d (.type "BaseException") = some true) (h2 : PySem.W.isClsIn K S = true) (h3 : PySem.W.typeIn K d = some (.type "type")) (h4 : PySem.W.subIn K c d = some b) :
    PySem.W.exmOne K c d = some b := by
  subst e
  have e1 : (PySem.W.subIn K (.ref S) (.type "BaseException") == some true) = true := by rw [h1]; rfl
  have e2 : ((PySem.W.clsIn K S).isSome && PySem.W.typeIn K (.ref S) == some (.type "type")) = true := by
    rw [show (PySem.W.clsIn K S).isSome = true from h2, h3]; rfl
  unfold PySem.W.exmOne
  rw [if_pos e1]
  show (if ((PySem.W.clsIn K S).isSome && PySem.W.typeIn K (.ref S) == some (.type "type")) = true then PySem.W.subIn K c (.ref S) else none) = some b
  rw [if_pos e2]
  exact h4

/-- isinstance of the exception that a suite holds -/
def rIsEx (K : PySem.W.Frag) (cls : Value) (d : Option Addr) (a : Addr) : List V → Hp → VK → Prop := fun xs H Q => ∃ D, cls = .ref D ∧ d = none ∧ ExcC K D ∧ rIsE K D a xs H Q
theorem call_isEx {X : Cx} {a : Addr} {cls : Value} {d : Option Addr} {oe : Obj} {pn : List (Addr × Obj)} (hz : Zc cls d oe) (hf : ∃ vs, oe.data = .fields vs) : CallR (X.suite a ((a, oe) :: pn)) (.builtin "isinstance") (rIsEx X.K cls d a) := by
  intro pins s σ H xs us Q I r h
  obtain ⟨D, rfl, rfl, c, h⟩ := h
  exact call_isE c hz hf pins s σ H xs us Q I r h
theorem kit_mk {K : PySem.W.Frag} {D S : Addr} {b : Bool} (h2 : PySem.W.isClsIn K S = true) (h3 : PySem.W.typeIn K (.ref S) = some (.type "type")) (h4 : PySem.W.subIn K (.ref D) (.ref S) = some b) (h5 : PySem.W.subIn K (.ref D) (.ref D) = some true) :
    PySem.W.kitOne K (.ref D) (.ref S) = some b := by
  unfold PySem.W.kitOne
  by_cases e : D = S
  · subst e
    rw [h5] at h4
    rw [if_pos (by simp)]
    exact h4
  · rw [if_neg (by simp [e])]
    have e2 : ((PySem.W.clsIn K S).isSome && PySem.W.typeIn K (.ref S) == some (.type "type")) = true := by
      rw [show (PySem.W.clsIn K S).isSome = true from h2, h3]; rfl
    show (if ((PySem.W.clsIn K S).isSome && PySem.W.typeIn K (.ref S) == some (.type "type")) = true then PySem.W.subIn K (.ref D) (.ref S) else none) = some b
    rw [if_pos e2]
    exact h4
theorem kit_ve {K : PySem.W.Frag} {D : Addr} (h : PySem.W.subIn K (.ref D) (.type "ValueError") = some true) : PySem.W.kitOne K (.ref D) (.type "ValueError") = some true := by
  unfold PySem.W.kitOne
  rw [if_neg (by simp)]
  have e : PySem.W.kitMeta "ValueError" = true := by decide +kernel
  show (if PySem.W.kitMeta "ValueError" = true then PySem.W.subIn K (.ref D) (.type "ValueError") else none) = some true
  rw [if_pos e]
  exact h
/-! ### readings, one step each -/
section
variable {K : PySem.W.Frag} {σ : L2.St} {H : Hp} {Q : VK} {D : Ends} {x y v : V} {ta tb tc : TE} {t u : TT} {ts tu : TS} {i j : Int} {b : Bool} {P R : Prop}
theorem r_var {n : Nat} (h : σ[n]? = some (some v)) (q : Q v H) : tVar n σ H Q := ⟨v, h, q⟩
theorem r_c (q : Q v H) : tC v σ H Q := q
theorem r_op {r : R2} (h : ta σ H fun x H1 => tb σ H1 fun y H2 => r x y H2 Q) : tOp r ta tb σ H Q := h
theorem r_un {r : V → Hp → VK → Prop} (h : ta σ H fun x H1 => r x H1 Q) : tUn r ta σ H Q := h
theorem r_neg (q : Q (.int (-i)) H) : rU (fun i => .int (-i)) (.int i) H Q := ⟨i, rfl, q⟩
theorem r_add (q : Q (.int (i + j)) H) : rAddA (.int i) (.int j) H Q := .inl ⟨i, j, rfl, rfl, q⟩
theorem r_cat {l m : Addr} {xs ys : List V} (h1 : H l = some (.lst xs)) (h2 : H m = some (.lst ys)) (hz : xs.length + ys.length ≤ sizeLine) (q : ∀ p, H p = none → Q (.ref p) (upd H p (.lst (xs ++ ys)))) : rAddA (.ref l) (.ref m) H Q :=
  .inr ⟨l, m, xs, ys, rfl, rfl, h1, h2, hz, q⟩
theorem r_sub (q : Q (.int (i - j)) H) : rSubI (.int i) (.int j) H Q := ⟨i, j, rfl, rfl, q⟩
theorem r_mul (h : (-(2 ^ 64) < i ∧ i < 2 ^ 64) ∨ (-(2 ^ 64) < j ∧ j < 2 ^ 64)) (q : Q (.int (i * j)) H) : rMulA (.int i) (.int j) H Q := .inl ⟨i, j, rfl, rfl, h, q⟩
theorem r_rep {l : Addr} {k : Int} {xs : List V} (h : H l = some (.lst xs)) (h1 : 0 ≤ k) (h2 : k < 2 ^ 24) (h3 : xs.length * k.toNat ≤ sizeLine) (q : ∀ p, H p = none → Q (.ref p) (upd H p (.lst (List.replicate k.toNat xs).flatten))) : rMulA (.ref l) (.int k) H Q :=
  .inr ⟨l, k, xs, rfl, rfl, h, by omega, by omega, h3, q⟩
theorem r_mod (h : 0 < j) (q : Q (.int (i % j)) H) : rModI (.int i) (.int j) H Q :=
  ⟨i, j, rfl, rfl, by omega, by show Q (.int (i.fmod j)) H; rw [Int.fmod_eq_emod_of_nonneg i (by omega)]; exact q⟩
theorem r_div (h : 0 < j) (h2 : j < 1073741824) (q : Q (.int (i / j)) H) : rDivI (.int i) (.int j) H Q :=
  ⟨i, j, rfl, rfl, ⟨by omega, by omega⟩, by show Q (.int (i.fdiv j)) H; rw [Int.fdiv_eq_ediv_of_nonneg i (by omega)]; exact q⟩
theorem r_pow (h : 0 ≤ j ∧ j ≤ 1000000 ∧ i.natAbs < 2 ^ 64) (q : Q (.int (i ^ j.toNat)) H) : rPowI (.int i) (.int j) H Q := ⟨i, j, rfl, rfl, h, q⟩
theorem r_lt (q : Q (.bl (decide (i < j))) H) : rLtI (.int i) (.int j) H Q := ⟨i, j, rfl, rfl, q⟩
theorem r_le (q : Q (.bl (decide (i ≤ j))) H) : rLeI (.int i) (.int j) H Q := ⟨i, j, rfl, rfl, q⟩
theorem r_gt (q : Q (.bl (decide (j < i))) H) : rGtI (.int i) (.int j) H Q := ⟨i, j, rfl, rfl, q⟩
theorem r_ge (q : Q (.bl (decide (j ≤ i))) H) : rGeI (.int i) (.int j) H Q := ⟨i, j, rfl, rfl, q⟩
theorem dec_int : decide (V.int i = V.int j) = decide (i = j) := by
  by_cases h : i = j
  · rw [h]; simp
  · rw [decide_eq_false h, decide_eq_false (fun e => h (V.int.inj e))]
theorem r_eqI (q : Q (.bl (decide (i = j))) H) : rEqA K (.int i) (.int j) H Q := .inl ⟨rfl, by rw [dec_int]; exact q⟩
theorem r_neI (q : Q (.bl (!decide (i = j))) H) : rNeA K (.int i) (.int j) H Q := .inl ⟨rfl, by rw [dec_int]; exact q⟩
theorem dec_bl {b c : Bool} : decide (V.bl b = V.bl c) = decide (b = c) := by
  cases b <;> cases c <;> rfl
theorem r_eqB {b c : Bool} (q : Q (.bl (decide (b = c))) H) : rEqA K (.bl b) (.bl c) H Q := .inl ⟨rfl, by rw [dec_bl]; exact q⟩
theorem r_neB {b c : Bool} (q : Q (.bl (!decide (b = c))) H) : rNeA K (.bl b) (.bl c) H Q := .inl ⟨rfl, by rw [dec_bl]; exact q⟩
theorem dpall_ints : ∀ ns : List Int, DpAll K H (ns.map V.int) (ns.map PyData.int)
  | [] => .nil
  | n :: ns => .cons (.int n) (dpall_ints ns)
theorem dp_ints {a : Addr} {ns : List Int} (h : SqL K H a (ns.map V.int)) : Dp K H (.ref a) (.list (ns.map PyData.int)) := .lst h (dpall_ints ns)
theorem shaped_ints (ns : List Int) : SeqAt.shaped (.list (ns.map PyData.int)) = true := PySem.W.ke_shaped_ints ns
theorem eqv_ints (ns ms : List Int) : PyData.eqv (.list (ns.map PyData.int)) (.list (ms.map PyData.int)) = decide (ns = ms) := by
  rw [← PySem.W.ked_eqvAll ns ms]
  simp only [PyData.eqv]
theorem r_eqL {a c : Addr} {ns ms : List Int} (h1 : SqL K H a (ns.map V.int)) (h2 : SqL K H c (ms.map V.int)) (q : Q (.bl (decide (ns = ms))) H) : rEqA K (.ref a) (.ref c) H Q :=
  .inr ⟨_, _, dp_ints h1, dp_ints h2, shaped_ints ns, shaped_ints ms, by rw [eqv_ints]; exact q⟩
theorem r_neL {a c : Addr} {ns ms : List Int} (h1 : SqL K H a (ns.map V.int)) (h2 : SqL K H c (ms.map V.int)) (q : Q (.bl (!decide (ns = ms))) H) : rNeA K (.ref a) (.ref c) H Q :=
  .inr ⟨_, _, dp_ints h1, dp_ints h2, shaped_ints ns, shaped_ints ms, by rw [eqv_ints]; exact q⟩
theorem inV_ints (x : Int) (ns : List Int) : inV (.int x) (ns.map V.int) = decide (x ∈ ns) := by
  unfold inV
  induction ns with
  | nil => rfl
  | cons n ns ih =>
    rw [List.map_cons, List.any_cons, ih]
    show (n == x || decide (x ∈ ns)) = decide (x ∈ n :: ns)
    by_cases h : n = x
    · subst h; simp
    · have h' : x ≠ n := fun e => h e.symm
      simp [h, h']
theorem flat_ints (ns : List Int) : (ns.map V.int).all flatV = true := by
  rw [List.all_eq_true]
  intro v hv
  obtain ⟨n, _, rfl⟩ := List.mem_map.mp hv
  rfl
theorem r_inI {a : Addr} {x : Int} {ns : List Int} (h : SqL K H a (ns.map V.int)) (q : Q (.bl (decide (x ∈ ns))) H) : rInP K (.int x) (.ref a) H Q :=
  .inl ⟨a, _, rfl, .inl h, rfl, flat_ints ns, by rw [inV_ints]; exact q⟩
theorem r_ninI {a : Addr} {x : Int} {ns : List Int} (h : SqL K H a (ns.map V.int)) (q : Q (.bl (!decide (x ∈ ns))) H) : rInN K (.int x) (.ref a) H Q :=
  .inl ⟨a, _, rfl, .inl h, rfl, flat_ints ns, by rw [inV_ints]; exact q⟩
theorem r_isN (q : Q (.bl (decide (x = .non))) H) : rIsNon x .non H Q := ⟨rfl, q⟩
theorem r_notN (q : Q (.bl (!decide (x = .non))) H) : rNotNon x .non H Q := ⟨rfl, q⟩
theorem r_ixL {a : Addr} {xs : List V} {n : Nat} (h : SqL K H a xs) (e : i = (n : Int)) (ha : xs[n]? = some v) (q : Q v H) : rIxA K (.ref a) (.int i) H Q :=
  .inl ⟨a, xs, i, v, rfl, rfl, h, at_of e ha, q⟩
theorem r_ixT {a : Addr} {xs : List V} {n : Nat} (h : SqT K H a xs) (e : i = (n : Int)) (ha : xs[n]? = some v) (q : Q v H) : rIxA K (.ref a) (.int i) H Q :=
  .inr (.inl ⟨a, xs, i, v, rfl, rfl, h, at_of e ha, q⟩)
-- calls of built-ins
theorem r_cb {r : List V → Hp → VK → Prop} {tA : TA} (h : tA σ H fun vs H1 => r vs H1 Q) : tCB r tA σ H Q := h
theorem r_cons {tA : TA} {QA : List V → Hp → Prop} (h : ta σ H fun x H1 => tA σ H1 fun xs H2 => QA (x :: xs) H2) : tCons ta tA σ H QA := h
theorem r_nil {QA : List V → Hp → Prop} (q : QA [] H) : tNil σ H QA := q
theorem r_lenL {a : Addr} {xs : List V} (h : SqL K H a xs) (q : Q (.int xs.length) H) : rLenA K [.ref a] H Q := ⟨_, _, rfl, .inl ⟨xs, h, rfl⟩, q⟩
theorem r_lenT {a : Addr} {xs : List V} (h : SqT K H a xs) (q : Q (.int xs.length) H) : rLenA K [.ref a] H Q := ⟨_, _, rfl, .inr ⟨xs, h, rfl⟩, q⟩
theorem r_abs (q : Q (.int (if i < 0 then -i else i)) H) : rAbsI [.int i] H Q := ⟨i, rfl, q⟩
theorem r_intI (q : Q (.int i) H) : rInt1 [.int i] H Q := .inl ⟨i, rfl, q⟩
theorem r_intB (q : Q (.int (if b then 1 else 0)) H) : rInt1 [.bl b] H Q := .inr ⟨b, rfl, q⟩
theorem r_listL {a : Addr} {xs : List V} (h : SqL K H a xs) (q : ∀ l, H l = none → Q (.ref l) (upd H l (.lst xs))) : rListA K [.ref a] H Q := ⟨a, xs, rfl, .inl h, q⟩
theorem r_isi {t : Value} {n : String} (h : TyX K H x t) (k : PySem.W.kitOne K t (.type n) = some b) (q : Q (.bl b) H) : rIsi K [x, .ty n] H Q := ⟨x, .ty n, t, .type n, b, rfl, .ty n, h, k, q⟩
theorem isi_II (q : Q (.bl true) H) : rIsi K [.int i, .ty "int"] H Q := r_isi (.base (.int i)) (kit_ty (by decide +kernel)) q
theorem isi_IB (q : Q (.bl false) H) : rIsi K [.int i, .ty "bool"] H Q := r_isi (.base (.int i)) (kit_ty (by decide +kernel)) q
theorem isi_BI (q : Q (.bl true) H) : rIsi K [.bl b, .ty "int"] H Q := r_isi (.base (.bl b)) (kit_ty (by decide +kernel)) q
theorem isi_BB (q : Q (.bl true) H) : rIsi K [.bl b, .ty "bool"] H Q := r_isi (.base (.bl b)) (kit_ty (by decide +kernel)) q
theorem isi_SI {z : Str} (q : Q (.bl false) H) : rIsi K [.str z, .ty "int"] H Q := r_isi (.base (.str z)) (kit_ty (by decide +kernel)) q
theorem isi_SB {z : Str} (q : Q (.bl false) H) : rIsi K [.str z, .ty "bool"] H Q := r_isi (.base (.str z)) (kit_ty (by decide +kernel)) q
theorem isi_SL {z : Str} (q : Q (.bl false) H) : rIsi K [.str z, .ty "list"] H Q := r_isi (.base (.str z)) (kit_ty (by decide +kernel)) q
theorem isi_NI (q : Q (.bl false) H) : rIsi K [.non, .ty "int"] H Q := r_isi (.base .non) (kit_ty (by decide +kernel)) q
theorem isi_NB (q : Q (.bl false) H) : rIsi K [.non, .ty "bool"] H Q := r_isi (.base .non) (kit_ty (by decide +kernel)) q
theorem isi_NL (q : Q (.bl false) H) : rIsi K [.non, .ty "list"] H Q := r_isi (.base .non) (kit_ty (by decide +kernel)) q
theorem isi_LL {a : Addr} {xs : List V} (h : H a = some (.lst xs)) (q : Q (.bl true) H) : rIsi K [.ref a, .ty "list"] H Q := r_isi (.base (.lst h)) (kit_ty (by decide +kernel)) q
theorem isi_TL {a : Addr} {xs : List V} (h : H a = some (.tup xs)) (q : Q (.bl false) H) : rIsi K [.ref a, .ty "list"] H Q := r_isi (.base (.tup h)) (kit_ty (by decide +kernel)) q
theorem isi_TT {a : Addr} {xs : List V} (h : H a = some (.tup xs)) (q : Q (.bl true) H) : rIsi K [.ref a, .ty "tuple"] H Q := r_isi (.base (.tup h)) (kit_ty (by decide +kernel)) q
theorem r_isEx {D a C : Addr} (c : ExcC K D) (k : PySem.W.kitOne K (.ref D) (.ref C) = some b) (q : Q (.bl b) H) : rIsEx K (.ref D) none a [.ref a, .ref C] H Q := ⟨D, rfl, rfl, c, .ref C, .ref C, b, rfl, fun _ r => r, k, q⟩
theorem r_isExV {D a : Addr} (c : ExcC K D) (k : PySem.W.kitOne K (.ref D) (.type "ValueError") = some b) (q : Q (.bl b) H) : rIsEx K (.ref D) none a [.ref a, .ty "ValueError"] H Q := ⟨D, rfl, rfl, c, .ty "ValueError", .type "ValueError", b, rfl, fun _ r => r, k, q⟩
-- displays, fields
theorem r_tup {tA : TA} (h : tA σ H fun xs H1 => xs.length ≤ sizeLine ∧ ∀ p, H1 p = none → Q (.ref p) (upd H1 p (.tup xs))) : tTup tA σ H Q := h
theorem r_lst {tA : TA} (h : tA σ H fun xs H1 => xs.length ≤ sizeLine ∧ ∀ p, H1 p = none → Q (.ref p) (upd H1 p (.lst xs))) : tLst tA σ H Q := h
theorem r_fld {f : Str} (h : ta σ H fun x H1 => ∃ a C dx fs v, x = .ref a ∧ H1 a = some (.ins C dx fs) ∧ Cls K C ∧ NoAttr K C f ∧ fs.lookup f = some v ∧ Q v H1) : tFld K ta f σ H Q := h
theorem r_fldR {a C dx : Addr} {fs : List (Str × V)} {f : Str} {Q' : V → Prop} (h : H a = some (.ins C dx fs)) (c : Cls K C) (n : NoAttr K C f) (l : fs.lookup f = some v) (q : Q' v) :
    ∃ a' C dx fs v, V.ref a = .ref a' ∧ H a' = some (.ins C dx fs) ∧ Cls K C ∧ NoAttr K C f ∧ fs.lookup f = some v ∧ Q' v := ⟨a, C, dx, fs, v, rfl, h, c, n, l, q⟩
theorem cut_take {xs : List V} {k : Nat} (h : k ≤ xs.length) : cutV xs none (some (k : Int)) = xs.take k := by
  unfold cutV
  rw [HT.sIx_none, HT.sIx_nat, Nat.min_eq_left h, List.drop_zero, Nat.sub_zero]
theorem cut_drop {xs : List V} {k : Nat} (h : k ≤ xs.length) : cutV xs (some (k : Int)) none = xs.drop k := by
  unfold cutV
  rw [HT.sIx_none, HT.sIx_nat, Nat.min_eq_left h, List.take_of_length_le (by rw [List.length_drop]; exact Nat.le_refl _)]
theorem r_sl {r : V → Option Int → Option Int → Hp → VK → Prop} {tl th : TO} (h : ta σ H fun x H1 => tl σ H1 fun l H2 => th σ H2 fun u H3 => r x l u H3 Q) : tSl r ta tl th σ H Q := h
theorem r_noPart {QO : Option Int → Hp → Prop} (q : QO none H) : tNoPart σ H QO := q
theorem r_part {QO : Option Int → Hp → Prop} (h : ta σ H fun x H1 => ∃ i, x = .int i ∧ QO (some i) H1) : tPart ta σ H QO := h
theorem r_intE {f : Int → Prop} (q : f i) : ∃ k, V.int i = .int k ∧ f k := ⟨i, rfl, q⟩
theorem r_slTake {l : Addr} {xs : List V} {k : Nat} (h : SqL K H l xs) (e : i = (k : Int)) (hk : k ≤ xs.length) (q : ∀ p, H p = none → Q (.ref p) (upd H p (.lst (xs.take k)))) : rSlL K (.ref l) none (some i) H Q :=
  ⟨l, xs, rfl, h, fun p hp => by rw [e, cut_take hk]; exact q p hp⟩
theorem r_slDrop {l : Addr} {xs : List V} {k : Nat} (h : SqL K H l xs) (e : i = (k : Int)) (hk : k ≤ xs.length) (q : ∀ p, H p = none → Q (.ref p) (upd H p (.lst (xs.drop k)))) : rSlL K (.ref l) (some i) none H Q :=
  ⟨l, xs, rfl, h, fun p hp => by rw [e, cut_drop hk]; exact q p hp⟩
-- truth
theorem r_notV (h : ta σ H fun x H1 => ∃ c, x = .bl c ∧ Q (.bl (!c)) H1) : tNotV ta σ H Q := h
theorem r_blV {f : Bool → Prop} (q : f b) : ∃ c, V.bl b = .bl c ∧ f c := ⟨b, rfl, q⟩
theorem r_andV (h : ta σ H fun x H1 => ∃ c, x = .bl c ∧ if c = true then tb σ H1 Q else Q (.bl false) H1) : tAndV ta tb σ H Q := h
theorem r_orV (h : ta σ H fun x H1 => ∃ c, x = .bl c ∧ if c = true then Q (.bl true) H1 else tb σ H1 Q) : tOrV ta tb σ H Q := h
theorem r_test {QB : Bool → Hp → Prop} (h : ta σ H fun x H' => ∃ k, x = .bl k ∧ QB k H') : tTest ta σ H QB := h
theorem r_B {QB : Bool → Hp → Prop} (h : ta σ H fun x H' => ∃ k, x = .bl k ∧ QB k H') : tB ta σ H QB := h
theorem r_not {QB : Bool → Hp → Prop} (h : t σ H fun c H1 => QB (!c) H1) : tNot t σ H QB := h
theorem r_and {QB : Bool → Hp → Prop} (h : t σ H fun c H1 => if c = true then u σ H1 QB else QB false H1) : tAnd t u σ H QB := h
theorem r_or {QB : Bool → Hp → Prop} (h : t σ H fun c H1 => if c = true then QB true H1 else u σ H1 QB) : tOr t u σ H QB := h
theorem r_if (h : t σ H fun c H1 => if c = true then ta σ H1 Q else tb σ H1 Q) : tIf t ta tb σ H Q := h
theorem r_ifS (h : t σ H fun c H1 => if c = true then ts D σ H1 else tu D σ H1) : tIfS t ts tu D σ H := h
theorem r_chain {r r' : R2} (h : ta σ H fun x H1 => tb σ H1 fun y H2 => r x y H2 fun z H3 => ∃ k, z = .bl k ∧ if k = true then tc σ H3 fun w H4 => r' y w H4 Q else Q (.bl false) H3) : tChain r r' ta tb tc σ H Q := by
  unfold tChain
  exact h
-- statements
theorem r_seq (h : ts ⟨tu D, D.rt, D.bk, D.ct⟩ σ H) : tSeq ts tu D σ H := h
theorem r_asg {g : TG} (h : ta σ H fun x H1 => g x σ H1 D.nx) : tAsg ta g D σ H := h
theorem r_name {n : Nat} {R : L2.St → Hp → Prop} (h : R (σ.set n (some v)) H) : gName n v σ H R := h
theorem r_next (h : D.nx σ H) : tNext D σ H := h
theorem r_ret (h : ta σ H D.rt) : tRet ta D σ H := h
theorem r_retN (h : D.rt .non H) : tRetN D σ H := h
theorem r_drop (h : ta σ H fun _ H1 => D.nx σ H1) : tDrop ta D σ H := h
theorem r_nx {a c d : L2.St → Hp → Prop} {e : VK} (h : a σ H) : (Ends.mk a e c d).nx σ H := h
theorem r_rt {a c d : L2.St → Hp → Prop} {e : VK} (h : e v H) : (Ends.mk a e c d).rt v H := h
theorem r_bk {a c d : L2.St → Hp → Prop} {e : VK} (h : c σ H) : (Ends.mk a e c d).bk σ H := h
theorem r_ct {a c d : L2.St → Hp → Prop} {e : VK} (h : d σ H) : (Ends.mk a e c d).ct σ H := h
theorem r_break (h : D.bk σ H) : tBreak D σ H := h
theorem r_cont (h : D.ct σ H) : tCont D σ H := h
theorem r_sfld {f : Str} {tv : TE} (h : tv σ H fun y H1 => ta σ H1 fun x H2 => ∃ a C dx fs, x = .ref a ∧ H2 a = some (.ins C dx fs) ∧ Cls K C ∧ NoAttr K C f ∧ fs.length < 1000 ∧ D.nx σ (upd H2 a (.ins C dx (putF f y fs)))) : sFld K ta tv f D σ H := h
theorem r_sfldR {a C dx : Addr} {fs : List (Str × V)} {f : Str} (h : H a = some (.ins C dx fs)) (c : Cls K C) (n : NoAttr K C f) (l : fs.length < 1000) (q : P) (e : P → D.nx σ (upd H a (.ins C dx (putF f y fs)))) :
    ∃ a' C dx fs, V.ref a = .ref a' ∧ H a' = some (.ins C dx fs) ∧ Cls K C ∧ NoAttr K C f ∧ fs.length < 1000 ∧ D.nx σ (upd H a' (.ins C dx (putF f y fs))) := ⟨a, C, dx, fs, rfl, h, c, n, l, e q⟩
theorem r_append {l : Addr} {xs : List V} (h : H l = some (.lst xs)) (hz : xs.length < sizeLine) (q : Q .non (upd H l (.lst (xs ++ [y])))) : rAppend (.ref l) [y] H Q := ⟨l, xs, y, rfl, rfl, h, hz, q⟩
theorem r_bm {T : String} {r : V → List V → Hp → VK → Prop} {tA : TA} (h : ta σ H fun x H1 => tyV K T x H1 ∧ tA σ H1 fun xs H2 => r x xs H2 Q) : tBM K T r ta tA σ H Q := h
theorem r_bm0 {T : String} {r : V → List V → Hp → VK → Prop} (h : ta σ H fun x H1 => tyV K T x H1 ∧ r x [] H1 Q) : tBM0 K T r ta σ H Q := h
theorem ty_list {l : Addr} {xs : List V} (h : SqL K H l xs) : tyV K "list" (.ref l) H := .inl ⟨rfl, xs, h⟩
-- own defs
theorem r_call {sp : Sp} {E : XK} {tA : TA} (h : tA σ H fun vs H1 => sp vs H1 Q E) : tCall sp [] E tA σ H Q := by
  unfold tCall
  have e : (fun vs H1 => sp (vs ++ []) H1 Q E) = fun vs H1 => sp vs H1 Q E := by
    funext vs H1
    rw [List.append_nil]
  rw [e]
  exact h
theorem r_callS {sp : Sp} {E : L2.St → XK} {tA : TA} (h : tA σ H fun vs H1 => sp vs H1 Q (E σ)) : tCallS sp E tA σ H Q := h
theorem r_meth {C : Addr} {m : Str} {sp : Sp} {E : XK} {tA : TA} (h : ta σ H fun x H1 => ∃ a dx fs, x = .ref a ∧ H1 a = some (.ins C dx fs) ∧ fs.lookup m = none ∧ tA σ H1 fun vs H2 => sp (x :: vs) H2 Q E) : tMeth C m sp [] E ta tA σ H Q := by
  unfold tMeth
  simp only [List.append_nil]
  exact h
theorem r_methS {C : Addr} {m : Str} {sp : Sp} {E : L2.St → XK} {tA : TA} (h : ta σ H fun x H1 => ∃ a dx fs, x = .ref a ∧ H1 a = some (.ins C dx fs) ∧ fs.lookup m = none ∧ tA σ H1 fun vs H2 => sp (x :: vs) H2 Q (E σ)) : tMethS C m sp E ta tA σ H Q := h
theorem r_recv {C a dx : Addr} {fs : List (Str × V)} {m : Str} (h : H a = some (.ins C dx fs)) (l : fs.lookup m = none) (q : P) : ∃ a' dx fs, V.ref a = .ref a' ∧ H a' = some (.ins C dx fs) ∧ fs.lookup m = none ∧ P := ⟨a, dx, fs, rfl, h, l, q⟩
theorem r_make {C : Addr} {sp : Sp} {E : XK} {tA : TA} (h : tA σ H fun vs H1 => ∀ x dx, H1 x = none → H1 dx = none → dx ≠ x → sp (.ref x :: vs) (upd (upd H1 dx (.own x)) x (.ins C dx [])) (fun v H2 => v = .non ∧ Q (.ref x) H2) E) : tMake C sp [] E tA σ H Q := by
  unfold tMake
  simp only [List.append_nil]
  exact h
theorem r_makeS {C : Addr} {sp : Sp} {E : L2.St → XK} {tA : TA} (h : tA σ H fun vs H1 => ∀ x dx, H1 x = none → H1 dx = none → dx ≠ x → sp (.ref x :: vs) (upd (upd H1 dx (.own x)) x (.ins C dx [])) (fun v H2 => v = .non ∧ Q (.ref x) H2) (E σ)) : tMakeS C sp E tA σ H Q := h
-- the ways
theorem r_ifT (h : P) : if true = true then P else R := by rw [if_pos rfl]; exact h
theorem r_ifF (h : R) : if false = true then P else R := by rw [if_neg Bool.false_ne_true]; exact h
theorem r_ifd {p : Prop} [Decidable p] (h1 : p → P) (h2 : ¬ p → R) : if decide p = true then P else R := by
  by_cases h : p
  · rw [if_pos (decide_eq_true h)]; exact h1 h
  · rw [if_neg (by simpa using h)]; exact h2 h
theorem r_ifnd {p : Prop} [Decidable p] (h1 : ¬ p → P) (h2 : p → R) : if (!decide p) = true then P else R := by
  by_cases h : p
  · rw [decide_eq_true h]; exact r_ifF (h2 h)
  · rw [decide_eq_false h]; exact r_ifT (h1 h)
theorem r_ifb (h1 : b = true → P) (h2 : b = false → R) : if b = true then P else R := by
  cases b
  · exact r_ifF (h2 rfl)
  · exact r_ifT (h1 rfl)
theorem r_ifnb (h1 : b = false → P) (h2 : b = true → R) : if (!b) = true then P else R := by
  cases b
  · exact r_ifT (h1 rfl)
  · exact r_ifF (h2 rfl)
end
/-- ways that meet behind an if without (with) an else: what follows is shown once, from Mid -/
theorem r_join {c : Bool} {ts tu : TS} {rest bk ct : L2.St → Hp → Prop} {rt : VK} {σ : L2.St} {H : Hp} (Mid : L2.St → Hp → Prop) (h2 : ∀ σ' H', Mid σ' H' → rest σ' H')
    (h1 : ∀ R : L2.St → Hp → Prop, (∀ σ' H', Mid σ' H' → R σ' H') → if c = true then ts ⟨R, rt, bk, ct⟩ σ H else tu ⟨R, rt, bk, ct⟩ σ H) : if c = true then ts ⟨rest, rt, bk, ct⟩ σ H else tu ⟨rest, rt, bk, ct⟩ σ H := h1 rest h2
/-- a for over a list, a range: the turn's word -/
theorem r_forL {K : PySem.W.Frag} {tl : TE} {g : TG} {tb : TS} {D : Ends} {σ : L2.St} {H : Hp} (h : tl σ H fun x H1 => ∃ a, x = .ref a ∧ (∃ xs, SqL K H1 a xs) ∧ ∃ W : Nat → Nat → L2.St → Hp → Prop, (∃ m, W 0 m σ H1) ∧ ∀ i m σ H, W i m σ H →
      ((Itl K a).stop i H ∧ D.nx σ H) ∨ ((Itl K a).go i H ∧ ∃ N : L2.St → Hp → Prop, (∀ σ' H', N σ' H' → ∃ m', m' < m ∧ W (i + 1) m' σ' H') ∧ ∀ x H', (Itl K a).yld i H x H' → g x σ H' fun σ2 H2 => tb { D with nx := N, ct := N, bk := D.nx } σ2 H2)) : tFor (iList K tl) g tb D σ H := h
theorem r_forR {tA : TA} {g : TG} {tb : TS} {D : Ends} {σ : L2.St} {H : Hp} (h : tA σ H fun vs H1 => ∃ j : Int, vs = [.int j] ∧ -(2 ^ 62) ≤ j ∧ j < 2 ^ 62 ∧ ∃ W : Nat → Nat → L2.St → Hp → Prop, (∃ m, W 0 m σ H1) ∧ ∀ i m σ H, W i m σ H →
      ((Itr 0 j.toNat).stop i H ∧ D.nx σ H) ∨ ((Itr 0 j.toNat).go i H ∧ ∃ N : L2.St → Hp → Prop, (∀ σ' H', N σ' H' → ∃ m', m' < m ∧ W (i + 1) m' σ' H') ∧ ∀ x H', (Itr 0 j.toNat).yld i H x H' → g x σ H' fun σ2 H2 => tb { D with nx := N, ct := N, bk := D.nx } σ2 H2)) : tFor (iRng1 tA) g tb D σ H := h

/-! ### heaps -/
/-- what is tracked stays, but at p -/
def But (p : Addr) (H H' : Hp) : Prop := ∀ b o, H b = some o → b ≠ p → H' b = some o
theorem Same.but {H H' : Hp} {p : Addr} (s : Same H H') : But p H H' := fun b o e _ => s b o e
theorem same_new {H : Hp} {p : Addr} {o : HO} (h : H p = none) : Same H (upd H p o) := fun b u e => by
  rw [upd_ne (ne_of_none e h)]; exact e
theorem Same.sqT {K : PySem.W.Frag} {H H' : Hp} {a : Addr} {xs : List V} (e : Same H H') (h : SqT K H a xs) : SqT K H' a xs := by
  rcases h with (h | ⟨o, h⟩) | h
  · exact .inl (.inl (e _ _ h))
  · exact .inl (.inr ⟨o, e _ _ h⟩)
  · exact .inr h
theorem toL {K : PySem.W.Frag} {H : Hp} {a : Addr} {xs : List V} (h : H a = some (.lst xs)) : SqL K H a xs := SqL.of h
theorem toT {K : PySem.W.Frag} {H : Hp} {a : Addr} {xs : List V} (h : H a = some (.tup xs)) : SqT K H a xs := SqT.of h

local macro_rules | `(tactic| walk_at "rd0") => `(tactic| first
  | assumption | decide | omega | rfl)
local macro_rules | `(tactic| walk_at "rd1") => `(tactic| first
  | with_reducible refine r_seq ?_
  | with_reducible refine r_asg ?_
  | with_reducible refine r_name ?_
  | with_reducible refine r_nx ?_
  | with_reducible refine r_rt ?_
  | with_reducible refine r_c ?_
  | ((with_reducible refine r_var (v := ?_) ?_ ?_); (rotate_left; rfl))
  | with_reducible refine r_op ?_
  | with_reducible refine r_un ?_
  | with_reducible refine r_cb ?_
  | with_reducible refine r_cons ?_
  | with_reducible refine r_nil ?_
  | with_reducible refine r_call ?_
  | with_reducible refine r_callS ?_
  | with_reducible refine r_meth ?_
  | with_reducible refine r_methS ?_
  | with_reducible refine r_make ?_
  | with_reducible refine r_makeS ?_
  | with_reducible refine r_add ?_
  | with_reducible refine r_sub ?_
  | with_reducible refine r_neg ?_
  | with_reducible refine r_lt ?_
  | with_reducible refine r_le ?_
  | with_reducible refine r_gt ?_
  | with_reducible refine r_ge ?_
  | with_reducible refine r_eqI ?_
  | with_reducible refine r_neI ?_
  | with_reducible refine r_eqB ?_
  | with_reducible refine r_neB ?_
  | with_reducible refine r_isN ?_
  | with_reducible refine r_notN ?_
  | ((with_reducible refine r_mod ?_ ?_); (walk_at "rd0"))
  | ((with_reducible refine r_div ?_ ?_ ?_); (walk_at "rd0"); (walk_at "rd0"))
  | with_reducible refine r_test ?_
  | with_reducible refine r_B ?_
  | with_reducible refine r_blV ?_
  | with_reducible refine r_ifT ?_
  | with_reducible refine r_ifF ?_
  | with_reducible refine r_ifS ?_
  | with_reducible refine r_not ?_
  | with_reducible refine r_and ?_
  | with_reducible refine r_or ?_
  | with_reducible refine r_andV ?_
  | with_reducible refine r_orV ?_
  | with_reducible refine r_notV ?_
  | with_reducible refine r_chain ?_
  | with_reducible refine r_if ?_
  | with_reducible refine r_next ?_
  | with_reducible refine r_ret ?_
  | with_reducible refine r_retN ?_
  | with_reducible refine r_drop ?_
  | with_reducible refine r_break ?_
  | with_reducible refine r_cont ?_
  | with_reducible refine r_bk ?_
  | with_reducible refine r_ct ?_
  | with_reducible refine r_sfld ?_
  | with_reducible refine r_fld ?_
  | with_reducible refine r_tup ?_
  | with_reducible refine r_lst ?_
  | with_reducible refine r_bm ?_
  | with_reducible refine r_bm0 ?_
  | with_reducible refine r_sl ?_
  | with_reducible refine r_noPart ?_
  | with_reducible refine r_part ?_
  | with_reducible refine r_intE ?_
  | with_reducible refine r_abs ?_
  | with_reducible refine r_intI ?_
  | with_reducible refine r_intB ?_
  | with_reducible refine isi_II ?_
  | with_reducible refine isi_IB ?_
  | with_reducible refine isi_BI ?_
  | with_reducible refine isi_BB ?_
  | with_reducible refine isi_SI ?_
  | with_reducible refine isi_SB ?_
  | with_reducible refine isi_NI ?_
  | with_reducible refine isi_NB ?_
  | with_reducible refine isi_SL ?_
  | with_reducible refine isi_NL ?_
  | with_reducible refine r_forL ?_
  | with_reducible refine r_forR ?_)
local macro_rules | `(tactic| walk_at "rd") => `(tactic| repeat (walk_at "rd1"))

structure Ad where
  K : PySem.W.Frag
  c_Plan : Addr
  c_RoomError : Addr
  c_BadPlan : Addr
  c_BadWish : Addr
  c_TooLarge : Addr
  c_NoSize : Addr
  c_NoRoom : Addr
  c_NotOut : Addr
  c_OutOfThing : Addr

/-! ### the data: values without an address, a plan's fields -/
def plainV : V → Bool
  | .non => true
  | .bl _ => true
  | .int _ => true
  | .str _ => true
  | _ => false
def isI : V → Bool
  | .int _ => true
  | _ => false
/-- a whole number from a to b -/
def inR (x : V) (a b : Int) : Bool := match x with
  | .int i => decide (a ≤ i) && decide (i ≤ b)
  | _ => false
/-- rising from beyond a, up to n -/
def okFrom (n : Int) : Int → List V → Bool
  | _, [] => true
  | a, .int i :: r => decide (a + 1 ≤ i) && decide (i ≤ n) && okFrom n i r
  | _, _ :: _ => false
def okSizes (xs : List V) (n : Int) : Bool := decide (1 ≤ xs.length) && decide (xs.length ≤ 8) && okFrom n 0 xs
def planF (m n : Int) (l : Addr) : List (Str × V) := putF "sizes" (.ref l) (putF "length" (.int n) (putF "pages" (.int m) []))
theorem pf_pages (m n : Int) (l : Addr) : (planF m n l).lookup ("pages" : Str) = some (.int m) := by
  unfold planF
  rw [lookup_putF, if_neg (by decide +kernel), lookup_putF, if_neg (by decide +kernel), lookup_putF, if_pos rfl]
theorem pf_length (m n : Int) (l : Addr) : (planF m n l).lookup ("length" : Str) = some (.int n) := by
  unfold planF
  rw [lookup_putF, if_neg (by decide +kernel), lookup_putF, if_pos rfl]
theorem pf_sizes (m n : Int) (l : Addr) : (planF m n l).lookup ("sizes" : Str) = some (.ref l) := by
  unfold planF
  rw [lookup_putF, if_pos rfl]
theorem pf_no (m n : Int) (l : Addr) {x : Str} (h1 : ¬ x = "sizes") (h2 : ¬ x = "length") (h3 : ¬ x = "pages") : (planF m n l).lookup x = none := by
  unfold planF
  rw [lookup_putF, if_neg h1, lookup_putF, if_neg h2, lookup_putF, if_neg h3]
  rfl
theorem pf_len1 (m : Int) : (putF "pages" (.int m) []).length < 1000 := by show 1 < 1000; decide
theorem pf_len2 (m n : Int) : (putF "length" (.int n) (putF "pages" (.int m) [])).length < 1000 := by
  have := length_putF "length" (.int n) (putF "pages" (.int m) [])
  have h1 := pf_len1 m
  show _ < 1000
  have : (putF "pages" (V.int m) []).length = 1 := rfl
  omega
/-- a plan stands at p -/
structure PlanAt (A : Ad) (H : Hp) (p : Addr) (m n : Int) (xs : List Int) : Prop where
  ob : ∃ dx l, H p = some (.ins A.c_Plan dx (planF m n l)) ∧ H l = some (.lst (xs.map V.int))
  m1 : 1 ≤ m
  m2 : m ≤ 40
  n1 : 1 ≤ n
  n2 : n ≤ 60
  ok : okSizes (xs.map V.int) n = true
theorem PlanAt.same {A : Ad} {H H' : Hp} {p : Addr} {m n : Int} {xs : List Int} (h : PlanAt A H p m n xs) (s : Same H H') : PlanAt A H' p m n xs := by
  obtain ⟨⟨dx, l, h1, h2⟩, a, b, c, d, e⟩ := h
  exact ⟨⟨dx, l, s _ _ h1, s _ _ h2⟩, a, b, c, d, e⟩
theorem okFrom_mem {n : Int} : ∀ {xs : List Int} {a : Int}, okFrom n a (xs.map V.int) = true → ∀ x ∈ xs, a + 1 ≤ x ∧ x ≤ n
  | [], _, _, _, h => nomatch h
  | y :: r, a, h, x, hx => by
    have h' : (decide (a + 1 ≤ y) && decide (y ≤ n) && okFrom n y (r.map V.int)) = true := h
    simp only [Bool.and_eq_true, decide_eq_true_eq] at h'
    obtain ⟨⟨h1, h2⟩, h3⟩ := h'
    rcases List.mem_cons.mp hx with e | e
    · omega
    · have := okFrom_mem h3 x e
      omega
theorem okSizes_mem {n : Int} {xs : List Int} (h : okSizes (xs.map V.int) n = true) (x : Int) (hx : x ∈ xs) : 1 ≤ x ∧ x ≤ n := by
  unfold okSizes at h
  simp only [Bool.and_eq_true] at h
  have := okFrom_mem h.2 x hx
  omega
theorem okSizes_len {n : Int} {xs : List Int} (h : okSizes (xs.map V.int) n = true) : xs.length ≤ 8 := by
  unfold okSizes at h
  simp only [Bool.and_eq_true, decide_eq_true_eq, List.length_map] at h
  omega
/-! ### the promises of errors and plans -/
def spPlain1 : Sp := fun vs H Q _ => ∃ x, vs = [x] ∧ plainV x = true ∧ Q (.bl (isI x)) H
def sp_is_whole (A : Ad) : Sp := spPlain1
def sp_is_within (A : Ad) : Sp := fun vs H Q _ => ∃ x a b, vs = [x, .int a, .int b] ∧ plainV x = true ∧ Q (.bl (inR x a b)) H
def notList (s : V) (H : Hp) : Prop := plainV s = true ∨ ∃ t ys, s = .ref t ∧ H t = some (.tup ys)
def sp_check_sizes (A : Ad) : Sp := fun vs H Q E => ∃ s n, vs = [s, .int n] ∧
  ((∃ l xs, s = .ref l ∧ H l = some (.lst xs) ∧ xs.all plainV = true ∧ (okSizes xs n = true → Q .non H) ∧ (okSizes xs n = false → E (.ref A.c_BadPlan) none H)) ∨ (notList s H ∧ E (.ref A.c_BadPlan) none H))
def badPlan (pg ln sz : V) (H : Hp) : Prop := inR pg 1 40 = false ∨ inR ln 1 60 = false ∨ (isI ln = true ∧ notList sz H) ∨ ∃ n l xs, ln = .int n ∧ sz = .ref l ∧ H l = some (.lst xs) ∧ xs.all plainV = true ∧ okSizes xs n = false
def sp_Plan_init (A : Ad) : Sp := fun vs H Q E => ∃ p dx pg ln sz, vs = [.ref p, pg, ln, sz] ∧ H p = some (.ins A.c_Plan dx []) ∧ plainV pg = true ∧ plainV ln = true ∧
  ((∃ (m n : Int) (xs : List Int) (l : Addr), pg = .int m ∧ ln = .int n ∧ sz = .ref l ∧ 1 ≤ m ∧ m ≤ 40 ∧ 1 ≤ n ∧ n ≤ 60 ∧ H l = some (.lst (xs.map V.int)) ∧ okSizes (xs.map V.int) n = true ∧
      ∀ H' l', H l' = none → H' p = some (.ins A.c_Plan dx (planF m n l')) → H' l' = some (.lst (xs.map V.int)) → But p H H' → Q .non H') ∨
    (badPlan pg ln sz H ∧ E (.ref A.c_BadPlan) none H))
def sp_Plan_size_for (A : Ad) : Sp := fun vs H Q E => ∃ (p : Addr) (m n : Int) (xs : List Int) (w : V), vs = [.ref p, w] ∧ PlanAt A H p m n xs ∧ plainV w = true ∧
  ((isI w = false ∨ ∃ i, w = .int i ∧ i < 1) → E (.ref A.c_BadWish) none H) ∧
  (∀ i, w = .int i → 1 ≤ i → (∀ s, xs.find? (fun s => decide (i ≤ s)) = some s → Q (.int s) H) ∧ (xs.find? (fun s => decide (i ≤ s)) = none → E (.ref A.c_TooLarge) none H))
def sp_Plan_per (A : Ad) : Sp := fun vs H Q E => ∃ (p : Addr) (m n : Int) (xs : List Int) (s : V), vs = [.ref p, s] ∧ PlanAt A H p m n xs ∧ plainV s = true ∧
  (∀ i, s = .int i → i ∈ xs → Q (.int (n / i)) H) ∧ ((∀ i, s = .int i → i ∉ xs) → E (.ref A.c_NoSize) none H)
def spL (K : PySem.W.Frag) : Sp := fun vs H Q _ => ∃ (a : Addr) (ns : List Int), vs = [.ref a] ∧ SqL K H a (ns.map V.int) ∧ ns.length ≤ 63 ∧ ∀ H', Q (.bl true) H'
theorem len_is_whole (A : Ad) {vs : List V} {H : Hp} {Q : VK} {E : XK} (h : sp_is_whole A vs H Q E) : vs.length = 1 := by
  obtain ⟨x, rfl, _⟩ := h; rfl
theorem len_is_within (A : Ad) {vs : List V} {H : Hp} {Q : VK} {E : XK} (h : sp_is_within A vs H Q E) : vs.length = 3 := by
  obtain ⟨x, a, b, rfl, _⟩ := h; rfl
theorem len_check_sizes (A : Ad) {vs : List V} {H : Hp} {Q : VK} {E : XK} (h : sp_check_sizes A vs H Q E) : vs.length = 2 := by
  obtain ⟨x, a, rfl, _⟩ := h; rfl
theorem len_Plan_init (A : Ad) {vs : List V} {H : Hp} {Q : VK} {E : XK} (h : sp_Plan_init A vs H Q E) : vs.length = 4 := by
  obtain ⟨p, dx, pg, ln, sz, rfl, _⟩ := h; rfl
theorem len_Plan_size_for (A : Ad) {vs : List V} {H : Hp} {Q : VK} {E : XK} (h : sp_Plan_size_for A vs H Q E) : vs.length = 2 := by
  obtain ⟨p, m, n, xs, w, rfl, _⟩ := h; rfl
theorem len_Plan_per (A : Ad) {vs : List V} {H : Hp} {Q : VK} {E : XK} (h : sp_Plan_per A vs H Q E) : vs.length = 2 := by
  obtain ⟨p, m, n, xs, w, rfl, _⟩ := h; rfl

structure NA (A : Ad) : Prop where
  cl_Plan : Cls A.K A.c_Plan
  na_Plan_pages : NoAttr A.K A.c_Plan "pages"
  na_Plan_length : NoAttr A.K A.c_Plan "length"
  na_Plan_sizes : NoAttr A.K A.c_Plan "sizes"
  ex_BadPlan_BadPlan : PySem.W.exmOne A.K (.ref A.c_BadPlan) (.ref A.c_BadPlan) = some true
  ex_BadPlan_RoomError : PySem.W.exmOne A.K (.ref A.c_BadPlan) (.ref A.c_RoomError) = some true
  ec_BadPlan : ExcC A.K A.c_BadPlan
  ki_BadPlan_BadPlan : PySem.W.kitOne A.K (.ref A.c_BadPlan) (.ref A.c_BadPlan) = some true
  ki_BadPlan_BadWish : PySem.W.kitOne A.K (.ref A.c_BadPlan) (.ref A.c_BadWish) = some false
  ki_BadPlan_NoRoom : PySem.W.kitOne A.K (.ref A.c_BadPlan) (.ref A.c_NoRoom) = some false
  ki_BadPlan_NoSize : PySem.W.kitOne A.K (.ref A.c_BadPlan) (.ref A.c_NoSize) = some false
  ki_BadPlan_NotOut : PySem.W.kitOne A.K (.ref A.c_BadPlan) (.ref A.c_NotOut) = some false
  ki_BadPlan_OutOfThing : PySem.W.kitOne A.K (.ref A.c_BadPlan) (.ref A.c_OutOfThing) = some false
  ki_BadPlan_TooLarge : PySem.W.kitOne A.K (.ref A.c_BadPlan) (.ref A.c_TooLarge) = some false
  kv_BadPlan : PySem.W.kitOne A.K (.ref A.c_BadPlan) (.type "ValueError") = some true

def cellAt (ns : List Int) (k : Int) : Int := if k < (ns.length : Int) then ns.getD k.toNat 0 else 0
def sp_l_cell_at (A : Ad) : Sp := fun vs H Q _ => ∃ (a : Addr) (k : Int) (ns : List Int), vs = [.ref a, .int k] ∧ SqL A.K H a (ns.map V.int) ∧ 0 ≤ k ∧ Q (.int (cellAt ns k)) H
def sp_l_whole (A : Ad) : Sp := spPlain1
def sbStep (n span : Int) (s : List Int × Int × Int) : List Int × Int × Int :=
  let b := s.2.1 + 1 + s.2.2 % span
  (if b ≤ n then s.1 ++ [b] else s.1, b, s.2.2 / span)
def sbRun (n span r0 : Int) : Nat → List Int × Int × Int
  | 0 => ([], 0, r0)
  | k + 1 => sbStep n span (sbRun n span r0 k)
def sizesBy (c n m : Int) : List Int :=
  let r := (sbRun n (if c % 3 = 0 then n else 4) (c / 3) m.toNat).1
  if r = [] then [n] else r
def sp_l_sizes_by (A : Ad) : Sp := fun vs H Q _ => ∃ (c n m : Int), vs = [.int c, .int n, .int m] ∧ 1 ≤ n ∧ n ≤ 60 ∧ 0 ≤ m ∧ m ≤ 8 ∧
  ∀ p H', H p = none → Same H H' → H' p = some (.lst ((sizesBy c n m).map V.int)) → Q (.ref p) H'
def sp_l_refused (A : Ad) : Sp := fun vs H Q _ => ∃ (pg ln sz : V) (w : Int), vs = [pg, ln, sz, .int w] ∧ plainV pg = true ∧ plainV ln = true ∧ badPlan pg ln sz H ∧ ∀ H', Same H H' → Q (.bl true) H'
def sp_l_bad_sizes (A : Ad) : Sp := fun vs H Q _ => ∃ (l : Addr) (n c : Int) (xs : List Int), vs = [.ref l, .int n, .int c] ∧ H l = some (.lst (xs.map V.int)) ∧ okSizes (xs.map V.int) n = true ∧
  ∀ H' p ys, Same H H' → H' p = some (.lst ys) → ys.all plainV = true → okSizes ys n = false → Q (.ref p) H'
def sp_l_wrong (A : Ad) : Sp := fun vs H Q _ => ∃ (m n c : Int) (l : Addr) (xs : List Int), vs = [.int m, .int n, .ref l, .int c] ∧ 0 ≤ c ∧ c % 4 ≠ 0 ∧ H l = some (.lst (xs.map V.int)) ∧ okSizes (xs.map V.int) n = true ∧
  ∀ H' t pg ln sz, Same H H' → H' t = some (.tup [pg, ln, sz]) → plainV pg = true → plainV ln = true → badPlan pg ln sz H' → Q (.ref t) H'
def sp_law (A : Ad) : Sp := spL A.K
theorem len_l_cell_at (A : Ad) {vs : List V} {H : Hp} {Q : VK} {E : XK} (h : sp_l_cell_at A vs H Q E) : vs.length = 2 := by
  obtain ⟨_, _, _, rfl, _⟩ := h; rfl
theorem len_l_whole (A : Ad) {vs : List V} {H : Hp} {Q : VK} {E : XK} (h : sp_l_whole A vs H Q E) : vs.length = 1 := by
  obtain ⟨_, rfl, _⟩ := h; rfl
theorem len_l_sizes_by (A : Ad) {vs : List V} {H : Hp} {Q : VK} {E : XK} (h : sp_l_sizes_by A vs H Q E) : vs.length = 3 := by
  obtain ⟨_, _, _, rfl, _⟩ := h; rfl
theorem len_l_refused (A : Ad) {vs : List V} {H : Hp} {Q : VK} {E : XK} (h : sp_l_refused A vs H Q E) : vs.length = 4 := by
  obtain ⟨_, _, _, _, rfl, _⟩ := h; rfl
theorem len_l_bad_sizes (A : Ad) {vs : List V} {H : Hp} {Q : VK} {E : XK} (h : sp_l_bad_sizes A vs H Q E) : vs.length = 3 := by
  obtain ⟨_, _, _, _, rfl, _⟩ := h; rfl
theorem len_l_wrong (A : Ad) {vs : List V} {H : Hp} {Q : VK} {E : XK} (h : sp_l_wrong A vs H Q E) : vs.length = 4 := by
  obtain ⟨_, _, _, _, _, rfl, _⟩ := h; rfl
theorem len_law (A : Ad) {vs : List V} {H : Hp} {Q : VK} {E : XK} (h : sp_law A vs H Q E) : vs.length = 1 := by
  obtain ⟨_, _, rfl, _⟩ := h; rfl

/-- is_whole ['number'] -/
def t_is_whole (A : Ad) (E : XK) : TS :=
  (tRet (tAndV (tCB (rIsi A.K) (tCons (tVar 0) (tCons (tC (.ty "int")) tNil))) (tNotV (tCB (rIsi A.K) (tCons (tVar 0) (tCons (tC (.ty "bool")) tNil))))))
/-- is_within ['number', 'least', 'most'] -/
def t_is_within (A : Ad) (E : XK) : TS :=
  (tRet (tAndV (tCall (sp_is_whole A) [] E0 (tCons (tVar 0) tNil)) (tChain rLeI rLeI (tVar 1) (tVar 0) (tVar 2))))
/-- check_sizes ['sizes', 'length', 'ahead', 'size'] -/
def t_check_sizes (A : Ad) (E : XK) : TS :=
  (tSeq (tIfS (tNot (tB (tCB (rIsi A.K) (tCons (tVar 0) (tCons (tC (.ty "list")) tNil)))))
    (fun _ σ H => E (.ref A.c_BadPlan) none H)
    tNext)
  (tSeq (tIfS (tNot (tB (tCall (sp_is_within A) [] E0 (tCons (tCB (rLenA A.K) (tCons (tVar 0) tNil)) (tCons (tC (.int 1)) (tCons (tC (.int 8)) tNil))))))
    (fun _ σ H => (tJoin [(tC (.str (PySem.Str.ofString "a plan has 1 to "))), (tFmt (tC (.int 8))), (tC (.str (PySem.Str.ofString " sizes")))]) σ H fun _ H1 => E (.ref A.c_BadPlan) none H1)
    tNext)
  (tSeq (tAsg (tC (.int 0)) (gName 2))
  (tFor (iList A.K (tVar 0)) (gName 3)
    (tSeq (tIfS (tNot (tB (tCall (sp_is_within A) [] E0 (tCons (tVar 3) (tCons (tOp rAddA (tVar 2) (tC (.int 1))) (tCons (tVar 1) tNil))))))
      (fun _ σ H => E (.ref A.c_BadPlan) none H)
      tNext)
    (tAsg (tVar 3) (gName 2)))))))
/-- Plan.__init__ ['self', 'pages', 'length', 'sizes'] -/
def t_Plan_init (A : Ad) (E : XK) : TS :=
  (tSeq (tIfS (tNot (tB (tCall (sp_is_within A) [] E0 (tCons (tVar 1) (tCons (tC (.int 1)) (tCons (tC (.int 40)) tNil))))))
    (fun _ σ H => (tJoin [(tC (.str (PySem.Str.ofString "a plan has 1 to "))), (tFmt (tC (.int 40))), (tC (.str (PySem.Str.ofString " pages")))]) σ H fun _ H1 => E (.ref A.c_BadPlan) none H1)
    tNext)
  (tSeq (tIfS (tNot (tB (tCall (sp_is_within A) [] E0 (tCons (tVar 2) (tCons (tC (.int 1)) (tCons (tC (.int 60)) tNil))))))
    (fun _ σ H => (tJoin [(tC (.str (PySem.Str.ofString "a plan has a length of 1 to "))), (tFmt (tC (.int 60)))]) σ H fun _ H1 => E (.ref A.c_BadPlan) none H1)
    tNext)
  (tSeq (tDrop (tCall (sp_check_sizes A) [] E (tCons (tVar 3) (tCons (tVar 2) tNil))))
  (tSeq (sFld A.K (tVar 0) (tVar 1) "pages")
  (tSeq (sFld A.K (tVar 0) (tVar 2) "length")
  (sFld A.K (tVar 0) (tCB (rListA A.K) (tCons (tVar 3) tNil)) "sizes"))))))
/-- _law_cell_at ['_law_script', '_law_k'] -/
def t_l_cell_at (A : Ad) (E : XK) : TS :=
  (tSeq (tIfS (tTest (tOp rLtI (tVar 1) (tCB (rLenA A.K) (tCons (tVar 0) tNil))))
    (tRet (tOp (rIxA A.K) (tVar 0) (tVar 1)))
    tNext)
  (tRet (tC (.int 0))))
/-- _law_whole ['_law_found'] -/
def t_l_whole (A : Ad) (E : XK) : TS :=
  (tRet (tAndV (tCB (rIsi A.K) (tCons (tVar 0) (tCons (tC (.ty "int")) tNil))) (tNotV (tCB (rIsi A.K) (tCons (tVar 0) (tCons (tC (.ty "bool")) tNil))))))
/-- _law_sizes_by ['_law_cell', '_law_length', '_law_many', '_law_found', '_law_before', '_law_rest', '_law_span', '_law_turn'] -/
def t_l_sizes_by (A : Ad) (E : XK) : TS :=
  (tSeq (tAsg (tLst tNil) (gName 3))
  (tSeq (tAsg (tC (.int 0)) (gName 4))
  (tSeq (tAsg (tOp rDivI (tVar 0) (tC (.int 3))) (gName 5))
  (tSeq (tAsg (tC (.int 4)) (gName 6))
  (tSeq (tIfS (tTest (tOp (rEqA A.K) (tOp rModI (tVar 0) (tC (.int 3))) (tC (.int 0))))
    (tAsg (tVar 1) (gName 6))
    tNext)
  (tSeq (tFor (iRng1 (tCons (tVar 2) tNil)) (gName 7)
    (tSeq (tAsg (tOp rAddA (tOp rAddA (tVar 4) (tC (.int 1))) (tOp rModI (tVar 5) (tVar 6))) (gName 4))
    (tSeq (tAsg (tOp rDivI (tVar 5) (tVar 6)) (gName 5))
    (tIfS (tTest (tOp rLeI (tVar 4) (tVar 1)))
      (tDrop (tBM A.K "list" rAppend (tVar 3) (tCons (tVar 4) tNil)))
      tNext))))
  (tSeq (tIfS (tTest (tOp (rEqA A.K) (tVar 3) (tLst tNil)))
    (tDrop (tBM A.K "list" rAppend (tVar 3) (tCons (tVar 1) tNil)))
    tNext)
  (tRet (tVar 3)))))))))
/-- _law_refused ['_law_pages', '_law_length', '_law_sizes', '_law_way', 'e'] -/
def t_l_refused (A : Ad) (E : XK) : TS :=
  (tSeq (tIfS (tTest (tOp (rEqA A.K) (tOp rModI (tVar 3) (tC (.int 2))) (tC (.int 0))))
    (tSeq (fun D σ H => (fun W0 => (tDrop (tMakeS A.c_Plan (sp_Plan_init A) (WE W0) (tCons (tVar 0) (tCons (tVar 1) (tCons (tVar 2) tNil)))))) (wOnly A.K (.ref A.c_BadPlan) (fun _ _ _ => (tRet (tC (.bl true)))) (fun _ _ _ _ => False) D) D σ H)
    (tRet (tC (.bl false))))
    tNext)
  (tSeq (fun D σ H => (fun W0 => (tDrop (tMakeS A.c_Plan (sp_Plan_init A) (WE W0) (tCons (tVar 0) (tCons (tVar 1) (tCons (tVar 2) tNil)))))) (wAs A.K (.ref A.c_RoomError) 4 (fun a cls d => (tSeq (tIfS (tOr (tB (tCB (rIsEx A.K cls d a) (tCons (tVar 4) (tCons (tC (.ref A.c_BadWish)) tNil)))) (tOr (tB (tCB (rIsEx A.K cls d a) (tCons (tVar 4) (tCons (tC (.ref A.c_TooLarge)) tNil)))) (tB (tCB (rIsEx A.K cls d a) (tCons (tVar 4) (tCons (tC (.ref A.c_NoRoom)) tNil))))))
      (tRet (tC (.bl false)))
      tNext)
    (tSeq (tIfS (tOr (tB (tCB (rIsEx A.K cls d a) (tCons (tVar 4) (tCons (tC (.ref A.c_NotOut)) tNil)))) (tOr (tB (tCB (rIsEx A.K cls d a) (tCons (tVar 4) (tCons (tC (.ref A.c_OutOfThing)) tNil)))) (tB (tCB (rIsEx A.K cls d a) (tCons (tVar 4) (tCons (tC (.ref A.c_NoSize)) tNil))))))
      (tRet (tC (.bl false)))
      tNext)
    (tRet (tAndV (tCB (rIsEx A.K cls d a) (tCons (tVar 4) (tCons (tC (.ty "ValueError")) tNil))) (tCB (rIsEx A.K cls d a) (tCons (tVar 4) (tCons (tC (.ref A.c_BadPlan)) tNil)))))))) (fun _ _ _ _ => False) D) D σ H)
  (tRet (tC (.bl false)))))
/-- _law_bad_sizes ['_law_sizes', '_law_length', '_law_cell', '_law_at', '_law_before', '_law_wrong_here'] -/
def t_l_bad_sizes (A : Ad) (E : XK) : TS :=
  (tSeq (tAsg (tOp rModI (tOp rDivI (tVar 2) (tC (.int 7))) (tCB (rLenA A.K) (tCons (tVar 0) tNil))) (gName 3))
  (tSeq (tAsg (tC (.int 0)) (gName 4))
  (tSeq (tIfS (tTest (tOp rGtI (tVar 3) (tC (.int 0))))
    (tAsg (tOp (rIxA A.K) (tVar 0) (tOp rSubI (tVar 3) (tC (.int 1)))) (gName 4))
    tNext)
  (tSeq (tAsg (tOp (rIxA A.K) (tLst (tCons (tVar 4) (tCons (tOp rSubI (tOp rSubI (tVar 4) (tC (.int 1))) (tOp rModI (tOp rDivI (tVar 2) (tC (.int 49))) (tC (.int 5)))) (tCons (tOp rAddA (tOp rAddA (tVar 1) (tC (.int 1))) (tOp rModI (tOp rDivI (tVar 2) (tC (.int 49))) (tC (.int 50)))) (tCons (tC (.bl true)) (tCons (tC (.str (PySem.Str.ofString "1"))) (tCons (tC (.int 0)) (tCons (tC .non) tNil)))))))) (tOp rModI (tVar 2) (tC (.int 7)))) (gName 5))
  (tRet (tOp rAddA (tOp rAddA (tSl (rSlL A.K) (tVar 0) tNoPart (tPart (tVar 3))) (tLst (tCons (tVar 5) tNil))) (tSl (rSlL A.K) (tVar 0) (tPart (tOp rAddA (tVar 3) (tC (.int 1)))) tNoPart)))))))
/-- _law_wrong ['_law_pages', '_law_length', '_law_sizes', '_law_cell', '_law_more'] -/
def t_l_wrong (A : Ad) (E : XK) : TS :=
  (tSeq (tAsg (tOp rDivI (tVar 3) (tC (.int 4))) (gName 4))
  (tSeq (tIfS (tTest (tOp (rEqA A.K) (tOp rModI (tVar 3) (tC (.int 4))) (tC (.int 1))))
    (tRet (tTup (tCons (tOp (rIxA A.K) (tLst (tCons (tC (.int 0)) (tCons (tUn (rU fun i => .int (-i)) (tVar 4)) (tCons (tOp rAddA (tC (.int 41)) (tVar 4)) (tCons (tC (.bl true)) (tCons (tC (.str (PySem.Str.ofString "3"))) (tCons (tC .non) tNil))))))) (tOp rModI (tVar 4) (tC (.int 6)))) (tCons (tVar 1) (tCons (tVar 2) tNil)))))
    tNext)
  (tSeq (tIfS (tTest (tOp (rEqA A.K) (tOp rModI (tVar 3) (tC (.int 4))) (tC (.int 2))))
    (tRet (tTup (tCons (tVar 0) (tCons (tOp (rIxA A.K) (tLst (tCons (tC (.int 0)) (tCons (tUn (rU fun i => .int (-i)) (tVar 4)) (tCons (tOp rAddA (tC (.int 61)) (tVar 4)) (tCons (tC (.bl true)) (tCons (tC (.str (PySem.Str.ofString "3"))) (tCons (tC .non) tNil))))))) (tOp rModI (tVar 4) (tC (.int 6)))) (tCons (tVar 2) tNil)))))
    tNext)
  (tSeq (tIfS (tTest (tOp (rEqA A.K) (tOp rModI (tVar 4) (tC (.int 2))) (tC (.int 0))))
    (tRet (tTup (tCons (tVar 0) (tCons (tC (.int 60)) (tCons (tOp (rIxA A.K) (tLst (tCons (tLst tNil) (tCons (tLstRg (tRg2 (tC (.int 1)) (tC (.int 10)))) (tCons (tC (.str (PySem.Str.ofString "1"))) (tCons (tC .non) (tCons (tCB (rTupA A.K) (tCons (tVar 2) tNil)) (tCons (tCB (rTupA A.K) (tCons (tVar 2) tNil)) tNil))))))) (tOp rModI (tOp rDivI (tVar 4) (tC (.int 2))) (tC (.int 6)))) tNil)))))
    tNext)
  (tRet (tTup (tCons (tVar 0) (tCons (tVar 1) (tCons (tCall (sp_l_bad_sizes A) [] E0 (tCons (tVar 2) (tCons (tVar 1) (tCons (tOp rDivI (tVar 4) (tC (.int 2))) tNil)))) tNil)))))))))
/-- law ['_law_script', '_law_pages', '_law_length', '_law_sizes', '_law_kind', '_law_wrong_here', '_law_handed', '_law_plan'] -/
def t_law (A : Ad) (E : XK) : TS :=
  (tSeq (tAsg (tOp rAddA (tC (.int 1)) (tOp rModI (tCall (sp_l_cell_at A) [] E0 (tCons (tVar 0) (tCons (tC (.int 0)) tNil))) (tC (.int 40)))) (gName 1))
  (tSeq (tAsg (tOp rAddA (tC (.int 1)) (tOp rModI (tCall (sp_l_cell_at A) [] E0 (tCons (tVar 0) (tCons (tC (.int 1)) tNil))) (tC (.int 60)))) (gName 2))
  (tSeq (tAsg (tCall (sp_l_sizes_by A) [] E0 (tCons (tCall (sp_l_cell_at A) [] E0 (tCons (tVar 0) (tCons (tC (.int 2)) tNil))) (tCons (tVar 2) (tCons (tOp rAddA (tC (.int 1)) (tOp rModI (tCall (sp_l_cell_at A) [] E0 (tCons (tVar 0) (tCons (tC (.int 3)) tNil))) (tC (.int 8)))) tNil)))) (gName 3))
  (tSeq (tAsg (tOp rModI (tCall (sp_l_cell_at A) [] E0 (tCons (tVar 0) (tCons (tC (.int 4)) tNil))) (tC (.int 4000))) (gName 4))
  (tSeq (tIfS (tTest (tOp rGtI (tOp rModI (tVar 4) (tC (.int 4))) (tC (.int 0))))
    (tSeq (tAsg (tCall (sp_l_wrong A) [] E0 (tCons (tVar 1) (tCons (tVar 2) (tCons (tVar 3) (tCons (tVar 4) tNil))))) (gName 5))
    (tRet (tCall (sp_l_refused A) [] E0 (tCons (tOp (rIxA A.K) (tVar 5) (tC (.int 0))) (tCons (tOp (rIxA A.K) (tVar 5) (tC (.int 1))) (tCons (tOp (rIxA A.K) (tVar 5) (tC (.int 2))) (tCons (tCall (sp_l_cell_at A) [] E0 (tCons (tVar 0) (tCons (tC (.int 5)) tNil))) tNil)))))))
    tNext)
  (tSeq (tAsg (tCB (rListA A.K) (tCons (tVar 3) tNil)) (gName 6))
  (tSeq (tAsg (tMake A.c_Plan (sp_Plan_init A) [] E0 (tCons (tVar 1) (tCons (tVar 2) (tCons (tVar 6) tNil)))) (gName 7))
  (tSeq (tIfS (tOr (tTest (tOp (rNeA A.K) (tVar 6) (tVar 3))) (tOr (tTest (tOp (rNeA A.K) (tC (.int 40)) (tC (.int 40)))) (tOr (tTest (tOp (rNeA A.K) (tC (.int 60)) (tC (.int 60)))) (tTest (tOp (rNeA A.K) (tC (.int 8)) (tC (.int 8)))))))
    (tRet (tC (.bl false)))
    tNext)
  (tSeq (tDrop (tBM A.K "list" rAppend (tVar 6) (tCons (tOp rAddA (tVar 2) (tC (.int 1))) tNil)))
  (tSeq (tIfS (tOr (tNot (tB (tCall (sp_l_whole A) [] E0 (tCons (tFld A.K (tVar 7) "pages") tNil)))) (tOr (tNot (tB (tCall (sp_l_whole A) [] E0 (tCons (tFld A.K (tVar 7) "length") tNil)))) (tNot (tB (tCB (rIsi A.K) (tCons (tFld A.K (tVar 7) "sizes") (tCons (tC (.ty "list")) tNil)))))))
    (tRet (tC (.bl false)))
    tNext)
  (tRet (tAndV (tOp (rEqA A.K) (tFld A.K (tVar 7) "pages") (tVar 1)) (tAndV (tOp (rEqA A.K) (tFld A.K (tVar 7) "length") (tVar 2)) (tOp (rEqA A.K) (tFld A.K (tVar 7) "sizes") (tVar 3)))))))))))))))

/-! ### the defs of plans keep their promises -/
section
variable (A : Ad) (na : NA A)
include na
theorem pure_is_whole (vs : List V) (H : Hp) (Q : VK) (E : XK) (h : sp_is_whole A vs H Q E) : t_is_whole A E { nx := fun _ H' => Q .non H', rt := Q } (start ["number"] vs) H := by
  obtain ⟨x, rfl, hp, q⟩ := h
  unfold t_is_whole
  cases x with
  | non => walk_at "rd"; exact q
  | bl b => walk_at "rd"; exact q
  | int i => walk_at "rd"; exact q
  | str z => walk_at "rd"; exact q
  | _ => exact absurd hp Bool.false_ne_true
theorem pure_is_within (vs : List V) (H : Hp) (Q : VK) (E : XK) (h : sp_is_within A vs H Q E) : t_is_within A E { nx := fun _ H' => Q .non H', rt := Q } (start ["number", "least", "most"] vs) H := by
  obtain ⟨x, a, b, rfl, hp, q⟩ := h
  unfold t_is_within
  walk_at "rd"
  refine ⟨x, rfl, hp, ?_⟩
  cases x with
  | int i =>
    walk_at "rd"
    refine r_ifT ?_
    walk_at "rd"
    refine r_ifd (fun h1 => ?_) (fun h1 => ?_)
    · walk_at "rd"
      have e : inR (.int i) a b = decide (i ≤ b) := by show (decide (a ≤ i) && decide (i ≤ b)) = _; rw [decide_eq_true h1]; simp
      rw [e] at q
      exact q
    · have e : inR (.int i) a b = false := by show (decide (a ≤ i) && decide (i ≤ b)) = _; rw [decide_eq_false h1]; simp
      rw [e] at q
      exact q
  | non => walk_at "rd"; refine r_ifF ?_; walk_at "rd"; exact q
  | bl b => walk_at "rd"; refine r_ifF ?_; walk_at "rd"; exact q
  | str z => walk_at "rd"; refine r_ifF ?_; walk_at "rd"; exact q
  | _ => exact absurd hp Bool.false_ne_true
omit na in
theorem take_all {xs : List V} {f : V → Bool} (h : xs.all f = true) {i : Nat} {x : V} (e : xs[i]? = some x) : f x = true := List.all_eq_true.mp h x (List.mem_of_getElem? e)
omit na in
theorem okFrom_cons {n : Int} {x : V} {r : List V} {a : Int} : okFrom n a (x :: r) = (inR x (a + 1) n && (match x with | .int i => okFrom n i r | _ => true)) := by
  cases x <;> first | rfl | (show _ = (false && true); rfl)
/-- what is ahead behind i sizes -/
def aheadOf : List V → Int → Nat → Int
  | _, a, 0 => a
  | .int i :: r, _, k + 1 => aheadOf r i k
  | _, a, _ => a
omit na in
theorem okFrom_at {n : Int} : ∀ {xs : List V} {a : Int} {i : Nat} {x : V}, okFrom n a xs = true → xs[i]? = some x → inR x (aheadOf xs a i + 1) n = true ∧ ∃ z, x = .int z ∧ aheadOf xs a (i + 1) = z
  | [], _, _, _, _, e => by simp at e
  | y :: r, a, 0, x, h, e => by
    obtain rfl : y = x := Option.some.inj e
    rw [okFrom_cons, Bool.and_eq_true] at h
    refine ⟨h.1, ?_⟩
    cases y with
    | int z => exact ⟨z, rfl, by cases r <;> rfl⟩
    | _ => exact absurd h.1 Bool.false_ne_true
  | y :: r, a, i + 1, x, h, e => by
    rw [okFrom_cons, Bool.and_eq_true] at h
    cases y with
    | int z =>
      have h2 : okFrom n z r = true := h.2
      exact okFrom_at (i := i) h2 e
    | _ => exact absurd h.1 Bool.false_ne_true
/-- the first i sizes are in order -/
def okTo (n : Int) (xs : List V) (i : Nat) : Prop := okFrom n 0 (xs.take i) = true
omit na in
theorem okFrom_snoc {n : Int} : ∀ {xs : List V} {a : Int} {x : V} , okFrom n a (xs ++ [x]) = (okFrom n a xs && inR x (aheadOf xs a xs.length + 1) n)
  | [], a, x => by
    rw [List.nil_append, okFrom_cons]
    cases x <;> first | rfl | (show (inR _ _ _ && true) = (true && inR _ _ _); rw [Bool.and_true, Bool.true_and]; rfl)
  | y :: r, a, x => by
    rw [List.cons_append, okFrom_cons, okFrom_cons]
    cases y with
    | int z =>
      show (_ && okFrom n z (r ++ [x])) = (_ && okFrom n z r && inR x (aheadOf r z r.length + 1) n)
      rw [okFrom_snoc, Bool.and_assoc]
    | _ => rfl
omit na in
theorem okFrom_pre {n : Int} : ∀ {xs ys : List V} {a : Int}, okFrom n a (xs ++ ys) = true → okFrom n a xs = true
  | [], _, _, _ => rfl
  | y :: r, ys, a, h => by
    rw [List.cons_append, okFrom_cons, Bool.and_eq_true] at h
    rw [okFrom_cons, Bool.and_eq_true]
    refine ⟨h.1, ?_⟩
    cases y with
    | int z => exact okFrom_pre (ys := ys) h.2
    | _ => rfl
theorem pure_check_sizes (vs : List V) (H : Hp) (Q : VK) (E : XK) (h : sp_check_sizes A vs H Q E) : t_check_sizes A E { nx := fun _ H' => Q .non H', rt := Q } (start ["sizes", "length", "ahead", "size"] vs) H := by
  obtain ⟨s, n, rfl, h⟩ := h
  unfold t_check_sizes
  rcases h with ⟨l, xs, rfl, hl, hp, q1, q2⟩ | ⟨hn, q⟩
  · walk_at "rd"
    refine isi_LL hl ?_
    walk_at "rd"
    refine r_ifF ?_
    walk_at "rd"
    refine r_lenL (toL hl) ?_
    walk_at "rd"
    refine ⟨_, _, _, rfl, rfl, ?_⟩
    walk_at "rd"
    have eR : inR (.int (xs.length : Int)) 1 8 = (decide (1 ≤ xs.length) && decide (xs.length ≤ 8)) := by
      unfold inR
      by_cases h1 : 1 ≤ xs.length <;> by_cases h2 : xs.length ≤ 8 <;> simp [h1, h2] <;> omega
    refine r_ifnb (fun hb => ?_) (fun hb => ?_)
    · -- too few or too many
      show tJs _ _ _ _ _
      refine ⟨_, rfl, (by decide +kernel), Or.inr ⟨8, rfl, by decide +kernel, _, rfl, (by decide +kernel), _, rfl, (by decide +kernel), ?_⟩⟩
      refine q2 ?_
      unfold okSizes
      rw [← eR, hb]; rfl
    · walk_at "rd"
      have hlen : okSizes xs n = okFrom n 0 xs := by unfold okSizes; rw [← eR, hb]; rfl
      rw [hlen] at q1 q2
      refine ⟨l, rfl, ⟨xs, toL hl⟩, for_list (K := A.K) (a := l) (xs := xs) (fun i σ H' => ∃ v : Option V, σ = [some (.ref l), some (.int n), some (.int (aheadOf (xs.take i) 0 (xs.take i).length)), v] ∧ H' = H ∧ okFrom n 0 (xs.take i) = true)
        ⟨none, rfl, rfl, rfl⟩ (fun i σ H' _ ⟨_, _, e, _⟩ => by rw [e]; exact toL hl) ?_ ?_⟩
      · rintro i x σ H' hi ⟨v, rfl, rfl, hok⟩
        have hx := take_all hp hi
        have hlt : i < xs.length := (List.getElem?_eq_some_iff.mp hi).1
        have htk : xs.take (i + 1) = xs.take i ++ [x] := by
          rw [List.take_add_one, hi]; rfl
        walk_at "rd"
        refine ⟨x, _, _, rfl, hx, ?_⟩
        walk_at "rd"
        refine r_ifnb (fun hb => ?_) (fun hb => ?_)
        · refine q2 ?_
          cases e : okFrom n 0 xs with
          | false => rfl
          | true =>
            have e2 : okFrom n 0 (xs.take (i + 1)) = true := okFrom_pre (ys := xs.drop (i + 1)) (by rw [List.take_append_drop]; exact e)
            rw [htk, okFrom_snoc, hb, Bool.and_false] at e2
            cases e2
        · walk_at "rd"
          have hok' : okFrom n 0 (xs.take (i + 1)) = true := by rw [htk, okFrom_snoc, hok, hb]; rfl
          obtain ⟨_, z, rfl, ez⟩ := okFrom_at (i := i) (x := x) hok' (by rw [List.getElem?_take_of_lt (Nat.lt_succ_self i)]; exact hi)
          refine ⟨some (.int z), ?_, rfl, hok'⟩
          have ln : (xs.take (i + 1)).length = i + 1 := by rw [List.length_take]; omega
          rw [ln, ez]
          rfl
      · rintro σ H' ⟨v, rfl, rfl, hok⟩
        rw [List.take_length] at hok
        walk_at "rd"
        exact q1 hok
  · walk_at "rd"
    rcases hn with hn | ⟨t, ys, rfl, ht⟩
    · cases s with
      | non => walk_at "rd"; exact q
      | bl b =>
        refine r_isi (t := .type "bool") (b := false) (.base (.bl b)) (kit_ty (by decide +kernel)) ?_
        walk_at "rd"; exact q
      | int i =>
        refine r_isi (t := .type "int") (b := false) (.base (.int i)) (kit_ty (by decide +kernel)) ?_
        walk_at "rd"; exact q
      | str z => walk_at "rd"; exact q
      | _ => exact absurd hn Bool.false_ne_true
    · refine isi_TL ht ?_
      walk_at "rd"; exact q
omit na in
theorem plan_put (m n : Int) (l : Addr) : putF "sizes" (.ref l) (putF "length" (.int n) (putF "pages" (.int m) [])) = planF m n l := rfl
theorem pure_Plan_init (vs : List V) (H : Hp) (Q : VK) (E : XK) (h : sp_Plan_init A vs H Q E) : t_Plan_init A E { nx := fun _ H' => Q .non H', rt := Q } (start ["self", "pages", "length", "sizes"] vs) H := by
  obtain ⟨p, dx, pg, ln, sz, rfl, hp, ppg, pln, h⟩ := h
  unfold t_Plan_init
  walk_at "rd"
  refine ⟨pg, _, _, rfl, ppg, ?_⟩
  walk_at "rd"
  rcases h with ⟨m, n, xs, l, rfl, rfl, rfl, m1, m2, n1, n2, hl, ok, q⟩ | ⟨hb, q⟩
  · refine r_ifnb (fun hb => absurd hb ?_) (fun _ => ?_)
    · show ¬ (decide (1 ≤ m) && decide (m ≤ 40)) = false
      simp [m1, m2]
    walk_at "rd"
    refine ⟨_, _, _, rfl, rfl, ?_⟩
    walk_at "rd"
    refine r_ifnb (fun hb => absurd hb ?_) (fun _ => ?_)
    · show ¬ (decide (1 ≤ n) && decide (n ≤ 60)) = false
      simp [n1, n2]
    walk_at "rd"
    refine ⟨_, _, rfl, .inl ⟨l, _, rfl, hl, by rw [List.all_eq_true]; intro v hv; obtain ⟨z, _, rfl⟩ := List.mem_map.mp hv; rfl, fun _ => ?_, fun e => absurd (ok.symm.trans e) (by decide)⟩⟩
    have nlp : l ≠ p := ne_of hl hp (by intro z; cases z)
    walk_at "rd"
    refine ⟨p, A.c_Plan, dx, [], rfl, hp, na.cl_Plan, na.na_Plan_pages, (by show 0 < 1000; decide), ?_⟩
    walk_at "rd"
    refine ⟨p, A.c_Plan, dx, _, rfl, upd_same, na.cl_Plan, na.na_Plan_length, pf_len1 m, ?_⟩
    walk_at "rd"
    refine r_listL (toL ((upd_ne nlp).trans ((upd_ne nlp).trans hl))) (fun l' hl' => ?_)
    have h0 : H l' = none := by
      by_cases e : l' = p
      · rw [e, upd_same] at hl'; cases hl'
      · rw [upd_ne e, upd_ne e] at hl'; exact hl'
    have npl : p ≠ l' := ne_of_none hp h0
    walk_at "rd"
    refine ⟨p, A.c_Plan, dx, _, rfl, (upd_ne npl).trans upd_same, na.cl_Plan, na.na_Plan_sizes, pf_len2 m n, ?_⟩
    walk_at "rd"
    refine q _ l' h0 upd_same ((upd_ne npl.symm).trans upd_same) (fun b o e nb => ?_)
    rw [upd_ne nb, upd_ne (ne_of_none e h0), upd_ne nb, upd_ne nb]
    exact e
  · rcases hb with hb | hb
    · rw [hb]
      refine r_ifT ?_
      show tJs _ _ _ _ _
      exact ⟨_, rfl, (by decide +kernel), Or.inr ⟨40, rfl, by decide +kernel, _, rfl, (by decide +kernel), _, rfl, (by decide +kernel), q⟩⟩
    refine r_ifnb (fun _ => ?_) (fun _ => ?_)
    · show tJs _ _ _ _ _
      exact ⟨_, rfl, (by decide +kernel), Or.inr ⟨40, rfl, by decide +kernel, _, rfl, (by decide +kernel), _, rfl, (by decide +kernel), q⟩⟩
    walk_at "rd"
    refine ⟨_, _, _, rfl, pln, ?_⟩
    walk_at "rd"
    have bad : tJs [tC (V.str (Str.ofString "a plan has a length of 1 to ")), tFmt (tC (V.int 60))] Str.empty (L2.start [Str.ofString "self", Str.ofString "pages", Str.ofString "length", Str.ofString "sizes"] [V.ref p, pg, ln, sz]) H fun out H1 => E (Value.ref A.c_BadPlan) none H1 :=
      ⟨_, rfl, (by decide +kernel), Or.inr ⟨60, rfl, by decide +kernel, _, rfl, (by decide +kernel), q⟩⟩
    rcases hb with hb | hb
    · rw [hb]
      refine r_ifT ?_
      exact bad
    refine r_ifnb (fun _ => bad) (fun _ => ?_)
    walk_at "rd"
    rcases hb with ⟨hi, hn⟩ | ⟨n, l, xs, rfl, rfl, hl, hx, hz⟩
    · cases ln with
      | int n => exact ⟨sz, n, rfl, .inr ⟨hn, q⟩⟩
      | _ => exact absurd hi Bool.false_ne_true
    · exact ⟨_, n, rfl, .inl ⟨l, xs, rfl, hl, hx, fun e => absurd (hz.symm.trans e) (by decide), fun _ => q⟩⟩
end

/-! ### the sizes that are drawn -/
theorem sbRun_inv (n span r0 : Int) (hs : 1 ≤ span) : ∀ k : Nat, ((sbRun n span r0 k).1.length ≤ k) ∧ 0 ≤ (sbRun n span r0 k).2.1 ∧ okFrom n 0 ((sbRun n span r0 k).1.map V.int) = true ∧
    aheadOf ((sbRun n span r0 k).1.map V.int) 0 ((sbRun n span r0 k).1.map V.int).length ≤ (sbRun n span r0 k).2.1
  | 0 => ⟨Nat.le_refl _, Int.le_refl _, rfl, Int.le_refl _⟩
  | k + 1 => by
    obtain ⟨h1, h2, h3, h4⟩ := sbRun_inv n span r0 hs k
    have hm : 0 ≤ (sbRun n span r0 k).2.2 % span := Int.emod_nonneg _ (by omega)
    show (sbStep n span (sbRun n span r0 k)).1.length ≤ k + 1 ∧ 0 ≤ (sbStep n span (sbRun n span r0 k)).2.1 ∧ okFrom n 0 ((sbStep n span (sbRun n span r0 k)).1.map V.int) = true ∧
      aheadOf ((sbStep n span (sbRun n span r0 k)).1.map V.int) 0 ((sbStep n span (sbRun n span r0 k)).1.map V.int).length ≤ (sbStep n span (sbRun n span r0 k)).2.1
    generalize sbRun n span r0 k = s at h1 h2 h3 h4 hm
    obtain ⟨l, b, r⟩ := s
    unfold sbStep
    dsimp only at h1 h2 h3 h4 hm ⊢
    by_cases hb : b + 1 + r % span ≤ n
    · rw [if_pos hb]
      refine ⟨by rw [List.length_append]; simp; omega, by omega, ?_, ?_⟩
      · rw [List.map_append, List.map_singleton, okFrom_snoc, h3, Bool.true_and]
        show (decide _ && decide _) = true
        simp only [Bool.and_eq_true, decide_eq_true_eq]
        omega
      · have e : okFrom n 0 ((l ++ [b + 1 + r % span]).map V.int) = true := by
          rw [List.map_append, List.map_singleton, okFrom_snoc, h3, Bool.true_and]
          show (decide _ && decide _) = true
          simp only [Bool.and_eq_true, decide_eq_true_eq]
          omega
        obtain ⟨_, z, ez, ea⟩ := okFrom_at (i := l.length) (x := V.int (b + 1 + r % span)) e (by rw [List.map_append, List.getElem?_append_right (by simp)]; simp)
        have el : ((l ++ [b + 1 + r % span]).map V.int).length = l.length + 1 := by simp
        rw [el, ea]
        cases ez
        exact Int.le_refl _
    · rw [if_neg hb]
      exact ⟨by omega, by omega, h3, by omega⟩
theorem sizesBy_ok {c n m : Int} (h1 : 1 ≤ n) (h2 : n ≤ 60) (h3 : 1 ≤ m) (h4 : m ≤ 8) : okSizes ((sizesBy c n m).map V.int) n = true := by
  have hs : 1 ≤ (if c % 3 = 0 then n else 4) := by split <;> omega
  obtain ⟨k1, k2, k3, k4⟩ := sbRun_inv n (if c % 3 = 0 then n else 4) (c / 3) hs m.toNat
  unfold sizesBy
  dsimp only
  by_cases e : (sbRun n (if c % 3 = 0 then n else 4) (c / 3) m.toNat).1 = []
  · rw [if_pos e]
    show (decide (1 ≤ 1) && decide (1 ≤ 8) && (decide (0 + 1 ≤ n) && decide (n ≤ n) && true)) = true
    simp
    omega
  · rw [if_neg e]
    unfold okSizes
    rw [k3, List.length_map]
    have : 0 < (sbRun n (if c % 3 = 0 then n else 4) (c / 3) m.toNat).1.length := List.length_pos_iff.mpr e
    simp only [Bool.and_true, Bool.and_eq_true, decide_eq_true_eq]
    omega
section
variable (A : Ad) (na : NA A)
include na
theorem pure_l_sizes_by (vs : List V) (H : Hp) (Q : VK) (E : XK) (h : sp_l_sizes_by A vs H Q E) : t_l_sizes_by A E { nx := fun _ H' => Q .non H', rt := Q } (start ["_law_cell", "_law_length", "_law_many", "_law_found", "_law_before", "_law_rest", "_law_span", "_law_turn"] vs) H := by
  obtain ⟨c, n, m, rfl, n1, n2, m1, m2, q⟩ := h
  unfold t_l_sizes_by
  walk_at "rd"
  refine ⟨Nat.zero_le _, fun p hp => ?_⟩
  walk_at "rd"
  refine r_join (fun σ' H' => ∃ span, span = (if c % 3 = 0 then n else 4) ∧ σ' = [some (.int c), some (.int n), some (.int m), some (.ref p), some (.int 0), some (.int (c / 3)), some (.int span), none] ∧ H' = upd H p (.lst [])) ?_ (fun R main => ?_)
  · rintro σ' H' ⟨span, hs, rfl, rfl⟩
    have s1 : 1 ≤ span := by rw [hs]; split <;> omega
    have s2 : span ≤ 60 := by rw [hs]; split <;> omega
    walk_at "rd"
    refine ⟨m, rfl, by omega, by omega, for_range (lo := 0) (n := m.toNat) (fun i σ H' => ∃ v : Option V, σ = [some (.int c), some (.int n), some (.int m), some (.ref p), some (.int (sbRun n span (c / 3) i).2.1), some (.int (sbRun n span (c / 3) i).2.2), some (.int span), v] ∧
        Same H H' ∧ H' p = some (.lst ((sbRun n span (c / 3) i).1.map V.int))) ⟨none, rfl, same_new hp, upd_same⟩ ?_ ?_⟩
    · rintro i σ H' hi ⟨v, rfl, s, hl⟩
      obtain ⟨k1, k2, k3, k4⟩ := sbRun_inv n span (c / 3) s1 i
      walk_at "rd"
      refine r_ifd (fun hb => ?_) (fun hb => ?_)
      · walk_at "rd"
        refine ⟨ty_list (toL hl), ?_⟩
        walk_at "rd"
        refine r_append hl (by rw [List.length_map]; exact small1000 (by omega)) ?_
        walk_at "rd"
        refine ⟨some (.int (0 + (i : Int))), ?_, fun b o e => ?_, ?_⟩
        · rfl
        · rw [upd_ne (ne_of_none e hp)]; exact s b o e
        · rw [upd_same]
          show some (HO.lst _) = some (HO.lst (List.map V.int (sbStep n span (sbRun n span (c / 3) i)).1))
          have e : (sbStep n span (sbRun n span (c / 3) i)).1 = (sbRun n span (c / 3) i).1 ++ [(sbRun n span (c / 3) i).2.1 + 1 + (sbRun n span (c / 3) i).2.2 % span] := by
            unfold sbStep; exact if_pos hb
          rw [e, List.map_append, List.map_singleton]
      · walk_at "rd"
        refine ⟨some (.int (0 + (i : Int))), rfl, s, ?_⟩
        have e : (sbStep n span (sbRun n span (c / 3) i)).1 = (sbRun n span (c / 3) i).1 := by unfold sbStep; exact if_neg hb
        show H' p = some (HO.lst (List.map V.int (sbStep n span (sbRun n span (c / 3) i)).1))
        rw [e]; exact hl
    · rintro σ H' ⟨v, rfl, s, hl⟩
      walk_at "rd"
      refine ⟨Nat.zero_le _, fun e he => ?_⟩
      have nep : p ≠ e := ne_of_none hl he
      refine r_eqL (ns := (sbRun n span (c / 3) m.toNat).1) (ms := []) (toL ((upd_ne nep).trans hl)) (toL upd_same) ?_
      walk_at "rd"
      have hz : sizesBy c n m = if (sbRun n span (c / 3) m.toNat).1 = [] then [n] else (sbRun n span (c / 3) m.toNat).1 := by unfold sizesBy; rw [hs]
      refine r_ifd (fun h0 => ?_) (fun h0 => ?_)
      · walk_at "rd"
        refine ⟨ty_list (toL ((upd_ne nep).trans hl)), ?_⟩
        walk_at "rd"
        refine r_append ((upd_ne nep).trans hl) (by rw [h0]; exact small1000 (by simp)) ?_
        walk_at "rd"
        refine q p _ hp (fun b o eo => ?_) ?_
        · rw [upd_ne (ne_of_none eo hp), upd_ne (ne_of_none (s b o eo) he)]
          exact s b o eo
        · rw [upd_same, hz, if_pos h0, h0]; rfl
      · walk_at "rd"
        refine q p _ hp (fun b o eo => ?_) ?_
        · rw [upd_ne (ne_of_none (s b o eo) he)]; exact s b o eo
        · rw [upd_ne nep, hz, if_neg h0]; exact hl
  refine r_ifd (fun h3 => ?_) (fun h3 => ?_)
  · walk_at "rd"
    exact main _ _ ⟨n, by rw [if_pos h3], rfl, rfl⟩
  · walk_at "rd"
    exact main _ _ ⟨4, by rw [if_neg h3], rfl, rfl⟩
end

theorem notList.same {s : V} {H H' : Hp} (h : notList s H) (e : Same H H') : notList s H' := by
  rcases h with h | ⟨t, ys, h1, h2⟩
  · exact .inl h
  · exact .inr ⟨t, ys, h1, e _ _ h2⟩
theorem badPlan.same {pg ln sz : V} {H H' : Hp} (h : badPlan pg ln sz H) (e : Same H H') : badPlan pg ln sz H' := by
  rcases h with h | h | ⟨h1, h2⟩ | ⟨n, l, xs, h1, h2, h3, h4, h5⟩
  · exact .inl h
  · exact .inr (.inl h)
  · exact .inr (.inr (.inl ⟨h1, h2.same e⟩))
  · exact .inr (.inr (.inr ⟨n, l, xs, h1, h2, e _ _ h3, h4, h5⟩))
section
variable (A : Ad) (na : NA A)
include na
theorem pure_l_cell_at (vs : List V) (H : Hp) (Q : VK) (E : XK) (h : sp_l_cell_at A vs H Q E) : t_l_cell_at A E { nx := fun _ H' => Q .non H', rt := Q } (start ["_law_script", "_law_k"] vs) H := by
  obtain ⟨a, k, ns, rfl, hs, h0, q⟩ := h
  unfold t_l_cell_at
  unfold cellAt at q
  walk_at "rd"
  refine r_lenL hs ?_
  walk_at "rd"
  rw [List.length_map]
  refine r_ifd (fun h1 => ?_) (fun h1 => ?_)
  · walk_at "rd"
    rw [if_pos h1] at q
    have hk : k.toNat < ns.length := by omega
    refine r_ixL (n := k.toNat) hs (Int.toNat_of_nonneg h0).symm (by rw [List.getElem?_map, List.getElem?_eq_getElem hk]; rfl) ?_
    walk_at "rd"
    rw [List.getD_eq_getElem?_getD, List.getElem?_eq_getElem hk] at q
    exact q
  · walk_at "rd"
    rw [if_neg h1] at q
    exact q
theorem pure_l_whole (vs : List V) (H : Hp) (Q : VK) (E : XK) (h : sp_l_whole A vs H Q E) : t_l_whole A E { nx := fun _ H' => Q .non H', rt := Q } (start ["_law_found"] vs) H := by
  obtain ⟨x, rfl, hp, q⟩ := h
  unfold t_l_whole
  cases x with
  | non => walk_at "rd"; exact q
  | bl b => walk_at "rd"; exact q
  | int i => walk_at "rd"; exact q
  | str z => walk_at "rd"; exact q
  | _ => exact absurd hp Bool.false_ne_true
theorem pure_l_refused (vs : List V) (H : Hp) (Q : VK) (E : XK) (h : sp_l_refused A vs H Q E) : t_l_refused A E { nx := fun _ H' => Q .non H', rt := Q } (start ["_law_pages", "_law_length", "_law_sizes", "_law_way", "e"] vs) H := by
  obtain ⟨pg, ln, sz, w, rfl, hpg, hln, hb, q⟩ := h
  unfold t_l_refused
  walk_at "rd"
  have sm : ∀ x dx, H x = none → H dx = none → Same H (upd (upd H dx (.own x)) x (.ins A.c_Plan dx [])) := fun x dx hx hdx b o e => by
    rw [upd_ne (ne_of_none e hx), upd_ne (ne_of_none e hdx)]; exact e
  refine r_ifd (fun h3 => ?_) (fun h3 => ?_)
  · walk_at "rd"
    dsimp only
    walk_at "rd"
    intro x dx hx hdx hne
    refine ⟨x, dx, pg, ln, sz, rfl, upd_same, hpg, hln, .inr ⟨hb.same (sm x dx hx hdx), ?_⟩⟩
    refine ⟨true, na.ex_BadPlan_BadPlan, fun _ a ha => ?_, fun e => Bool.noConfusion e⟩
    walk_at "rd"
    exact q _ (sm x dx hx hdx)
  · walk_at "rd"
    dsimp only
    walk_at "rd"
    intro x dx hx hdx hne
    refine ⟨x, dx, pg, ln, sz, rfl, upd_same, hpg, hln, .inr ⟨hb.same (sm x dx hx hdx), ?_⟩⟩
    refine ⟨true, na.ex_BadPlan_RoomError, fun _ a ha => ?_, fun e => Bool.noConfusion e⟩
    walk_at "rd"
    refine r_isEx na.ec_BadPlan na.ki_BadPlan_BadWish ?_
    walk_at "rd"
    refine r_isEx na.ec_BadPlan na.ki_BadPlan_TooLarge ?_
    walk_at "rd"
    refine r_isEx na.ec_BadPlan na.ki_BadPlan_NoRoom ?_
    walk_at "rd"
    refine r_isEx na.ec_BadPlan na.ki_BadPlan_NotOut ?_
    walk_at "rd"
    refine r_isEx na.ec_BadPlan na.ki_BadPlan_OutOfThing ?_
    walk_at "rd"
    refine r_isEx na.ec_BadPlan na.ki_BadPlan_NoSize ?_
    walk_at "rd"
    refine r_isExV na.ec_BadPlan na.kv_BadPlan ?_
    walk_at "rd"
    refine r_isEx na.ec_BadPlan na.ki_BadPlan_BadPlan ?_
    walk_at "rd"
    exact q _ (sm x dx hx hdx)
omit na in
theorem all_ints (xs : List Int) : (xs.map V.int).all plainV = true := by
  rw [List.all_eq_true]; intro v hv; obtain ⟨z, _, rfl⟩ := List.mem_map.mp hv; rfl
omit na in
/-- the list behind one wrong thing at its place is refused -/
theorem bad_at {xs : List Int} {n : Int} {k : Nat} {v : V} (h : okSizes (xs.map V.int) n = true) (hk : k < xs.length) (hv : inR v ((if k = 0 then 0 else xs.getD (k - 1) 0) + 1) n = false) :
    okSizes ((xs.map V.int).take k ++ [v] ++ (xs.map V.int).drop (k + 1)) n = false := by
  cases e : okSizes ((xs.map V.int).take k ++ [v] ++ (xs.map V.int).drop (k + 1)) n with
  | false => rfl
  | true =>
    unfold okSizes at e h
    simp only [Bool.and_eq_true] at e h
    have e2 := okFrom_pre e.2
    rw [okFrom_snoc, Bool.and_eq_true] at e2
    have ea : aheadOf ((xs.map V.int).take k) 0 ((xs.map V.int).take k).length = (if k = 0 then 0 else xs.getD (k - 1) 0) := by
      by_cases k0 : k = 0
      · subst k0; rfl
      · rw [if_neg k0]
        have ln : ((xs.map V.int).take k).length = k := by rw [List.length_take, List.length_map]; omega
        have hx : ((xs.map V.int).take k)[k - 1]? = some (V.int (xs.getD (k - 1) 0)) := by
          rw [List.getElem?_take_of_lt (by omega), List.getElem?_map, List.getD_eq_getElem?_getD, List.getElem?_eq_getElem (by omega)]
          rfl
        obtain ⟨_, z, ez, ea⟩ := okFrom_at e2.1 hx
        have e1 : k - 1 + 1 = k := Nat.sub_add_cancel (Nat.one_le_iff_ne_zero.mpr k0)
        rw [e1] at ea
        rw [ln, ea]
        cases ez
        rfl
    rw [ea, hv] at e2
    exact Bool.noConfusion e2.2
omit na in
theorem ahead_nn {xs : List Int} {n : Int} {k : Nat} (h : okSizes (xs.map V.int) n = true) (hk : k < xs.length) : 0 ≤ (if k = 0 then 0 else xs.getD (k - 1) 0) ∧ (if k = 0 then 0 else xs.getD (k - 1) 0) ≤ n := by
  by_cases k0 : k = 0
  · rw [if_pos k0]
    have := okSizes_mem h xs[k] (List.getElem_mem hk)
    omega
  · rw [if_neg k0, List.getD_eq_getElem?_getD, List.getElem?_eq_getElem (show k - 1 < xs.length by omega)]
    have := okSizes_mem h xs[k - 1] (List.getElem_mem (by omega))
    show 0 ≤ xs[k - 1] ∧ xs[k - 1] ≤ n
    omega
theorem pure_l_bad_sizes (vs : List V) (H : Hp) (Q : VK) (E : XK) (h : sp_l_bad_sizes A vs H Q E) : t_l_bad_sizes A E { nx := fun _ H' => Q .non H', rt := Q } (start ["_law_sizes", "_law_length", "_law_cell", "_law_at", "_law_before", "_law_wrong_here"] vs) H := by
  obtain ⟨l, n, c, xs, rfl, hl, hok, q⟩ := h
  unfold t_l_bad_sizes
  have l8 := okSizes_len hok
  have l1 : 1 ≤ xs.length := by
    unfold okSizes at hok
    simp only [Bool.and_eq_true, decide_eq_true_eq, List.length_map] at hok
    omega
  walk_at "rd"
  refine r_lenL (toL hl) ?_
  rw [List.length_map]
  walk_at "rd"
  obtain ⟨k, ek⟩ : ∃ k : Nat, c / 7 % (xs.length : Int) = (k : Int) := ⟨(c / 7 % (xs.length : Int)).toNat, (Int.toNat_of_nonneg (Int.emod_nonneg _ (by omega))).symm⟩
  have hk : k < xs.length := by
    have := Int.emod_lt_of_pos (c / 7) (show 0 < (xs.length : Int) by omega)
    omega
  rw [ek]
  refine r_join (fun σ' H' => σ' = [some (.ref l), some (.int n), some (.int c), some (.int (k : Int)), some (.int (if k = 0 then 0 else xs.getD (k - 1) 0)), none] ∧ H' = H) ?_ (fun R main => ?_)
  rotate_left
  · refine r_ifd (fun h3 => ?_) (fun h3 => ?_)
    · walk_at "rd"
      refine r_ixL (n := k - 1) (toL hl) (by omega) (by rw [List.getElem?_map, List.getElem?_eq_getElem (show k - 1 < xs.length by omega)]; rfl) ?_
      walk_at "rd"
      refine main _ _ ⟨?_, rfl⟩
      have k0 : k ≠ 0 := by omega
      rw [if_neg k0, List.getD_eq_getElem?_getD, List.getElem?_eq_getElem (show k - 1 < xs.length by omega)]
      rfl
    · walk_at "rd"
      refine main _ _ ⟨?_, rfl⟩
      have k0 : k = 0 := by omega
      subst k0
      rfl
  rintro σ' H' ⟨rfl, rfl⟩
  obtain ⟨b0, bn⟩ := ahead_nn hok hk
  have hbad : ∀ v, inR v ((if k = 0 then 0 else xs.getD (k - 1) 0) + 1) n = false → okSizes ((xs.map V.int).take k ++ [v] ++ (xs.map V.int).drop (k + 1)) n = false := fun v => bad_at hok hk
  generalize (if k = 0 then 0 else xs.getD (k - 1) 0) = b at b0 bn hbad
  walk_at "rd"
  refine ⟨(by show 7 ≤ sizeLine; decide), fun d hd => ?_⟩
  have s1 := same_new (o := .lst [V.int b, V.int (b - 1 - c / 49 % 5), V.int (n + 1 + c / 49 % 50), V.bl true, V.str (Str.ofString "1"), V.int 0, V.non]) hd
  walk_at "rd"
  have h7a := Int.emod_nonneg c (show (7 : Int) ≠ 0 by decide)
  have h7b := Int.emod_lt_of_pos c (show (0 : Int) < 7 by decide)
  have key : ∃ v, [V.int b, V.int (b - 1 - c / 49 % 5), V.int (n + 1 + c / 49 % 50), V.bl true, V.str (Str.ofString "1"), V.int 0, V.non][(c % 7).toNat]? = some v ∧ plainV v = true ∧ inR v (b + 1) n = false := by
    have f1 : ∀ z : Int, (z < b + 1 ∨ n < z) → inR (.int z) (b + 1) n = false := fun z hz => by
      show (decide _ && decide _) = false
      simp only [Bool.and_eq_false_iff, decide_eq_false_iff_not]
      omega
    have e7 : (c % 7).toNat = 0 ∨ (c % 7).toNat = 1 ∨ (c % 7).toNat = 2 ∨ (c % 7).toNat = 3 ∨ (c % 7).toNat = 4 ∨ (c % 7).toNat = 5 ∨ (c % 7).toNat = 6 := by omega
    rcases e7 with e | e | e | e | e | e | e <;> rw [e]
    · exact ⟨_, rfl, rfl, f1 _ (by omega)⟩
    · exact ⟨_, rfl, rfl, f1 _ (by omega)⟩
    · exact ⟨_, rfl, rfl, f1 _ (by omega)⟩
    · exact ⟨_, rfl, rfl, rfl⟩
    · exact ⟨_, rfl, rfl, rfl⟩
    · exact ⟨_, rfl, rfl, f1 _ (by omega)⟩
    · exact ⟨_, rfl, rfl, rfl⟩
  obtain ⟨v, hv, pv, bv⟩ := key
  refine r_ixL (n := (c % 7).toNat) (toL upd_same) (by omega) hv ?_
  walk_at "rd"
  refine r_slTake (toL (s1 _ _ hl)) rfl (by rw [List.length_map]; omega) (fun e he => ?_)
  have s2 := same_new (o := .lst ((xs.map V.int).take k)) he
  walk_at "rd"
  refine ⟨(by show 1 ≤ sizeLine; decide), fun f hf => ?_⟩
  have s3 := same_new (o := .lst [v]) hf
  refine r_cat (s3 _ _ upd_same) upd_same (by rw [List.length_take, List.length_map]; exact Nat.le_of_lt (small1000 (by show _ + 1 ≤ 1000; omega))) (fun g hg => ?_)
  have s4 := same_new (o := .lst ((xs.map V.int).take k ++ [v])) hg
  walk_at "rd"
  refine r_slDrop (k := k + 1) (toL (s4 _ _ (s3 _ _ (s2 _ _ (s1 _ _ hl))))) (by omega) (by rw [List.length_map]; omega) (fun i hi => ?_)
  have s5 := same_new (o := .lst ((xs.map V.int).drop (k + 1))) hi
  refine r_cat (s5 _ _ upd_same) upd_same (by rw [List.length_append, List.length_take, List.length_drop, List.length_map]; exact Nat.le_of_lt (small1000 (by show _ + 1 + _ ≤ 1000; omega))) (fun j hj => ?_)
  have s6 := same_new (o := .lst ((xs.map V.int).take k ++ [v] ++ (xs.map V.int).drop (k + 1))) hj
  walk_at "rd"
  refine q _ j _ (((((s1.trans s2).trans s3).trans s4).trans s5).trans s6) upd_same ?_ (hbad v bv)
  have hall := all_ints xs
  rw [List.all_append, List.all_append, Bool.and_eq_true, Bool.and_eq_true]
  refine ⟨⟨?_, by show (plainV v && true) = true; rw [pv]; rfl⟩, ?_⟩
  · rw [List.all_eq_true] at hall ⊢
    exact fun x hx => hall x (List.mem_of_mem_take hx)
  · rw [List.all_eq_true] at hall ⊢
    exact fun x hx => hall x (List.mem_of_mem_drop hx)
end

section
variable (A : Ad) (na : NA A)
include na
omit na in
theorem six (c : Int) (a0 a1 a2 a3 a4 a5 : V) (P : V → Prop) (h0 : P a0) (h1 : P a1) (h2 : P a2) (h3 : P a3) (h4 : P a4) (h5 : P a5) : ∃ v, [a0, a1, a2, a3, a4, a5][(c % 6).toNat]? = some v ∧ P v := by
  have b1 := Int.emod_nonneg c (show (6 : Int) ≠ 0 by decide)
  have b2 := Int.emod_lt_of_pos c (show (0 : Int) < 6 by decide)
  have e6 : (c % 6).toNat = 0 ∨ (c % 6).toNat = 1 ∨ (c % 6).toNat = 2 ∨ (c % 6).toNat = 3 ∨ (c % 6).toNat = 4 ∨ (c % 6).toNat = 5 := by omega
  rcases e6 with e | e | e | e | e | e <;> rw [e]
  · exact ⟨_, rfl, h0⟩
  · exact ⟨_, rfl, h1⟩
  · exact ⟨_, rfl, h2⟩
  · exact ⟨_, rfl, h3⟩
  · exact ⟨_, rfl, h4⟩
  · exact ⟨_, rfl, h5⟩
omit na in
theorem inR_out {z a b : Int} (h : z < a ∨ b < z) : inR (.int z) a b = false := by
  show (decide _ && decide _) = false
  simp only [Bool.and_eq_false_iff, decide_eq_false_iff_not]
  omega
theorem pure_l_wrong (vs : List V) (H : Hp) (Q : VK) (E : XK) (h : sp_l_wrong A vs H Q E) : t_l_wrong A E { nx := fun _ H' => Q .non H', rt := Q } (start ["_law_pages", "_law_length", "_law_sizes", "_law_cell", "_law_more"] vs) H := by
  obtain ⟨m, n, c, l, xs, rfl, c0, c4, hl, hok, q⟩ := h
  unfold t_l_wrong
  have d0 : 0 ≤ c / 4 := Int.ediv_nonneg c0 (by decide)
  walk_at "rd"
  refine r_ifd (fun h3 => ?_) (fun h3 => ?_)
  · walk_at "rd"
    refine ⟨(by show 6 ≤ sizeLine; decide), fun d hd => ?_⟩
    have s1 := same_new (o := .lst [V.int 0, V.int (-(c / 4)), V.int (41 + c / 4), V.bl true, V.str (Str.ofString "3"), V.non]) hd
    walk_at "rd"
    obtain ⟨v, hv, pv, bv⟩ := six (c / 4) (.int 0) (.int (-(c / 4))) (.int (41 + c / 4)) (.bl true) (.str (Str.ofString "3")) .non (fun v => plainV v = true ∧ inR v 1 40 = false)
      ⟨rfl, rfl⟩ ⟨rfl, inR_out (by omega)⟩ ⟨rfl, inR_out (by omega)⟩ ⟨rfl, rfl⟩ ⟨rfl, rfl⟩ ⟨rfl, rfl⟩
    refine r_ixL (n := (c / 4 % 6).toNat) (toL upd_same) (by have := Int.emod_nonneg (c / 4) (show (6 : Int) ≠ 0 by decide); omega) hv ?_
    walk_at "rd"
    refine ⟨(by show 3 ≤ sizeLine; decide), fun t ht => ?_⟩
    walk_at "rd"
    exact q _ t v _ _ (s1.trans (same_new ht)) upd_same pv rfl (.inl bv)
  walk_at "rd"
  refine r_ifd (fun h4 => ?_) (fun h4 => ?_)
  · walk_at "rd"
    refine ⟨(by show 6 ≤ sizeLine; decide), fun d hd => ?_⟩
    have s1 := same_new (o := .lst [V.int 0, V.int (-(c / 4)), V.int (61 + c / 4), V.bl true, V.str (Str.ofString "3"), V.non]) hd
    walk_at "rd"
    obtain ⟨v, hv, pv, bv⟩ := six (c / 4) (.int 0) (.int (-(c / 4))) (.int (61 + c / 4)) (.bl true) (.str (Str.ofString "3")) .non (fun v => plainV v = true ∧ inR v 1 60 = false)
      ⟨rfl, rfl⟩ ⟨rfl, inR_out (by omega)⟩ ⟨rfl, inR_out (by omega)⟩ ⟨rfl, rfl⟩ ⟨rfl, rfl⟩ ⟨rfl, rfl⟩
    refine r_ixL (n := (c / 4 % 6).toNat) (toL upd_same) (by have := Int.emod_nonneg (c / 4) (show (6 : Int) ≠ 0 by decide); omega) hv ?_
    walk_at "rd"
    refine ⟨(by show 3 ≤ sizeLine; decide), fun t ht => ?_⟩
    walk_at "rd"
    exact q _ t _ v _ (s1.trans (same_new ht)) upd_same rfl pv (.inr (.inl bv))
  walk_at "rd"
  refine r_ifd (fun h5 => ?_) (fun h5 => ?_)
  · walk_at "rd"
    refine ⟨Nat.zero_le _, fun d1 hd1 => ?_⟩
    have s1 := same_new (o := .lst []) hd1
    walk_at "rd"
    refine ⟨1, 10, rfl, rfl, RgOk.of_le (by decide) (by decide) (by decide) (by decide), fun d2 hd2 => ?_⟩
    have s2 := same_new (o := .lst (rgV 1 10)) hd2
    walk_at "rd"
    have hl2 := s2 _ _ (s1 _ _ hl)
    refine ⟨l, _, rfl, .inl ⟨toL hl2, fun d3 hd3 => ?_⟩⟩
    have s3 := same_new (o := .tup (xs.map V.int)) hd3
    walk_at "rd"
    refine ⟨l, _, rfl, .inl ⟨toL (s3 _ _ hl2), fun d4 hd4 => ?_⟩⟩
    have s4 := same_new (o := .tup (xs.map V.int)) hd4
    walk_at "rd"
    refine ⟨(by show 6 ≤ sizeLine; decide), fun d5 hd5 => ?_⟩
    have s5 := same_new (o := .lst [V.ref d1, V.ref d2, V.str (Str.ofString "1"), V.non, V.ref d3, V.ref d4]) hd5
    have k1 := s5 _ _ (s4 _ _ (s3 _ _ (s2 _ _ (upd_same (H := H) (a := d1) (o := .lst [])))))
    have k2 := s5 _ _ (s4 _ _ (s3 _ _ (upd_same (H := upd H d1 (.lst [])) (a := d2) (o := .lst (rgV 1 10)))))
    have k3 := s5 _ _ (s4 _ _ (upd_same (H := upd (upd H d1 (.lst [])) d2 (.lst (rgV 1 10))) (a := d3) (o := .tup (xs.map V.int))))
    have k4 := s5 _ _ (upd_same (H := upd (upd (upd H d1 (.lst [])) d2 (.lst (rgV 1 10))) d3 (.tup (xs.map V.int))) (a := d4) (o := .tup (xs.map V.int)))
    walk_at "rd"
    have key : ∀ t : Addr, ∀ u : HO, (upd (upd (upd (upd (upd H d1 (.lst [])) d2 (.lst (rgV 1 10))) d3 (.tup (xs.map V.int))) d4 (.tup (xs.map V.int))) d5 (.lst [V.ref d1, V.ref d2, V.str (Str.ofString "1"), V.non, V.ref d3, V.ref d4])) t = none →
        ∃ v, [V.ref d1, V.ref d2, V.str (Str.ofString "1"), V.non, V.ref d3, V.ref d4][(c / 4 / 2 % 6).toNat]? = some v ∧ badPlan (.int m) (.int 60) v (upd (upd (upd (upd (upd (upd H d1 (.lst [])) d2 (.lst (rgV 1 10))) d3 (.tup (xs.map V.int))) d4 (.tup (xs.map V.int))) d5 (.lst [V.ref d1, V.ref d2, V.str (Str.ofString "1"), V.non, V.ref d3, V.ref d4])) t u) := by
      intro t u ht
      have s6 := same_new (o := u) ht
      exact six (c / 4 / 2) _ _ _ _ _ _ (fun v => badPlan (.int m) (.int 60) v _)
        (.inr (.inr (.inr ⟨60, d1, [], rfl, rfl, s6 _ _ k1, rfl, rfl⟩)))
        (.inr (.inr (.inr ⟨60, d2, rgV 1 10, rfl, rfl, s6 _ _ k2, by decide +kernel, by decide +kernel⟩)))
        (.inr (.inr (.inl ⟨rfl, .inl rfl⟩)))
        (.inr (.inr (.inl ⟨rfl, .inl rfl⟩)))
        (.inr (.inr (.inl ⟨rfl, .inr ⟨d3, _, rfl, s6 _ _ k3⟩⟩)))
        (.inr (.inr (.inl ⟨rfl, .inr ⟨d4, _, rfl, s6 _ _ k4⟩⟩)))
    have hn : ∃ v, [V.ref d1, V.ref d2, V.str (Str.ofString "1"), V.non, V.ref d3, V.ref d4][(c / 4 / 2 % 6).toNat]? = some v ∧ True := six (c / 4 / 2) _ _ _ _ _ _ (fun _ => True) trivial trivial trivial trivial trivial trivial
    obtain ⟨v, hv, _⟩ := hn
    refine r_ixL (n := (c / 4 / 2 % 6).toNat) (toL upd_same) (by have := Int.emod_nonneg (c / 4 / 2) (show (6 : Int) ≠ 0 by decide); omega) hv ?_
    walk_at "rd"
    refine ⟨(by show 3 ≤ sizeLine; decide), fun t ht => ?_⟩
    walk_at "rd"
    obtain ⟨v', hv', hb⟩ := key t (.tup [V.int m, V.int 60, v]) ht
    obtain rfl : v = v' := Option.some.inj (hv.symm.trans hv')
    exact q _ t _ _ v (((((s1.trans s2).trans s3).trans s4).trans s5).trans (same_new ht)) upd_same rfl rfl hb
  · walk_at "rd"
    refine ⟨l, n, _, xs, rfl, hl, hok, fun H' p ys s hp hy hz => ?_⟩
    walk_at "rd"
    refine ⟨(by show 3 ≤ sizeLine; decide), fun t ht => ?_⟩
    walk_at "rd"
    exact q _ t _ _ _ (s.trans (same_new ht)) upd_same rfl rfl (.inr (.inr (.inr ⟨n, p, ys, rfl, rfl, same_new ht _ _ hp, hy, hz⟩)))
theorem pure_law (vs : List V) (H : Hp) (Q : VK) (E : XK) (h : sp_law A vs H Q E) : t_law A E { nx := fun _ H' => Q .non H', rt := Q } (start ["_law_script", "_law_pages", "_law_length", "_law_sizes", "_law_kind", "_law_wrong_here", "_law_handed", "_law_plan"] vs) H := by
  obtain ⟨a, ns, rfl, hs, h63, q⟩ := h
  unfold t_law
  have rc : ∀ (k : Int) (H' : Hp) (Q' : VK) (E' : XK), Same H H' → 0 ≤ k → Q' (.int (cellAt ns k)) H' → sp_l_cell_at A [.ref a, .int k] H' Q' E' := fun k H' Q' E' s hk q => ⟨a, k, ns, rfl, s.seq hs, hk, q⟩
  walk_at "rd"
  refine rc 0 _ _ _ (Same.refl H) (by decide) ?_
  walk_at "rd"
  refine rc 1 _ _ _ (Same.refl H) (by decide) ?_
  walk_at "rd"
  refine rc 2 _ _ _ (Same.refl H) (by decide) ?_
  walk_at "rd"
  refine rc 3 _ _ _ (Same.refl H) (by decide) ?_
  walk_at "rd"
  refine ⟨_, _, _, rfl, by omega, by omega, by omega, by omega, fun l H1 hl s1 h1 => ?_⟩
  have hok := sizesBy_ok (c := cellAt ns 2) (n := 1 + cellAt ns 1 % 60) (m := 1 + cellAt ns 3 % 8) (by omega) (by omega) (by omega) (by omega)
  have hm : 1 ≤ 1 + cellAt ns 0 % 40 ∧ 1 + cellAt ns 0 % 40 ≤ 40 := by omega
  have hn : 1 ≤ 1 + cellAt ns 1 % 60 ∧ 1 + cellAt ns 1 % 60 ≤ 60 := by omega
  generalize sizesBy (cellAt ns 2) (1 + cellAt ns 1 % 60) (1 + cellAt ns 3 % 8) = xs at h1 hok
  generalize 1 + cellAt ns 0 % 40 = m at hm
  generalize 1 + cellAt ns 1 % 60 = n at hn hok
  obtain ⟨m1, m2⟩ := hm
  obtain ⟨n1, n2⟩ := hn
  walk_at "rd"
  refine rc 4 _ _ _ s1 (by decide) ?_
  walk_at "rd"
  refine r_ifd (fun h3 => ?_) (fun h3 => ?_)
  · walk_at "rd"
    refine ⟨m, n, _, l, xs, rfl, Int.emod_nonneg _ (by decide), by omega, h1, hok, fun H2 t pg ln sz s2 ht pp pl hb => ?_⟩
    walk_at "rd"
    refine r_ixT (n := 0) (toT ht) rfl rfl ?_
    walk_at "rd"
    refine r_ixT (n := 1) (toT ht) rfl rfl ?_
    walk_at "rd"
    refine r_ixT (n := 2) (toT ht) rfl rfl ?_
    walk_at "rd"
    refine rc 5 _ _ _ (s1.trans s2) (by decide) ?_
    walk_at "rd"
    refine ⟨pg, ln, sz, _, rfl, pp, pl, hb, fun H3 _ => ?_⟩
    walk_at "rd"
    exact q _
  walk_at "rd"
  refine r_listL (toL h1) (fun l2 hl2 => ?_)
  have s2 := same_new (o := .lst (xs.map V.int)) hl2
  walk_at "rd"
  intro x dx hx hdx hne
  have nl2 : l2 ≠ x := ne_of_none upd_same hx
  have nl2d : l2 ≠ dx := ne_of_none upd_same hdx
  refine ⟨x, dx, _, _, _, rfl, upd_same, rfl, rfl, .inl ⟨m, n, xs, l2, rfl, rfl, rfl, m1, m2, n1, n2, (upd_ne nl2).trans ((upd_ne nl2d).trans upd_same), hok, fun H2 l3 hl3 hp hl3' b2 => ⟨rfl, ?_⟩⟩⟩
  have k2 : H2 l2 = some (.lst (xs.map V.int)) := b2 _ _ ((upd_ne nl2).trans ((upd_ne nl2d).trans upd_same)) nl2
  have s3 : Same H1 H2 := fun b o e => by
    have e1 := s2 b o e
    exact b2 b o ((upd_ne (ne_of_none e1 hx)).trans ((upd_ne (ne_of_none e1 hdx)).trans e1)) (ne_of_none e1 hx)
  have k1 := s3 _ _ h1
  walk_at "rd"
  refine r_neL (toL k2) (toL k1) ?_
  walk_at "rd"
  refine r_ifnd (fun hno => absurd rfl hno) (fun _ => ?_)
  walk_at "rd"
  refine r_ifnd (fun hno => absurd rfl hno) (fun _ => ?_)
  walk_at "rd"
  refine r_ifnd (fun hno => absurd rfl hno) (fun _ => ?_)
  walk_at "rd"
  refine r_ifnd (fun hno => absurd rfl hno) (fun _ => ?_)
  walk_at "rd"
  refine ⟨ty_list (toL k2), ?_⟩
  walk_at "rd"
  refine r_append k2 (by rw [List.length_map]; have := okSizes_len hok; exact small1000 (by omega)) ?_
  have n23 : x ≠ l2 := nl2.symm
  have n13 : l ≠ l2 := ne_of_none h1 hl2
  have n33 : l3 ≠ l2 := fun e => by
    have hh : upd (upd (upd H1 l2 (HO.lst (List.map V.int xs))) dx (HO.own x)) x (HO.ins A.c_Plan dx []) l2 = some (.lst (xs.map V.int)) := (upd_ne nl2).trans ((upd_ne nl2d).trans upd_same)
    rw [e, hh] at hl3
    cases hl3
  walk_at "rd"
  refine r_fldR ((upd_ne n23).trans hp) na.cl_Plan na.na_Plan_pages (pf_pages _ _ _) ?_
  walk_at "rd"
  refine ⟨_, rfl, rfl, ?_⟩
  walk_at "rd"
  refine r_ifF ?_
  walk_at "rd"
  refine r_fldR ((upd_ne n23).trans hp) na.cl_Plan na.na_Plan_length (pf_length _ _ _) ?_
  walk_at "rd"
  refine ⟨_, rfl, rfl, ?_⟩
  walk_at "rd"
  refine r_ifF ?_
  walk_at "rd"
  refine r_fldR ((upd_ne n23).trans hp) na.cl_Plan na.na_Plan_sizes (pf_sizes _ _ _) ?_
  walk_at "rd"
  refine isi_LL ((upd_ne n33).trans hl3') ?_
  walk_at "rd"
  refine r_ifF ?_
  walk_at "rd"
  refine r_fldR ((upd_ne n23).trans hp) na.cl_Plan na.na_Plan_pages (pf_pages _ _ _) ?_
  walk_at "rd"
  refine r_ifd (fun _ => ?_) (fun hno => absurd rfl hno)
  walk_at "rd"
  refine r_fldR ((upd_ne n23).trans hp) na.cl_Plan na.na_Plan_length (pf_length _ _ _) ?_
  walk_at "rd"
  refine r_ifd (fun _ => ?_) (fun hno => absurd rfl hno)
  walk_at "rd"
  refine r_fldR ((upd_ne n23).trans hp) na.cl_Plan na.na_Plan_sizes (pf_sizes _ _ _) ?_
  walk_at "rd"
  refine r_eqL (toL ((upd_ne n33).trans hl3')) (toL ((upd_ne n13).trans k1)) ?_
  walk_at "rd"
  rw [decide_eq_true rfl]
  exact q _
end

def top (i : Nat) : Stmt := PySem.Challenge.pw_slabroom_k02_plans.main.body.getD i (.Pass ⟨0, 0, 0, 0⟩)
abbrev s_is_whole : Stmt := top 14
abbrev s_is_within : Stmt := top 15
abbrev s_check_sizes : Stmt := top 16
abbrev s_Plan_init : Stmt := inClass (top 17) 0
abbrev s_l_cell_at : Stmt := top 19
abbrev s_l_whole : Stmt := top 20
abbrev s_l_sizes_by : Stmt := top 21
abbrev s_l_refused : Stmt := top 22
abbrev s_l_bad_sizes : Stmt := top 23
abbrev s_l_wrong : Stmt := top 24
abbrev s_law : Stmt := top 25

structure Txt (A : Ad) (mg : Str → Option Value) where
  f_is_whole : Addr
  fd_is_whole : FuncData
  F_is_whole : Fun A.K "is_whole" "is_whole" s_is_whole f_is_whole fd_is_whole
  b_is_whole : Binds A.K fd_is_whole ["number"] []
  g_is_whole : mg "is_whole" = some (.ref f_is_whole)
  k_is_whole : PySem.W.keepIn A.K (.ref f_is_whole) = true
  f_is_within : Addr
  fd_is_within : FuncData
  F_is_within : Fun A.K "is_within" "is_within" s_is_within f_is_within fd_is_within
  b_is_within : Binds A.K fd_is_within ["number", "least", "most"] []
  g_is_within : mg "is_within" = some (.ref f_is_within)
  k_is_within : PySem.W.keepIn A.K (.ref f_is_within) = true
  f_check_sizes : Addr
  fd_check_sizes : FuncData
  F_check_sizes : Fun A.K "check_sizes" "check_sizes" s_check_sizes f_check_sizes fd_check_sizes
  b_check_sizes : Binds A.K fd_check_sizes ["sizes", "length"] []
  g_check_sizes : mg "check_sizes" = some (.ref f_check_sizes)
  k_check_sizes : PySem.W.keepIn A.K (.ref f_check_sizes) = true
  f_Plan_init : Addr
  fd_Plan_init : FuncData
  F_Plan_init : Fun A.K "__init__" "Plan.__init__" s_Plan_init f_Plan_init fd_Plan_init
  b_Plan_init : Binds A.K fd_Plan_init ["self", "pages", "length", "sizes"] []
  mk_Plan : Mk A.K A.c_Plan f_Plan_init
  f_l_cell_at : Addr
  fd_l_cell_at : FuncData
  F_l_cell_at : Fun A.K "_law_cell_at" "_law_cell_at" s_l_cell_at f_l_cell_at fd_l_cell_at
  b_l_cell_at : Binds A.K fd_l_cell_at ["_law_script", "_law_k"] []
  g_l_cell_at : mg "_law_cell_at" = some (.ref f_l_cell_at)
  k_l_cell_at : PySem.W.keepIn A.K (.ref f_l_cell_at) = true
  f_l_whole : Addr
  fd_l_whole : FuncData
  F_l_whole : Fun A.K "_law_whole" "_law_whole" s_l_whole f_l_whole fd_l_whole
  b_l_whole : Binds A.K fd_l_whole ["_law_found"] []
  g_l_whole : mg "_law_whole" = some (.ref f_l_whole)
  k_l_whole : PySem.W.keepIn A.K (.ref f_l_whole) = true
  f_l_sizes_by : Addr
  fd_l_sizes_by : FuncData
  F_l_sizes_by : Fun A.K "_law_sizes_by" "_law_sizes_by" s_l_sizes_by f_l_sizes_by fd_l_sizes_by
  b_l_sizes_by : Binds A.K fd_l_sizes_by ["_law_cell", "_law_length", "_law_many"] []
  g_l_sizes_by : mg "_law_sizes_by" = some (.ref f_l_sizes_by)
  k_l_sizes_by : PySem.W.keepIn A.K (.ref f_l_sizes_by) = true
  f_l_refused : Addr
  fd_l_refused : FuncData
  F_l_refused : Fun A.K "_law_refused" "_law_refused" s_l_refused f_l_refused fd_l_refused
  b_l_refused : Binds A.K fd_l_refused ["_law_pages", "_law_length", "_law_sizes", "_law_way"] []
  g_l_refused : mg "_law_refused" = some (.ref f_l_refused)
  k_l_refused : PySem.W.keepIn A.K (.ref f_l_refused) = true
  f_l_bad_sizes : Addr
  fd_l_bad_sizes : FuncData
  F_l_bad_sizes : Fun A.K "_law_bad_sizes" "_law_bad_sizes" s_l_bad_sizes f_l_bad_sizes fd_l_bad_sizes
  b_l_bad_sizes : Binds A.K fd_l_bad_sizes ["_law_sizes", "_law_length", "_law_cell"] []
  g_l_bad_sizes : mg "_law_bad_sizes" = some (.ref f_l_bad_sizes)
  k_l_bad_sizes : PySem.W.keepIn A.K (.ref f_l_bad_sizes) = true
  f_l_wrong : Addr
  fd_l_wrong : FuncData
  F_l_wrong : Fun A.K "_law_wrong" "_law_wrong" s_l_wrong f_l_wrong fd_l_wrong
  b_l_wrong : Binds A.K fd_l_wrong ["_law_pages", "_law_length", "_law_sizes", "_law_cell"] []
  g_l_wrong : mg "_law_wrong" = some (.ref f_l_wrong)
  k_l_wrong : PySem.W.keepIn A.K (.ref f_l_wrong) = true
  f_law : Addr
  fd_law : FuncData
  F_law : Fun A.K "law" "law" s_law f_law fd_law
  b_law : Binds A.K fd_law ["_law_script"] []
  g_law : mg "law" = some (.ref f_law)
  k_law : PySem.W.keepIn A.K (.ref f_law) = true
  cl_Plan : Cls A.K A.c_Plan
  g_Plan : mg "Plan" = some (.ref A.c_Plan)
  na : NA A
  g_RoomError : mg "RoomError" = some (.ref A.c_RoomError)
  x_RoomError : PySem.W.excIn A.K A.c_RoomError [.type "ValueError", .type "Exception", .type "BaseException", .type "object"] "ValueError.__new__" = true
  k_RoomError : PySem.W.keepIn A.K (.ref A.c_RoomError) = true
  bs_RoomError : PySem.W.subIn A.K (.ref A.c_RoomError) (.type "BaseException") = some true
  ty_RoomError : PySem.W.typeIn A.K (.ref A.c_RoomError) = some (.type "type")
  g_BadPlan : mg "BadPlan" = some (.ref A.c_BadPlan)
  x_BadPlan : PySem.W.excIn A.K A.c_BadPlan [.type "ValueError", .type "Exception", .type "BaseException", .type "object"] "ValueError.__new__" = true
  k_BadPlan : PySem.W.keepIn A.K (.ref A.c_BadPlan) = true
  bs_BadPlan : PySem.W.subIn A.K (.ref A.c_BadPlan) (.type "BaseException") = some true
  ty_BadPlan : PySem.W.typeIn A.K (.ref A.c_BadPlan) = some (.type "type")
  g_BadWish : mg "BadWish" = some (.ref A.c_BadWish)
  x_BadWish : PySem.W.excIn A.K A.c_BadWish [.type "ValueError", .type "Exception", .type "BaseException", .type "object"] "ValueError.__new__" = true
  k_BadWish : PySem.W.keepIn A.K (.ref A.c_BadWish) = true
  bs_BadWish : PySem.W.subIn A.K (.ref A.c_BadWish) (.type "BaseException") = some true
  ty_BadWish : PySem.W.typeIn A.K (.ref A.c_BadWish) = some (.type "type")
  g_TooLarge : mg "TooLarge" = some (.ref A.c_TooLarge)
  x_TooLarge : PySem.W.excIn A.K A.c_TooLarge [.type "ValueError", .type "Exception", .type "BaseException", .type "object"] "ValueError.__new__" = true
  k_TooLarge : PySem.W.keepIn A.K (.ref A.c_TooLarge) = true
  bs_TooLarge : PySem.W.subIn A.K (.ref A.c_TooLarge) (.type "BaseException") = some true
  ty_TooLarge : PySem.W.typeIn A.K (.ref A.c_TooLarge) = some (.type "type")
  g_NoSize : mg "NoSize" = some (.ref A.c_NoSize)
  x_NoSize : PySem.W.excIn A.K A.c_NoSize [.type "ValueError", .type "Exception", .type "BaseException", .type "object"] "ValueError.__new__" = true
  k_NoSize : PySem.W.keepIn A.K (.ref A.c_NoSize) = true
  bs_NoSize : PySem.W.subIn A.K (.ref A.c_NoSize) (.type "BaseException") = some true
  ty_NoSize : PySem.W.typeIn A.K (.ref A.c_NoSize) = some (.type "type")
  g_NoRoom : mg "NoRoom" = some (.ref A.c_NoRoom)
  x_NoRoom : PySem.W.excIn A.K A.c_NoRoom [.type "ValueError", .type "Exception", .type "BaseException", .type "object"] "ValueError.__new__" = true
  k_NoRoom : PySem.W.keepIn A.K (.ref A.c_NoRoom) = true
  bs_NoRoom : PySem.W.subIn A.K (.ref A.c_NoRoom) (.type "BaseException") = some true
  ty_NoRoom : PySem.W.typeIn A.K (.ref A.c_NoRoom) = some (.type "type")
  g_NotOut : mg "NotOut" = some (.ref A.c_NotOut)
  x_NotOut : PySem.W.excIn A.K A.c_NotOut [.type "ValueError", .type "Exception", .type "BaseException", .type "object"] "ValueError.__new__" = true
  k_NotOut : PySem.W.keepIn A.K (.ref A.c_NotOut) = true
  bs_NotOut : PySem.W.subIn A.K (.ref A.c_NotOut) (.type "BaseException") = some true
  ty_NotOut : PySem.W.typeIn A.K (.ref A.c_NotOut) = some (.type "type")
  g_OutOfThing : mg "OutOfThing" = some (.ref A.c_OutOfThing)
  x_OutOfThing : PySem.W.excIn A.K A.c_OutOfThing [.type "ValueError", .type "Exception", .type "BaseException", .type "object"] "ValueError.__new__" = true
  k_OutOfThing : PySem.W.keepIn A.K (.ref A.c_OutOfThing) = true
  bs_OutOfThing : PySem.W.subIn A.K (.ref A.c_OutOfThing) (.type "BaseException") = some true
  ty_OutOfThing : PySem.W.typeIn A.K (.ref A.c_OutOfThing) = some (.type "type")
  n_ValueError : mg "ValueError" = none
  n_bool : mg "bool" = none
  n_int : mg "int" = none
  n_isinstance : mg "isinstance" = none
  n_len : mg "len" = none
  n_list : mg "list" = none
  n_range : mg "range" = none
  n_tuple : mg "tuple" = none
  tk_MOST_LENGTH : Tok
  v_MOST_LENGTH : mg "MOST_LENGTH" = some (.int 60 tk_MOST_LENGTH)
  tk_MOST_PAGES : Tok
  v_MOST_PAGES : mg "MOST_PAGES" = some (.int 40 tk_MOST_PAGES)
  tk_MOST_SIZES : Tok
  v_MOST_SIZES : mg "MOST_SIZES" = some (.int 8 tk_MOST_SIZES)

theorem sc_is_whole : FnScope ["number"] ["number"] (defScope s_is_whole) := ⟨rfl, rfl, rfl, by decide +kernel, rfl, by decide +kernel, by decide +kernel⟩
theorem sc_is_within : FnScope ["number", "least", "most"] ["number", "least", "most"] (defScope s_is_within) := ⟨rfl, rfl, rfl, by decide +kernel, rfl, by decide +kernel, by decide +kernel⟩
theorem sc_check_sizes : FnScope ["sizes", "length", "ahead", "size"] ["sizes", "length"] (defScope s_check_sizes) := ⟨rfl, rfl, rfl, by decide +kernel, rfl, by decide +kernel, by decide +kernel⟩
theorem sc_Plan_init : FnScope ["self", "pages", "length", "sizes"] ["self", "pages", "length", "sizes"] (defScope s_Plan_init) := ⟨rfl, rfl, rfl, by decide +kernel, rfl, by decide +kernel, by decide +kernel⟩
theorem sc_l_cell_at : FnScope ["_law_script", "_law_k"] ["_law_script", "_law_k"] (defScope s_l_cell_at) := ⟨rfl, rfl, rfl, by decide +kernel, rfl, by decide +kernel, by decide +kernel⟩
theorem sc_l_whole : FnScope ["_law_found"] ["_law_found"] (defScope s_l_whole) := ⟨rfl, rfl, rfl, by decide +kernel, rfl, by decide +kernel, by decide +kernel⟩
theorem sc_l_sizes_by : FnScope ["_law_cell", "_law_length", "_law_many", "_law_found", "_law_before", "_law_rest", "_law_span", "_law_turn"] ["_law_cell", "_law_length", "_law_many"] (defScope s_l_sizes_by) := ⟨rfl, rfl, rfl, by decide +kernel, rfl, by decide +kernel, by decide +kernel⟩
theorem sc_l_refused : FnScope ["_law_pages", "_law_length", "_law_sizes", "_law_way", "e"] ["_law_pages", "_law_length", "_law_sizes", "_law_way"] (defScope s_l_refused) := ⟨rfl, rfl, rfl, by decide +kernel, rfl, by decide +kernel, by decide +kernel⟩
theorem sc_l_bad_sizes : FnScope ["_law_sizes", "_law_length", "_law_cell", "_law_at", "_law_before", "_law_wrong_here"] ["_law_sizes", "_law_length", "_law_cell"] (defScope s_l_bad_sizes) := ⟨rfl, rfl, rfl, by decide +kernel, rfl, by decide +kernel, by decide +kernel⟩
theorem sc_l_wrong : FnScope ["_law_pages", "_law_length", "_law_sizes", "_law_cell", "_law_more"] ["_law_pages", "_law_length", "_law_sizes", "_law_cell"] (defScope s_l_wrong) := ⟨rfl, rfl, rfl, by decide +kernel, rfl, by decide +kernel, by decide +kernel⟩
theorem sc_law : FnScope ["_law_script", "_law_pages", "_law_length", "_law_sizes", "_law_kind", "_law_wrong_here", "_law_handed", "_law_plan"] ["_law_script"] (defScope s_law) := ⟨rfl, rfl, rfl, by decide +kernel, rfl, by decide +kernel, by decide +kernel⟩
section
variable {P : Program} {w : World} {A : Ad} {mg : Str → Option Value} {base : Heap}
theorem ok_is_whole (T : Txt A mg) : FnOk P w A.K mg base CX0 1 T.f_is_whole T.fd_is_whole ["number"] (sp_is_whole A) := by
  refine T.F_is_whole.ok sc_is_whole (fun vs H Q E h => len_is_whole A h) (fun cdv Ar outer s H vs Q E hr h => ⟨t_is_whole A E, ?_, pure_is_whole A T.na vs H Q E h⟩)
  have hu64 := hr.units
  have hu65 := hu65_of hr
  exact (pss_one (ps_ret (by exact (pe_and (pe_callB call_isi (by rfl) T.n_isinstance (by decide +kernel) (pa_cons (pv 0) (pa_cons (pe_bltn (v := .ty "int") rfl T.n_int (by decide +kernel) rfl) pa_nil))) (pe_one (pe_not (pe_callB call_isi (by rfl) T.n_isinstance (by decide +kernel) (pa_cons (pv 0) (pa_cons (pe_bltn (v := .ty "bool") rfl T.n_bool (by decide +kernel) rfl) pa_nil)))))))))
theorem ok_l_cell_at (T : Txt A mg) : FnOk P w A.K mg base CX0 1 T.f_l_cell_at T.fd_l_cell_at ["_law_script", "_law_k"] (sp_l_cell_at A) := by
  refine T.F_l_cell_at.ok sc_l_cell_at (fun vs H Q E h => len_l_cell_at A h) (fun cdv Ar outer s H vs Q E hr h => ⟨t_l_cell_at A E, ?_, pure_l_cell_at A T.na vs H Q E h⟩)
  have hu64 := hr.units
  have hu65 := hu65_of hr
  exact (pss_cons (ps_if (by exact (pt_cmpR op_ltA (pv 1) (pe_callB call_lenA (by rfl) T.n_len (by decide +kernel) (pa_cons (pv 0) pa_nil)) (nomark _)))
    (pss_one (ps_ret (by exact (pe_ix ix_A (pv 0) (pv 1) (fun _ _ => rfl)))))
    pss_nil)
  (pss_one (ps_ret (by exact pe_int))))
theorem ok_l_whole (T : Txt A mg) : FnOk P w A.K mg base CX0 1 T.f_l_whole T.fd_l_whole ["_law_found"] (sp_l_whole A) := by
  refine T.F_l_whole.ok sc_l_whole (fun vs H Q E h => len_l_whole A h) (fun cdv Ar outer s H vs Q E hr h => ⟨t_l_whole A E, ?_, pure_l_whole A T.na vs H Q E h⟩)
  have hu64 := hr.units
  have hu65 := hu65_of hr
  exact (pss_one (ps_ret (by exact (pe_and (pe_callB call_isi (by rfl) T.n_isinstance (by decide +kernel) (pa_cons (pv 0) (pa_cons (pe_bltn (v := .ty "int") rfl T.n_int (by decide +kernel) rfl) pa_nil))) (pe_one (pe_not (pe_callB call_isi (by rfl) T.n_isinstance (by decide +kernel) (pa_cons (pv 0) (pa_cons (pe_bltn (v := .ty "bool") rfl T.n_bool (by decide +kernel) rfl) pa_nil)))))))))
theorem ok_l_sizes_by (T : Txt A mg) : FnOk P w A.K mg base CX0 1 T.f_l_sizes_by T.fd_l_sizes_by ["_law_cell", "_law_length", "_law_many"] (sp_l_sizes_by A) := by
  refine T.F_l_sizes_by.ok sc_l_sizes_by (fun vs H Q E h => len_l_sizes_by A h) (fun cdv Ar outer s H vs Q E hr h => ⟨t_l_sizes_by A E, ?_, pure_l_sizes_by A T.na vs H Q E h⟩)
  have hu64 := hr.units
  have hu65 := hu65_of hr
  exact (pss_cons (ps_set (i := 3) sc_l_sizes_by.nd rfl (Or.inl rfl) (by exact (pe_lst pa_nil)))
  (pss_cons (ps_set (i := 4) sc_l_sizes_by.nd rfl (Or.inl rfl) (by exact pe_int))
  (pss_cons (ps_set (i := 5) sc_l_sizes_by.nd rfl (Or.inl rfl) (by exact (pe_op op_divA (pv 0) pe_int)))
  (pss_cons (ps_set (i := 6) sc_l_sizes_by.nd rfl (Or.inl rfl) (by exact pe_int))
  (pss_cons (ps_if (by exact (pt_cmpR (op_eqA hu64) (pe_op op_modA (pv 0) pe_int) pe_int (nomark _)))
    (pss_one (ps_set (i := 6) sc_l_sizes_by.nd rfl (Or.inl rfl) (by exact (pv 1))))
    pss_nil)
  (pss_cons (ps_for PassesOwn.never rfl (pi_range1 (by rfl) T.n_range (pa_cons (pv 2) pa_nil)) (pg_name (i := 7) sc_l_sizes_by.nd rfl (Or.inl rfl))
    (pss_cons (ps_set (i := 4) sc_l_sizes_by.nd rfl (Or.inl rfl) (by exact (pe_op op_addA (pe_op op_addA (pv 4) pe_int) (pe_op op_modA (pv 5) (pv 6)))))
    (pss_cons (ps_set (i := 5) sc_l_sizes_by.nd rfl (Or.inl rfl) (by exact (pe_op op_divA (pv 5) (pv 6))))
    (pss_one (ps_if (by exact (pt_cmpR op_leA (pv 4) (pv 1) (nomark _)))
      (pss_one (ps_expr (by exact (pe_bm PySem.F.plainAttrs_list PySem.F.slot_list_append PySem.F.type_list_append mt_append (pv 3) (pa_cons (pv 4) pa_nil)))))
      pss_nil)))))
  (pss_cons (ps_if (by exact (pt_cmpR (op_eqA hu64) (pv 3) (pe_lst pa_nil) (nomark _)))
    (pss_one (ps_expr (by exact (pe_bm PySem.F.plainAttrs_list PySem.F.slot_list_append PySem.F.type_list_append mt_append (pv 3) (pa_cons (pv 1) pa_nil)))))
    pss_nil)
  (pss_one (ps_ret (by exact (pv 3)))))))))))
theorem ok_l_bad_sizes (T : Txt A mg) : FnOk P w A.K mg base CX0 1 T.f_l_bad_sizes T.fd_l_bad_sizes ["_law_sizes", "_law_length", "_law_cell"] (sp_l_bad_sizes A) := by
  refine T.F_l_bad_sizes.ok sc_l_bad_sizes (fun vs H Q E h => len_l_bad_sizes A h) (fun cdv Ar outer s H vs Q E hr h => ⟨t_l_bad_sizes A E, ?_, pure_l_bad_sizes A T.na vs H Q E h⟩)
  have hu64 := hr.units
  have hu65 := hu65_of hr
  exact (pss_cons (ps_set (i := 3) sc_l_bad_sizes.nd rfl (Or.inl rfl) (by exact (pe_op op_modA (pe_op op_divA (pv 2) pe_int) (pe_callB call_lenA (by rfl) T.n_len (by decide +kernel) (pa_cons (pv 0) pa_nil)))))
  (pss_cons (ps_set (i := 4) sc_l_bad_sizes.nd rfl (Or.inl rfl) (by exact pe_int))
  (pss_cons (ps_if (by exact (pt_cmpR op_gtA (pv 3) pe_int (nomark _)))
    (pss_one (ps_set (i := 4) sc_l_bad_sizes.nd rfl (Or.inl rfl) (by exact (pe_ix ix_A (pv 0) (pe_op op_subA (pv 3) pe_int) (fun _ _ => rfl)))))
    pss_nil)
  (pss_cons (ps_set (i := 5) sc_l_bad_sizes.nd rfl (Or.inl rfl) (by exact (pe_ix ix_A (pe_lst (pa_cons (pv 4) (pa_cons (pe_op op_subA (pe_op op_subA (pv 4) pe_int) (pe_op op_modA (pe_op op_divA (pv 2) pe_int) pe_int)) (pa_cons (pe_op op_addA (pe_op op_addA (pv 1) pe_int) (pe_op op_modA (pe_op op_divA (pv 2) pe_int) pe_int)) (pa_cons pe_bl (pa_cons pe_str (pa_cons pe_int (pa_cons pe_non pa_nil)))))))) (pe_op op_modA (pv 2) pe_int) (fun _ _ => rfl))))
  (pss_one (ps_ret (by exact (pe_op op_addA (pe_op op_addA (pe_slice sl_list (pv 0) po_none (po_some (pv 3))) (pe_lst (pa_cons (pv 5) pa_nil))) (pe_slice sl_list (pv 0) (po_some (pe_op op_addA (pv 3) pe_int)) po_none)))))))))
theorem ok_is_within (T : Txt A mg) : FnOk P w A.K mg base CX0 2 T.f_is_within T.fd_is_within ["number", "least", "most"] (sp_is_within A) := by
  refine T.F_is_within.ok sc_is_within (fun vs H Q E h => len_is_within A h) (fun cdv Ar outer s H vs Q E hr h => ⟨t_is_within A E, ?_, pure_is_within A T.na vs H Q E h⟩)
  have hu64 := hr.units
  have hu65 := hu65_of hr
  exact (pss_one (ps_ret (by exact (pe_and (pe_call (ok_is_whole T) (hr.mono (by decide)) rfl T.g_is_whole T.k_is_whole T.b_is_whole .nil pass0 (pa_cons (pv 0) pa_nil)) (pe_one (pe_chain op_leA op_leA (pv 1) (pv 0) (pv 2)))))))
theorem ok_l_wrong (T : Txt A mg) : FnOk P w A.K mg base CX0 2 T.f_l_wrong T.fd_l_wrong ["_law_pages", "_law_length", "_law_sizes", "_law_cell"] (sp_l_wrong A) := by
  refine T.F_l_wrong.ok sc_l_wrong (fun vs H Q E h => len_l_wrong A h) (fun cdv Ar outer s H vs Q E hr h => ⟨t_l_wrong A E, ?_, pure_l_wrong A T.na vs H Q E h⟩)
  have hu64 := hr.units
  have hu65 := hu65_of hr
  exact (pss_cons (ps_set (i := 4) sc_l_wrong.nd rfl (Or.inl rfl) (by exact (pe_op op_divA (pv 3) pe_int)))
  (pss_cons (ps_if (by exact (pt_cmpR (op_eqA hu64) (pe_op op_modA (pv 3) pe_int) pe_int (nomark _)))
    (pss_one (ps_ret (by exact (pe_tup (pa_cons (pe_ix ix_A (pe_lst (pa_cons pe_int (pa_cons (pe_un un_neg (pv 4)) (pa_cons (pe_op op_addA pe_int (pv 4)) (pa_cons pe_bl (pa_cons pe_str (pa_cons pe_non pa_nil))))))) (pe_op op_modA (pv 4) pe_int) (fun _ _ => rfl)) (pa_cons (pv 1) (pa_cons (pv 2) pa_nil)))))))
    pss_nil)
  (pss_cons (ps_if (by exact (pt_cmpR (op_eqA hu64) (pe_op op_modA (pv 3) pe_int) pe_int (nomark _)))
    (pss_one (ps_ret (by exact (pe_tup (pa_cons (pv 0) (pa_cons (pe_ix ix_A (pe_lst (pa_cons pe_int (pa_cons (pe_un un_neg (pv 4)) (pa_cons (pe_op op_addA pe_int (pv 4)) (pa_cons pe_bl (pa_cons pe_str (pa_cons pe_non pa_nil))))))) (pe_op op_modA (pv 4) pe_int) (fun _ _ => rfl)) (pa_cons (pv 2) pa_nil)))))))
    pss_nil)
  (pss_cons (ps_if (by exact (pt_cmpR (op_eqA hu64) (pe_op op_modA (pv 4) pe_int) pe_int (nomark _)))
    (pss_one (ps_ret (by exact (pe_tup (pa_cons (pv 0) (pa_cons pe_int (pa_cons (pe_ix ix_A (pe_lst (pa_cons (pe_lst pa_nil) (pa_cons (pe_listRg rfl (by rfl) T.n_list (prg_2 (by rfl) T.n_range pe_int pe_int)) (pa_cons pe_str (pa_cons pe_non (pa_cons (pe_callTy call_tupA (by rfl) T.n_tuple (by decide +kernel) (pa_cons (pv 2) pa_nil)) (pa_cons (pe_callTy call_tupA (by rfl) T.n_tuple (by decide +kernel) (pa_cons (pv 2) pa_nil)) pa_nil))))))) (pe_op op_modA (pe_op op_divA (pv 4) pe_int) pe_int) (fun _ _ => rfl)) pa_nil)))))))
    pss_nil)
  (pss_one (ps_ret (by exact (pe_tup (pa_cons (pv 0) (pa_cons (pv 1) (pa_cons (pe_call (ok_l_bad_sizes T) (hr.mono (by decide)) rfl T.g_l_bad_sizes T.k_l_bad_sizes T.b_l_bad_sizes .nil pass0 (pa_cons (pv 2) (pa_cons (pv 1) (pa_cons (pe_op op_divA (pv 4) pe_int) pa_nil)))) pa_nil)))))))))))
theorem ok_check_sizes (T : Txt A mg) : FnOk P w A.K mg base (L2.CX P w) 3 T.f_check_sizes T.fd_check_sizes ["sizes", "length"] (sp_check_sizes A) := by
  refine T.F_check_sizes.okX sc_check_sizes (fun vs H Q E h => len_check_sizes A h) (fun cdv Ar outer s H vs Q E hr h => ⟨t_check_sizes A E, ?_, pure_check_sizes A T.na vs H Q E h⟩)
  have hu64 := hr.units
  have hu65 := hu65_of hr
  have tk0 := takes_of (X := cxOf (L2.CX P w) P w A.K mg base ["sizes", "length", "ahead", "size"] "check_sizes" (defScope s_check_sizes) T.f_check_sizes cdv Ar outer s H E) rfl rfl rfl rfl
  have po0 := passes_of (X := cxOf (L2.CX P w) P w A.K mg base ["sizes", "length", "ahead", "size"] "check_sizes" (defScope s_check_sizes) T.f_check_sizes cdv Ar outer s H E) rfl
  exact (pss_cons (ps_if (by exact (pt_not (pt_val (pe_callB call_isi (by rfl) T.n_isinstance (by decide +kernel) (pa_cons (pv 0) (pa_cons (pe_bltn (v := .ty "list") rfl T.n_list (by decide +kernel) rfl) pa_nil))))))
    (pss_one (ps_raise rfl tk0 (pmk_own PySem.F.excBase_ValueError T.x_BadPlan T.g_BadPlan T.k_BadPlan (raises_own T.bs_BadPlan T.ty_BadPlan) rfl)))
    pss_nil)
  (pss_cons (ps_if (by exact (pt_not (pt_val (pe_call (ok_is_within T) (hr.mono (by decide)) rfl T.g_is_within T.k_is_within T.b_is_within .nil pass0 (pa_cons (pe_callB call_lenA (by rfl) T.n_len (by decide +kernel) (pa_cons (pv 0) pa_nil)) (pa_cons pe_int (pa_cons (pe_glob (v := .int 8) (by rfl) T.v_MOST_SIZES ⟨_, rfl⟩) pa_nil)))))))
    (pss_one (ps_raise rfl tk0 (SkE.pmk_own1 PySem.F.excBase_ValueError T.x_BadPlan T.g_BadPlan T.k_BadPlan (raises_own T.bs_BadPlan T.ty_BadPlan) rfl (pe_joined (PJ.cons pe_str (PJ.cons (pe_fmt (pe_glob (v := .int 8) (by rfl) T.v_MOST_SIZES ⟨_, rfl⟩)) (PJ.cons pe_str PJ.nil)))))))
    pss_nil)
  (pss_cons (ps_set (i := 2) sc_check_sizes.nd rfl (Or.inl rfl) (by exact pe_int))
  (pss_one (ps_for po0 rfl (pi_list (pv 0)) (pg_name (i := 3) sc_check_sizes.nd rfl (Or.inl rfl))
    (pss_cons (ps_if (by exact (pt_not (pt_val (pe_call (ok_is_within T) (hr.mono (by decide)) rfl T.g_is_within T.k_is_within T.b_is_within .nil pass0 (pa_cons (pv 3) (pa_cons (pe_op op_addA (pv 2) pe_int) (pa_cons (pv 1) pa_nil)))))))
      (pss_one (ps_raise rfl tk0 (pmk_own PySem.F.excBase_ValueError T.x_BadPlan T.g_BadPlan T.k_BadPlan (raises_own T.bs_BadPlan T.ty_BadPlan) rfl)))
      pss_nil)
    (pss_one (ps_set (i := 2) sc_check_sizes.nd rfl (Or.inl rfl) (by exact (pv 3))))))))))
theorem ok_Plan_init (T : Txt A mg) : FnOk P w A.K mg base (L2.CX P w) 4 T.f_Plan_init T.fd_Plan_init ["self", "pages", "length", "sizes"] (sp_Plan_init A) := by
  refine T.F_Plan_init.okX sc_Plan_init (fun vs H Q E h => len_Plan_init A h) (fun cdv Ar outer s H vs Q E hr h => ⟨t_Plan_init A E, ?_, pure_Plan_init A T.na vs H Q E h⟩)
  have hu64 := hr.units
  have hu65 := hu65_of hr
  have tk0 := takes_of (X := cxOf (L2.CX P w) P w A.K mg base ["self", "pages", "length", "sizes"] "Plan.__init__" (defScope s_Plan_init) T.f_Plan_init cdv Ar outer s H E) rfl rfl rfl rfl
  exact (pss_cons (ps_if (by exact (pt_not (pt_val (pe_call (ok_is_within T) (hr.mono (by decide)) rfl T.g_is_within T.k_is_within T.b_is_within .nil pass0 (pa_cons (pv 1) (pa_cons pe_int (pa_cons (pe_glob (v := .int 40) (by rfl) T.v_MOST_PAGES ⟨_, rfl⟩) pa_nil)))))))
    (pss_one (ps_raise rfl tk0 (SkE.pmk_own1 PySem.F.excBase_ValueError T.x_BadPlan T.g_BadPlan T.k_BadPlan (raises_own T.bs_BadPlan T.ty_BadPlan) rfl (pe_joined (PJ.cons pe_str (PJ.cons (pe_fmt (pe_glob (v := .int 40) (by rfl) T.v_MOST_PAGES ⟨_, rfl⟩)) (PJ.cons pe_str PJ.nil)))))))
    pss_nil)
  (pss_cons (ps_if (by exact (pt_not (pt_val (pe_call (ok_is_within T) (hr.mono (by decide)) rfl T.g_is_within T.k_is_within T.b_is_within .nil pass0 (pa_cons (pv 2) (pa_cons pe_int (pa_cons (pe_glob (v := .int 60) (by rfl) T.v_MOST_LENGTH ⟨_, rfl⟩) pa_nil)))))))
    (pss_one (ps_raise rfl tk0 (SkE.pmk_own1 PySem.F.excBase_ValueError T.x_BadPlan T.g_BadPlan T.k_BadPlan (raises_own T.bs_BadPlan T.ty_BadPlan) rfl (pe_joined (PJ.cons pe_str (PJ.cons (pe_fmt (pe_glob (v := .int 60) (by rfl) T.v_MOST_LENGTH ⟨_, rfl⟩)) PJ.nil))))))
    pss_nil)
  (pss_cons (ps_expr (by exact (pe_call (ok_check_sizes T) (hr.mono (by decide)) rfl T.g_check_sizes T.k_check_sizes T.b_check_sizes .nil (passes_call tk0 (fun _ _ _ _ h => h)) (pa_cons (pv 3) (pa_cons (pv 2) pa_nil)))))
  (pss_cons (ps_fld (pv 0) (pv 1) rfl)
  (pss_cons (ps_fld (pv 0) (pv 2) rfl)
  (pss_one (ps_fld (pv 0) (pe_callTy call_listA (by rfl) T.n_list (by decide +kernel) (pa_cons (pv 3) pa_nil)) rfl)))))))
theorem ok_l_refused (T : Txt A mg) : FnOk P w A.K mg base CX0 6 T.f_l_refused T.fd_l_refused ["_law_pages", "_law_length", "_law_sizes", "_law_way"] (sp_l_refused A) := by
  refine T.F_l_refused.ok sc_l_refused (fun vs H Q E h => len_l_refused A h) (fun cdv Ar outer s H vs Q E hr h => ⟨t_l_refused A E, ?_, pure_l_refused A T.na vs H Q E h⟩)
  have hu64 := hr.units
  have hu65 := hu65_of hr
  exact (pss_cons (ps_if (by exact (pt_cmpR (op_eqA hu64) (pe_op op_modA (pv 3) pe_int) pe_int (nomark _)))
    (pss_cons (ps_try_only (tb := fun W0 => (tDrop (tMakeS A.c_Plan (sp_Plan_init A) (WE W0) (tCons (tVar 0) (tCons (tVar 1) (tCons (tVar 2) tNil)))))) (ts := fun _ _ _ => (tRet (tC (.bl true)))) (Wout := (fun _ _ _ _ => False)) rfl rfl ⟨rfl, by decide, Or.inl T.g_BadPlan⟩ takes0 (fun W0 pn xe tk1 _ => by exact (pss_one (ps_expr (by exact (pe_makeS T.mk_Plan (ok_Plan_init T) (hr.mono (by decide)) rfl T.g_Plan T.b_Plan_init (fun σ => passAt tk1 σ) (pa_cons (pv 0) (pa_cons (pv 1) (pa_cons (pv 2) pa_nil)))))))) (fun a oe cls d pn _ _ => by exact (pss_one (ps_ret (by exact pe_bl)))))
    (pss_one (ps_ret (by exact pe_bl))))
    pss_nil)
  (pss_cons (ps_try_as (i := 4) (tb := fun W0 => (tDrop (tMakeS A.c_Plan (sp_Plan_init A) (WE W0) (tCons (tVar 0) (tCons (tVar 1) (tCons (tVar 2) tNil)))))) (ts := fun a cls d => (tSeq (tIfS (tOr (tB (tCB (rIsEx A.K cls d a) (tCons (tVar 4) (tCons (tC (.ref A.c_BadWish)) tNil)))) (tOr (tB (tCB (rIsEx A.K cls d a) (tCons (tVar 4) (tCons (tC (.ref A.c_TooLarge)) tNil)))) (tB (tCB (rIsEx A.K cls d a) (tCons (tVar 4) (tCons (tC (.ref A.c_NoRoom)) tNil))))))
      (tRet (tC (.bl false)))
      tNext)
    (tSeq (tIfS (tOr (tB (tCB (rIsEx A.K cls d a) (tCons (tVar 4) (tCons (tC (.ref A.c_NotOut)) tNil)))) (tOr (tB (tCB (rIsEx A.K cls d a) (tCons (tVar 4) (tCons (tC (.ref A.c_OutOfThing)) tNil)))) (tB (tCB (rIsEx A.K cls d a) (tCons (tVar 4) (tCons (tC (.ref A.c_NoSize)) tNil))))))
      (tRet (tC (.bl false)))
      tNext)
    (tRet (tAndV (tCB (rIsEx A.K cls d a) (tCons (tVar 4) (tCons (tC (.ty "ValueError")) tNil))) (tCB (rIsEx A.K cls d a) (tCons (tVar 4) (tCons (tC (.ref A.c_BadPlan)) tNil)))))))) (Wout := (fun _ _ _ _ => False)) rfl rfl sc_l_refused.nd rfl rfl ⟨rfl, by decide, Or.inl T.g_RoomError⟩ takes0 (fun W0 pn xe tk1 _ => by exact (pss_one (ps_expr (by exact (pe_makeS T.mk_Plan (ok_Plan_init T) (hr.mono (by decide)) rfl T.g_Plan T.b_Plan_init (fun σ => passAt tk1 σ) (pa_cons (pv 0) (pa_cons (pv 1) (pa_cons (pv 2) pa_nil)))))))) (fun a oe cls d pn hz hf => by exact (pss_cons (ps_if (by exact (PW.pt (pw_or (pt_val (pe_callB (call_isEx hz hf) (by rfl) T.n_isinstance (by decide +kernel) (pa_cons (pv 4) (pa_cons (pe_glob rfl T.g_BadWish rfl) pa_nil)))) (pw_or (pt_val (pe_callB (call_isEx hz hf) (by rfl) T.n_isinstance (by decide +kernel) (pa_cons (pv 4) (pa_cons (pe_glob rfl T.g_TooLarge rfl) pa_nil)))) (pw_or1 (pt_val (pe_callB (call_isEx hz hf) (by rfl) T.n_isinstance (by decide +kernel) (pa_cons (pv 4) (pa_cons (pe_glob rfl T.g_NoRoom rfl) pa_nil)))))))))
      (pss_one (ps_ret (by exact pe_bl)))
      pss_nil)
    (pss_cons (ps_if (by exact (PW.pt (pw_or (pt_val (pe_callB (call_isEx hz hf) (by rfl) T.n_isinstance (by decide +kernel) (pa_cons (pv 4) (pa_cons (pe_glob rfl T.g_NotOut rfl) pa_nil)))) (pw_or (pt_val (pe_callB (call_isEx hz hf) (by rfl) T.n_isinstance (by decide +kernel) (pa_cons (pv 4) (pa_cons (pe_glob rfl T.g_OutOfThing rfl) pa_nil)))) (pw_or1 (pt_val (pe_callB (call_isEx hz hf) (by rfl) T.n_isinstance (by decide +kernel) (pa_cons (pv 4) (pa_cons (pe_glob rfl T.g_NoSize rfl) pa_nil)))))))))
      (pss_one (ps_ret (by exact pe_bl)))
      pss_nil)
    (pss_one (ps_ret (by exact (pe_and (pe_callB (call_isEx hz hf) (by rfl) T.n_isinstance (by decide +kernel) (pa_cons (pv 4) (pa_cons (pe_bltn (v := .ty "ValueError") rfl T.n_ValueError (by decide +kernel) rfl) pa_nil))) (pe_one (pe_callB (call_isEx hz hf) (by rfl) T.n_isinstance (by decide +kernel) (pa_cons (pv 4) (pa_cons (pe_glob rfl T.g_BadPlan rfl) pa_nil))))))))))))
  (pss_one (ps_ret (by exact pe_bl)))))
theorem ok_law (T : Txt A mg) : FnOk P w A.K mg base CX0 7 T.f_law T.fd_law ["_law_script"] (sp_law A) := by
  refine T.F_law.ok sc_law (fun vs H Q E h => len_law A h) (fun cdv Ar outer s H vs Q E hr h => ⟨t_law A E, ?_, pure_law A T.na vs H Q E h⟩)
  have hu64 := hr.units
  have hu65 := hu65_of hr
  exact (pss_cons (ps_set (i := 1) sc_law.nd rfl (Or.inl rfl) (by exact (pe_op op_addA pe_int (pe_op op_modA (pe_call (ok_l_cell_at T) (hr.mono (by decide)) rfl T.g_l_cell_at T.k_l_cell_at T.b_l_cell_at .nil pass0 (pa_cons (pv 0) (pa_cons pe_int pa_nil))) pe_int))))
  (pss_cons (ps_set (i := 2) sc_law.nd rfl (Or.inl rfl) (by exact (pe_op op_addA pe_int (pe_op op_modA (pe_call (ok_l_cell_at T) (hr.mono (by decide)) rfl T.g_l_cell_at T.k_l_cell_at T.b_l_cell_at .nil pass0 (pa_cons (pv 0) (pa_cons pe_int pa_nil))) pe_int))))
  (pss_cons (ps_set (i := 3) sc_law.nd rfl (Or.inl rfl) (by exact (pe_call (ok_l_sizes_by T) (hr.mono (by decide)) rfl T.g_l_sizes_by T.k_l_sizes_by T.b_l_sizes_by .nil pass0 (pa_cons (pe_call (ok_l_cell_at T) (hr.mono (by decide)) rfl T.g_l_cell_at T.k_l_cell_at T.b_l_cell_at .nil pass0 (pa_cons (pv 0) (pa_cons pe_int pa_nil))) (pa_cons (pv 2) (pa_cons (pe_op op_addA pe_int (pe_op op_modA (pe_call (ok_l_cell_at T) (hr.mono (by decide)) rfl T.g_l_cell_at T.k_l_cell_at T.b_l_cell_at .nil pass0 (pa_cons (pv 0) (pa_cons pe_int pa_nil))) pe_int)) pa_nil))))))
  (pss_cons (ps_set (i := 4) sc_law.nd rfl (Or.inl rfl) (by exact (pe_op op_modA (pe_call (ok_l_cell_at T) (hr.mono (by decide)) rfl T.g_l_cell_at T.k_l_cell_at T.b_l_cell_at .nil pass0 (pa_cons (pv 0) (pa_cons pe_int pa_nil))) pe_int)))
  (pss_cons (ps_if (by exact (pt_cmpR op_gtA (pe_op op_modA (pv 4) pe_int) pe_int (nomark _)))
    (pss_cons (ps_set (i := 5) sc_law.nd rfl (Or.inl rfl) (by exact (pe_call (ok_l_wrong T) (hr.mono (by decide)) rfl T.g_l_wrong T.k_l_wrong T.b_l_wrong .nil pass0 (pa_cons (pv 1) (pa_cons (pv 2) (pa_cons (pv 3) (pa_cons (pv 4) pa_nil)))))))
    (pss_one (ps_ret (by exact (pe_call (ok_l_refused T) (hr.mono (by decide)) rfl T.g_l_refused T.k_l_refused T.b_l_refused .nil pass0 (pa_cons (pe_ix ix_A (pv 5) pe_int (fun _ _ => rfl)) (pa_cons (pe_ix ix_A (pv 5) pe_int (fun _ _ => rfl)) (pa_cons (pe_ix ix_A (pv 5) pe_int (fun _ _ => rfl)) (pa_cons (pe_call (ok_l_cell_at T) (hr.mono (by decide)) rfl T.g_l_cell_at T.k_l_cell_at T.b_l_cell_at .nil pass0 (pa_cons (pv 0) (pa_cons pe_int pa_nil))) pa_nil)))))))))
    pss_nil)
  (pss_cons (ps_set (i := 6) sc_law.nd rfl (Or.inl rfl) (by exact (pe_callTy call_listA (by rfl) T.n_list (by decide +kernel) (pa_cons (pv 3) pa_nil))))
  (pss_cons (ps_set (i := 7) sc_law.nd rfl (Or.inl rfl) (by exact (pe_make T.mk_Plan (ok_Plan_init T) (hr.mono (by decide)) rfl T.g_Plan T.b_Plan_init .nil passL (pa_cons (pv 1) (pa_cons (pv 2) (pa_cons (pv 6) pa_nil))))))
  (pss_cons (ps_if (by exact (PW.pt (pw_or (pt_cmpR (op_neA hu64) (pv 6) (pv 3) (nomark _)) (pw_or (pt_cmpR (op_neA hu64) (pe_glob (v := .int 40) (by rfl) T.v_MOST_PAGES ⟨_, rfl⟩) pe_int (nomark _)) (pw_or (pt_cmpR (op_neA hu64) (pe_glob (v := .int 60) (by rfl) T.v_MOST_LENGTH ⟨_, rfl⟩) pe_int (nomark _)) (pw_or1 (pt_cmpR (op_neA hu64) (pe_glob (v := .int 8) (by rfl) T.v_MOST_SIZES ⟨_, rfl⟩) pe_int (nomark _))))))))
    (pss_one (ps_ret (by exact pe_bl)))
    pss_nil)
  (pss_cons (ps_expr (by exact (pe_bm PySem.F.plainAttrs_list PySem.F.slot_list_append PySem.F.type_list_append mt_append (pv 6) (pa_cons (pe_op op_addA (pv 2) pe_int) pa_nil))))
  (pss_cons (ps_if (by exact (PW.pt (pw_or (pt_not (pt_val (pe_call (ok_l_whole T) (hr.mono (by decide)) rfl T.g_l_whole T.k_l_whole T.b_l_whole .nil pass0 (pa_cons (pe_fld (pv 7) rfl) pa_nil)))) (pw_or (pt_not (pt_val (pe_call (ok_l_whole T) (hr.mono (by decide)) rfl T.g_l_whole T.k_l_whole T.b_l_whole .nil pass0 (pa_cons (pe_fld (pv 7) rfl) pa_nil)))) (pw_or1 (pt_not (pt_val (pe_callB call_isi (by rfl) T.n_isinstance (by decide +kernel) (pa_cons (pe_fld (pv 7) rfl) (pa_cons (pe_bltn (v := .ty "list") rfl T.n_list (by decide +kernel) rfl) pa_nil))))))))))
    (pss_one (ps_ret (by exact pe_bl)))
    pss_nil)
  (pss_one (ps_ret (by exact (pe_and (pe_cmpR (op_eqA hu64) (pe_fld (pv 7) rfl) (pv 1) (nomark _)) (pe_and (pe_cmpR (op_eqA hu64) (pe_fld (pv 7) rfl) (pv 2) (nomark _)) (pe_one (pe_cmpR (op_eqA hu64) (pe_fld (pv 7) rfl) (pv 3) (nomark _))))))))))))))))))
end

theorem all_mk {l : PySem.W.OpenLaw} {w : World} {K : PySem.W.Frag} {h : Heap} {mg : Str → Option Value} {fa : Addr} (X : K.In h) (G : h.Ns mainGlobals mg) (hfa : mg "law" = some (.ref fa))
    {f0 : Addr} {od0 an0 : Option Addr} {sl0 : Array (Option Value)} {oc0 kV0 dc0 pm0 cd0 ct0 : Value}
    {f1 : Addr} {od1 an1 : Option Addr} {sl1 : Array (Option Value)} {oc1 kV1 dc1 pm1 cd1 ct1 : Value}
    {f2 : Addr} {od2 an2 : Option Addr} {sl2 : Array (Option Value)} {oc2 kV2 dc2 pm2 cd2 ct2 : Value}
    {f3 : Addr} {od3 an3 : Option Addr} {sl3 : Array (Option Value)} {oc3 kV3 dc3 pm3 cd3 ct3 : Value}
    {f4 : Addr} {od4 an4 : Option Addr} {sl4 : Array (Option Value)} {oc4 kV4 dc4 pm4 cd4 ct4 : Value}
    {f5 : Addr} {od5 an5 : Option Addr} {sl5 : Array (Option Value)} {oc5 kV5 dc5 pm5 cd5 ct5 : Value}
    {f6 : Addr} {od6 an6 : Option Addr} {sl6 : Array (Option Value)} {oc6 kV6 dc6 pm6 cd6 ct6 : Value}
    {f7 : Addr} {od7 an7 : Option Addr} {sl7 : Array (Option Value)} {oc7 kV7 dc7 pm7 cd7 ct7 : Value}
    {f8 : Addr} {od8 an8 : Option Addr} {sl8 : Array (Option Value)} {oc8 kV8 dc8 pm8 cd8 ct8 : Value}
    {f9 : Addr} {od9 an9 : Option Addr} {sl9 : Array (Option Value)} {oc9 kV9 dc9 pm9 cd9 ct9 : Value}
    {f10 : Addr} {od10 an10 : Option Addr} {sl10 : Array (Option Value)} {oc10 kV10 dc10 pm10 cd10 ct10 : Value}
    {C_Plan : Addr}
    {C_RoomError : Addr}
    {C_BadPlan : Addr}
    {C_BadWish : Addr}
    {C_TooLarge : Addr}
    {C_NoSize : Addr}
    {C_NoRoom : Addr}
    {C_NotOut : Addr}
    {C_OutOfThing : Addr}
    {tk_MOST_LENGTH : Tok}
    {tk_MOST_PAGES : Tok}
    {tk_MOST_SIZES : Tok}
    (aC_Plan : PySem.W.nsIn K mainGlobals "Plan" = some (some (.ref C_Plan)))
    (aC_RoomError : PySem.W.nsIn K mainGlobals "RoomError" = some (some (.ref C_RoomError)))
    (aC_BadPlan : PySem.W.nsIn K mainGlobals "BadPlan" = some (some (.ref C_BadPlan)))
    (aC_BadWish : PySem.W.nsIn K mainGlobals "BadWish" = some (some (.ref C_BadWish)))
    (aC_TooLarge : PySem.W.nsIn K mainGlobals "TooLarge" = some (some (.ref C_TooLarge)))
    (aC_NoSize : PySem.W.nsIn K mainGlobals "NoSize" = some (some (.ref C_NoSize)))
    (aC_NoRoom : PySem.W.nsIn K mainGlobals "NoRoom" = some (some (.ref C_NoRoom)))
    (aC_NotOut : PySem.W.nsIn K mainGlobals "NotOut" = some (some (.ref C_NotOut)))
    (aC_OutOfThing : PySem.W.nsIn K mainGlobals "OutOfThing" = some (some (.ref C_OutOfThing)))
    (a0 : PySem.W.nsIn K mainGlobals "is_whole" = some (some (.ref f0)))
    (l0 : K.lookup f0 = some ⟨oc0, od0, .func (PySem.W.fnOf "is_whole" "is_whole" (defArgs s_is_whole) (defBody s_is_whole) (defScope s_is_whole) .none kV0 dc0 pm0 an0 cd0 ct0), sl0⟩)
    (c0 : PySem.W.codeIn K cd0 "is_whole" = true)
    (k0 : PySem.W.keepIn K (.ref f0) = true)
    (a1 : PySem.W.nsIn K mainGlobals "is_within" = some (some (.ref f1)))
    (l1 : K.lookup f1 = some ⟨oc1, od1, .func (PySem.W.fnOf "is_within" "is_within" (defArgs s_is_within) (defBody s_is_within) (defScope s_is_within) .none kV1 dc1 pm1 an1 cd1 ct1), sl1⟩)
    (c1 : PySem.W.codeIn K cd1 "is_within" = true)
    (k1 : PySem.W.keepIn K (.ref f1) = true)
    (a2 : PySem.W.nsIn K mainGlobals "check_sizes" = some (some (.ref f2)))
    (l2 : K.lookup f2 = some ⟨oc2, od2, .func (PySem.W.fnOf "check_sizes" "check_sizes" (defArgs s_check_sizes) (defBody s_check_sizes) (defScope s_check_sizes) .none kV2 dc2 pm2 an2 cd2 ct2), sl2⟩)
    (c2 : PySem.W.codeIn K cd2 "check_sizes" = true)
    (k2 : PySem.W.keepIn K (.ref f2) = true)
    (a3 : PySem.W.findIn K (.ref C_Plan) "__init__" = some (some (.ref f3)))
    (i3 : PySem.W.isFn K (.ref f3) = true)
    (l3 : K.lookup f3 = some ⟨oc3, od3, .func (PySem.W.fnOf "__init__" "Plan.__init__" (defArgs s_Plan_init) (defBody s_Plan_init) (defScope s_Plan_init) .none kV3 dc3 pm3 an3 cd3 ct3), sl3⟩)
    (c3 : PySem.W.codeIn K cd3 "Plan.__init__" = true)
    (k3 : PySem.W.keepIn K (.ref f3) = true)
    (a4 : PySem.W.nsIn K mainGlobals "_law_cell_at" = some (some (.ref f4)))
    (l4 : K.lookup f4 = some ⟨oc4, od4, .func (PySem.W.fnOf "_law_cell_at" "_law_cell_at" (defArgs s_l_cell_at) (defBody s_l_cell_at) (defScope s_l_cell_at) .none kV4 dc4 pm4 an4 cd4 ct4), sl4⟩)
    (c4 : PySem.W.codeIn K cd4 "_law_cell_at" = true)
    (k4 : PySem.W.keepIn K (.ref f4) = true)
    (a5 : PySem.W.nsIn K mainGlobals "_law_whole" = some (some (.ref f5)))
    (l5 : K.lookup f5 = some ⟨oc5, od5, .func (PySem.W.fnOf "_law_whole" "_law_whole" (defArgs s_l_whole) (defBody s_l_whole) (defScope s_l_whole) .none kV5 dc5 pm5 an5 cd5 ct5), sl5⟩)
    (c5 : PySem.W.codeIn K cd5 "_law_whole" = true)
    (k5 : PySem.W.keepIn K (.ref f5) = true)
    (a6 : PySem.W.nsIn K mainGlobals "_law_sizes_by" = some (some (.ref f6)))
    (l6 : K.lookup f6 = some ⟨oc6, od6, .func (PySem.W.fnOf "_law_sizes_by" "_law_sizes_by" (defArgs s_l_sizes_by) (defBody s_l_sizes_by) (defScope s_l_sizes_by) .none kV6 dc6 pm6 an6 cd6 ct6), sl6⟩)
    (c6 : PySem.W.codeIn K cd6 "_law_sizes_by" = true)
    (k6 : PySem.W.keepIn K (.ref f6) = true)
    (a7 : PySem.W.nsIn K mainGlobals "_law_refused" = some (some (.ref f7)))
    (l7 : K.lookup f7 = some ⟨oc7, od7, .func (PySem.W.fnOf "_law_refused" "_law_refused" (defArgs s_l_refused) (defBody s_l_refused) (defScope s_l_refused) .none kV7 dc7 pm7 an7 cd7 ct7), sl7⟩)
    (c7 : PySem.W.codeIn K cd7 "_law_refused" = true)
    (k7 : PySem.W.keepIn K (.ref f7) = true)
    (a8 : PySem.W.nsIn K mainGlobals "_law_bad_sizes" = some (some (.ref f8)))
    (l8 : K.lookup f8 = some ⟨oc8, od8, .func (PySem.W.fnOf "_law_bad_sizes" "_law_bad_sizes" (defArgs s_l_bad_sizes) (defBody s_l_bad_sizes) (defScope s_l_bad_sizes) .none kV8 dc8 pm8 an8 cd8 ct8), sl8⟩)
    (c8 : PySem.W.codeIn K cd8 "_law_bad_sizes" = true)
    (k8 : PySem.W.keepIn K (.ref f8) = true)
    (a9 : PySem.W.nsIn K mainGlobals "_law_wrong" = some (some (.ref f9)))
    (l9 : K.lookup f9 = some ⟨oc9, od9, .func (PySem.W.fnOf "_law_wrong" "_law_wrong" (defArgs s_l_wrong) (defBody s_l_wrong) (defScope s_l_wrong) .none kV9 dc9 pm9 an9 cd9 ct9), sl9⟩)
    (c9 : PySem.W.codeIn K cd9 "_law_wrong" = true)
    (k9 : PySem.W.keepIn K (.ref f9) = true)
    (a10 : PySem.W.nsIn K mainGlobals "law" = some (some (.ref f10)))
    (l10 : K.lookup f10 = some ⟨oc10, od10, .func (PySem.W.fnOf "law" "law" (defArgs s_law) (defBody s_law) (defScope s_law) .none kV10 dc10 pm10 an10 cd10 ct10), sl10⟩)
    (c10 : PySem.W.codeIn K cd10 "law" = true)
    (k10 : PySem.W.keepIn K (.ref f10) = true)
    (pg_Plan : PySem.W.plainGet K C_Plan Str.empty = true)
    (hd_Plan : PySem.W.hasDictIn K C_Plan = true)
    (po_Plan : PySem.W.plainOver K C_Plan = true)
    (sa_Plan : PySem.W.findIn K (.ref C_Plan) "__setattr__" = some (some (.builtin "object.__setattr__")))
    (mk_Plan : PySem.W.makesIn K C_Plan = true)
    (kc_Plan : PySem.W.keepIn K (.ref C_Plan) = true)
    (na_Plan_pages : PySem.W.findIn K (.ref C_Plan) "pages" = some none)
    (na_Plan_length : PySem.W.findIn K (.ref C_Plan) "length" = some none)
    (na_Plan_sizes : PySem.W.findIn K (.ref C_Plan) "sizes" = some none)
    (x_RoomError : PySem.W.excIn K C_RoomError [.type "ValueError", .type "Exception", .type "BaseException", .type "object"] "ValueError.__new__" = true)
    (ke_RoomError : PySem.W.keepIn K (.ref C_RoomError) = true)
    (bs_RoomError : PySem.W.subIn K (.ref C_RoomError) (.type "BaseException") = some true)
    (ty_RoomError : PySem.W.typeIn K (.ref C_RoomError) = some (.type "type"))
    (ic_RoomError : PySem.W.isClsIn K C_RoomError = true)
    (x_BadPlan : PySem.W.excIn K C_BadPlan [.type "ValueError", .type "Exception", .type "BaseException", .type "object"] "ValueError.__new__" = true)
    (ke_BadPlan : PySem.W.keepIn K (.ref C_BadPlan) = true)
    (bs_BadPlan : PySem.W.subIn K (.ref C_BadPlan) (.type "BaseException") = some true)
    (ty_BadPlan : PySem.W.typeIn K (.ref C_BadPlan) = some (.type "type"))
    (ic_BadPlan : PySem.W.isClsIn K C_BadPlan = true)
    (x_BadWish : PySem.W.excIn K C_BadWish [.type "ValueError", .type "Exception", .type "BaseException", .type "object"] "ValueError.__new__" = true)
    (ke_BadWish : PySem.W.keepIn K (.ref C_BadWish) = true)
    (bs_BadWish : PySem.W.subIn K (.ref C_BadWish) (.type "BaseException") = some true)
    (ty_BadWish : PySem.W.typeIn K (.ref C_BadWish) = some (.type "type"))
    (ic_BadWish : PySem.W.isClsIn K C_BadWish = true)
    (x_TooLarge : PySem.W.excIn K C_TooLarge [.type "ValueError", .type "Exception", .type "BaseException", .type "object"] "ValueError.__new__" = true)
    (ke_TooLarge : PySem.W.keepIn K (.ref C_TooLarge) = true)
    (bs_TooLarge : PySem.W.subIn K (.ref C_TooLarge) (.type "BaseException") = some true)
    (ty_TooLarge : PySem.W.typeIn K (.ref C_TooLarge) = some (.type "type"))
    (ic_TooLarge : PySem.W.isClsIn K C_TooLarge = true)
    (x_NoSize : PySem.W.excIn K C_NoSize [.type "ValueError", .type "Exception", .type "BaseException", .type "object"] "ValueError.__new__" = true)
    (ke_NoSize : PySem.W.keepIn K (.ref C_NoSize) = true)
    (bs_NoSize : PySem.W.subIn K (.ref C_NoSize) (.type "BaseException") = some true)
    (ty_NoSize : PySem.W.typeIn K (.ref C_NoSize) = some (.type "type"))
    (ic_NoSize : PySem.W.isClsIn K C_NoSize = true)
    (x_NoRoom : PySem.W.excIn K C_NoRoom [.type "ValueError", .type "Exception", .type "BaseException", .type "object"] "ValueError.__new__" = true)
    (ke_NoRoom : PySem.W.keepIn K (.ref C_NoRoom) = true)
    (bs_NoRoom : PySem.W.subIn K (.ref C_NoRoom) (.type "BaseException") = some true)
    (ty_NoRoom : PySem.W.typeIn K (.ref C_NoRoom) = some (.type "type"))
    (ic_NoRoom : PySem.W.isClsIn K C_NoRoom = true)
    (x_NotOut : PySem.W.excIn K C_NotOut [.type "ValueError", .type "Exception", .type "BaseException", .type "object"] "ValueError.__new__" = true)
    (ke_NotOut : PySem.W.keepIn K (.ref C_NotOut) = true)
    (bs_NotOut : PySem.W.subIn K (.ref C_NotOut) (.type "BaseException") = some true)
    (ty_NotOut : PySem.W.typeIn K (.ref C_NotOut) = some (.type "type"))
    (ic_NotOut : PySem.W.isClsIn K C_NotOut = true)
    (x_OutOfThing : PySem.W.excIn K C_OutOfThing [.type "ValueError", .type "Exception", .type "BaseException", .type "object"] "ValueError.__new__" = true)
    (ke_OutOfThing : PySem.W.keepIn K (.ref C_OutOfThing) = true)
    (bs_OutOfThing : PySem.W.subIn K (.ref C_OutOfThing) (.type "BaseException") = some true)
    (ty_OutOfThing : PySem.W.typeIn K (.ref C_OutOfThing) = some (.type "type"))
    (ic_OutOfThing : PySem.W.isClsIn K C_OutOfThing = true)
    (g1_BadPlan : PySem.W.findIn K (.ref C_BadPlan) "__getattribute__" = some (some (.builtin "BaseException.__getattribute__")))
    (g2_BadPlan : PySem.W.findIn K (.ref C_BadPlan) "__getattr__" = some none)
    (g3_BadPlan : PySem.W.hasDictIn K C_BadPlan = true)
    (g4_BadPlan : PySem.W.findIn K (.ref C_BadPlan) "__class__" = some (some (.builtin "object.__class__")))
    (g5_BadPlan : PySem.W.mroIn K C_BadPlan (.type "object") = some true)
    (g6_BadPlan : PySem.W.subIn K (.ref C_BadPlan) (.type "ValueError") = some true)
    (oc1 : PySem.W.specialIn K (.builtin "object.__class__") "__get__" = some (some (.builtin "getset_descriptor.__get__")))
    (oc2 : PySem.W.takesIn K (.builtin "object.__class__") = some true)
    (sb_BadPlan_BadPlan : PySem.W.subIn K (.ref C_BadPlan) (.ref C_BadPlan) = some true)
    (sb_BadPlan_RoomError : PySem.W.subIn K (.ref C_BadPlan) (.ref C_RoomError) = some true)
    (sb_BadPlan_BadWish : PySem.W.subIn K (.ref C_BadPlan) (.ref C_BadWish) = some false)
    (sb_BadPlan_NoRoom : PySem.W.subIn K (.ref C_BadPlan) (.ref C_NoRoom) = some false)
    (sb_BadPlan_NoSize : PySem.W.subIn K (.ref C_BadPlan) (.ref C_NoSize) = some false)
    (sb_BadPlan_NotOut : PySem.W.subIn K (.ref C_BadPlan) (.ref C_NotOut) = some false)
    (sb_BadPlan_OutOfThing : PySem.W.subIn K (.ref C_BadPlan) (.ref C_OutOfThing) = some false)
    (sb_BadPlan_TooLarge : PySem.W.subIn K (.ref C_BadPlan) (.ref C_TooLarge) = some false)
    (n_ValueError : PySem.W.nsIn K mainGlobals "ValueError" = some none)
    (n_bool : PySem.W.nsIn K mainGlobals "bool" = some none)
    (n_int : PySem.W.nsIn K mainGlobals "int" = some none)
    (n_isinstance : PySem.W.nsIn K mainGlobals "isinstance" = some none)
    (n_len : PySem.W.nsIn K mainGlobals "len" = some none)
    (n_list : PySem.W.nsIn K mainGlobals "list" = some none)
    (n_range : PySem.W.nsIn K mainGlobals "range" = some none)
    (n_tuple : PySem.W.nsIn K mainGlobals "tuple" = some none)
    (v_MOST_LENGTH : PySem.W.nsIn K mainGlobals "MOST_LENGTH" = some (some (.int 60 tk_MOST_LENGTH)))
    (v_MOST_PAGES : PySem.W.nsIn K mainGlobals "MOST_PAGES" = some (some (.int 40 tk_MOST_PAGES)))
    (v_MOST_SIZES : PySem.W.nsIn K mainGlobals "MOST_SIZES" = some (some (.int 8 tk_MOST_SIZES))) :
    ∃ fd : FuncData, (∀ (s : Shared) (v : Value), BindsTo s fd ⟨[v], []⟩ [("_law_script", v)]) ∧ ∀ base : Heap, K.In base → base.Ns mainGlobals mg → FnOk l.prog w K mg base CX0 7 fa fd ["_law_script"] (spL K) := by
  have e := hfa.symm.trans (PySem.W.mg_of X G a10)
  cases e
  have F0 := fun_mk (st := s_is_whole) l0 c0 k0
  have b0 := F0.binds (ps := ["number"]) fun _ _ _ _ _ _ us hl => match us, hl with | [_], _ => rfl
  have F1 := fun_mk (st := s_is_within) l1 c1 k1
  have b1 := F1.binds (ps := ["number", "least", "most"]) fun _ _ _ _ _ _ us hl => match us, hl with | [_, _, _], _ => rfl
  have F2 := fun_mk (st := s_check_sizes) l2 c2 k2
  have b2 := F2.binds (ps := ["sizes", "length"]) fun _ _ _ _ _ _ us hl => match us, hl with | [_, _], _ => rfl
  have F3 := fun_mk (st := s_Plan_init) l3 c3 k3
  have b3 := F3.binds (ps := ["self", "pages", "length", "sizes"]) fun _ _ _ _ _ _ us hl => match us, hl with | [_, _, _, _], _ => rfl
  have F4 := fun_mk (st := s_l_cell_at) l4 c4 k4
  have b4 := F4.binds (ps := ["_law_script", "_law_k"]) fun _ _ _ _ _ _ us hl => match us, hl with | [_, _], _ => rfl
  have F5 := fun_mk (st := s_l_whole) l5 c5 k5
  have b5 := F5.binds (ps := ["_law_found"]) fun _ _ _ _ _ _ us hl => match us, hl with | [_], _ => rfl
  have F6 := fun_mk (st := s_l_sizes_by) l6 c6 k6
  have b6 := F6.binds (ps := ["_law_cell", "_law_length", "_law_many"]) fun _ _ _ _ _ _ us hl => match us, hl with | [_, _, _], _ => rfl
  have F7 := fun_mk (st := s_l_refused) l7 c7 k7
  have b7 := F7.binds (ps := ["_law_pages", "_law_length", "_law_sizes", "_law_way"]) fun _ _ _ _ _ _ us hl => match us, hl with | [_, _, _, _], _ => rfl
  have F8 := fun_mk (st := s_l_bad_sizes) l8 c8 k8
  have b8 := F8.binds (ps := ["_law_sizes", "_law_length", "_law_cell"]) fun _ _ _ _ _ _ us hl => match us, hl with | [_, _, _], _ => rfl
  have F9 := fun_mk (st := s_l_wrong) l9 c9 k9
  have b9 := F9.binds (ps := ["_law_pages", "_law_length", "_law_sizes", "_law_cell"]) fun _ _ _ _ _ _ us hl => match us, hl with | [_, _, _, _], _ => rfl
  have F10 := fun_mk (st := s_law) l10 c10 k10
  have b10 := F10.binds (ps := ["_law_script"]) fun _ _ _ _ _ _ us hl => match us, hl with | [_], _ => rfl
  let A : Ad := ⟨K, C_Plan, C_RoomError, C_BadPlan, C_BadWish, C_TooLarge, C_NoSize, C_NoRoom, C_NotOut, C_OutOfThing⟩
  let T : Txt A mg := {
    f_is_whole := f0,
    fd_is_whole := _,
    F_is_whole := F0,
    b_is_whole := b0,
    g_is_whole := PySem.W.mg_of X G a0,
    k_is_whole := k0,
    f_is_within := f1,
    fd_is_within := _,
    F_is_within := F1,
    b_is_within := b1,
    g_is_within := PySem.W.mg_of X G a1,
    k_is_within := k1,
    f_check_sizes := f2,
    fd_check_sizes := _,
    F_check_sizes := F2,
    b_check_sizes := b2,
    g_check_sizes := PySem.W.mg_of X G a2,
    k_check_sizes := k2,
    f_Plan_init := f3,
    fd_Plan_init := _,
    F_Plan_init := F3,
    b_Plan_init := b3,
    mk_Plan := ⟨mk_Plan, a3, i3, kc_Plan⟩,
    f_l_cell_at := f4,
    fd_l_cell_at := _,
    F_l_cell_at := F4,
    b_l_cell_at := b4,
    g_l_cell_at := PySem.W.mg_of X G a4,
    k_l_cell_at := k4,
    f_l_whole := f5,
    fd_l_whole := _,
    F_l_whole := F5,
    b_l_whole := b5,
    g_l_whole := PySem.W.mg_of X G a5,
    k_l_whole := k5,
    f_l_sizes_by := f6,
    fd_l_sizes_by := _,
    F_l_sizes_by := F6,
    b_l_sizes_by := b6,
    g_l_sizes_by := PySem.W.mg_of X G a6,
    k_l_sizes_by := k6,
    f_l_refused := f7,
    fd_l_refused := _,
    F_l_refused := F7,
    b_l_refused := b7,
    g_l_refused := PySem.W.mg_of X G a7,
    k_l_refused := k7,
    f_l_bad_sizes := f8,
    fd_l_bad_sizes := _,
    F_l_bad_sizes := F8,
    b_l_bad_sizes := b8,
    g_l_bad_sizes := PySem.W.mg_of X G a8,
    k_l_bad_sizes := k8,
    f_l_wrong := f9,
    fd_l_wrong := _,
    F_l_wrong := F9,
    b_l_wrong := b9,
    g_l_wrong := PySem.W.mg_of X G a9,
    k_l_wrong := k9,
    f_law := fa,
    fd_law := _,
    F_law := F10,
    b_law := b10,
    g_law := PySem.W.mg_of X G a10,
    k_law := k10,
    cl_Plan := ⟨pg_Plan, hd_Plan, po_Plan, sa_Plan⟩,
    g_Plan := PySem.W.mg_of X G aC_Plan,
    g_RoomError := PySem.W.mg_of X G aC_RoomError,
    x_RoomError := x_RoomError,
    k_RoomError := ke_RoomError,
    bs_RoomError := bs_RoomError,
    ty_RoomError := ty_RoomError,
    g_BadPlan := PySem.W.mg_of X G aC_BadPlan,
    x_BadPlan := x_BadPlan,
    k_BadPlan := ke_BadPlan,
    bs_BadPlan := bs_BadPlan,
    ty_BadPlan := ty_BadPlan,
    g_BadWish := PySem.W.mg_of X G aC_BadWish,
    x_BadWish := x_BadWish,
    k_BadWish := ke_BadWish,
    bs_BadWish := bs_BadWish,
    ty_BadWish := ty_BadWish,
    g_TooLarge := PySem.W.mg_of X G aC_TooLarge,
    x_TooLarge := x_TooLarge,
    k_TooLarge := ke_TooLarge,
    bs_TooLarge := bs_TooLarge,
    ty_TooLarge := ty_TooLarge,
    g_NoSize := PySem.W.mg_of X G aC_NoSize,
    x_NoSize := x_NoSize,
    k_NoSize := ke_NoSize,
    bs_NoSize := bs_NoSize,
    ty_NoSize := ty_NoSize,
    g_NoRoom := PySem.W.mg_of X G aC_NoRoom,
    x_NoRoom := x_NoRoom,
    k_NoRoom := ke_NoRoom,
    bs_NoRoom := bs_NoRoom,
    ty_NoRoom := ty_NoRoom,
    g_NotOut := PySem.W.mg_of X G aC_NotOut,
    x_NotOut := x_NotOut,
    k_NotOut := ke_NotOut,
    bs_NotOut := bs_NotOut,
    ty_NotOut := ty_NotOut,
    g_OutOfThing := PySem.W.mg_of X G aC_OutOfThing,
    x_OutOfThing := x_OutOfThing,
    k_OutOfThing := ke_OutOfThing,
    bs_OutOfThing := bs_OutOfThing,
    ty_OutOfThing := ty_OutOfThing,
    n_ValueError := PySem.W.mg_none_of X G n_ValueError,
    n_bool := PySem.W.mg_none_of X G n_bool,
    n_int := PySem.W.mg_none_of X G n_int,
    n_isinstance := PySem.W.mg_none_of X G n_isinstance,
    n_len := PySem.W.mg_none_of X G n_len,
    n_list := PySem.W.mg_none_of X G n_list,
    n_range := PySem.W.mg_none_of X G n_range,
    n_tuple := PySem.W.mg_none_of X G n_tuple,
    tk_MOST_LENGTH := tk_MOST_LENGTH,
    v_MOST_LENGTH := PySem.W.mg_of X G v_MOST_LENGTH,
    tk_MOST_PAGES := tk_MOST_PAGES,
    v_MOST_PAGES := PySem.W.mg_of X G v_MOST_PAGES,
    tk_MOST_SIZES := tk_MOST_SIZES,
    v_MOST_SIZES := PySem.W.mg_of X G v_MOST_SIZES,
    na := { cl_Plan := ⟨pg_Plan, hd_Plan, po_Plan, sa_Plan⟩, na_Plan_pages := na_Plan_pages, na_Plan_length := na_Plan_length, na_Plan_sizes := na_Plan_sizes, ex_BadPlan_BadPlan := exm_mk rfl bs_BadPlan ic_BadPlan ty_BadPlan sb_BadPlan_BadPlan, ex_BadPlan_RoomError := exm_mk rfl bs_RoomError ic_RoomError ty_RoomError sb_BadPlan_RoomError, ec_BadPlan := ⟨g1_BadPlan, g2_BadPlan, bs_BadPlan, g3_BadPlan, g4_BadPlan, oc1, oc2, g5_BadPlan⟩, ki_BadPlan_BadPlan := kit_mk ic_BadPlan ty_BadPlan sb_BadPlan_BadPlan sb_BadPlan_BadPlan, ki_BadPlan_BadWish := kit_mk ic_BadWish ty_BadWish sb_BadPlan_BadWish sb_BadPlan_BadPlan, ki_BadPlan_NoRoom := kit_mk ic_NoRoom ty_NoRoom sb_BadPlan_NoRoom sb_BadPlan_BadPlan, ki_BadPlan_NoSize := kit_mk ic_NoSize ty_NoSize sb_BadPlan_NoSize sb_BadPlan_BadPlan, ki_BadPlan_NotOut := kit_mk ic_NotOut ty_NotOut sb_BadPlan_NotOut sb_BadPlan_BadPlan, ki_BadPlan_OutOfThing := kit_mk ic_OutOfThing ty_OutOfThing sb_BadPlan_OutOfThing sb_BadPlan_BadPlan, ki_BadPlan_TooLarge := kit_mk ic_TooLarge ty_TooLarge sb_BadPlan_TooLarge sb_BadPlan_BadPlan, kv_BadPlan := kit_ve g6_BadPlan } }
  exact ⟨PySem.W.fnOf "law" "law" (defArgs s_law) (defBody s_law) (defScope s_law) .none kV10 dc10 pm10 an10 cd10 ct10, fun s v => .of_eq rfl, fun base _ _ => (ok_law T : FnOk l.prog w A.K mg base CX0 7 T.f_law T.fd_law ["_law_script"] (sp_law A))⟩
theorem walk {l : PySem.W.OpenLaw} {q : Program} {loose : List Str} {XP : (Str → Option Value) → Heap → Prop} {YP : World → Heap → Prop} {d : DefRec} {K : Params → PySem.W.Frag} (hn : l.most = some 63) (hdf : d.params.defaults = [])
    (hY : ∀ (w : World) (h : Heap), YP w h → (K w.params).In h)
    (F : ∀ (w : World) (mg : Str → Option Value) (fa : Addr) (h : Heap), (K w.params).In h → h.Ns mainGlobals mg → mg d.name = some (.ref fa) →
      ∃ fd : FuncData, (∀ (s : Shared) (u : Value), BindsTo s fd ⟨[u], []⟩ [("_law_script", u)]) ∧ ∀ base : Heap, (K w.params).In base → base.Ns mainGlobals mg → FnOk l.prog w (K w.params) mg base CX0 7 fa fd ["_law_script"] (spL (K w.params))) :
    PySem.W.WalkO q loose XP YP l.row.toRowW d [] (fun f vs => PySem.call f vs) :=
  L2.walk_of (n := 63) (k := 7) (x := "_law_script") (CX := fun _ => CX0) (sp := fun w => spL (K w.params)) hn (by decide) hdf ⟨rfl, by decide, by decide⟩ hY F (fun _ _ a ns hl _ hS => ⟨a, ns, rfl, hS, hl, fun _ => rfl⟩) fun _ _ _ _ _ z => z


end My
open PySem PySem.W PyProof.Rows
set_option maxRecDepth 100000 in
set_option maxHeartbeats 0 in
theorem PySem.Challenge.cw_slabroom_k02_plans_holds : PySem.Challenge.rw_slabroom_k02_plans.Holds := by
  w_on; o_law; k_head; (case hw => w_witness2)
  k_fill
  refine My.walk (l := PySem.Challenge.rw_slabroom_k02_plans) rfl rfl (fun w h Y => PySem.W.kIn_of Y) ?F
  case F =>
    intro w mg fa h KX G hmg
    refine' My.all_mk KX G hmg ?aC_Plan ?aC_RoomError ?aC_BadPlan ?aC_BadWish ?aC_TooLarge ?aC_NoSize ?aC_NoRoom ?aC_NotOut ?aC_OutOfThing ?a0 ?l0 ?c0 ?k0 ?a1 ?l1 ?c1 ?k1 ?a2 ?l2 ?c2 ?k2 ?a3 ?i3 ?l3 ?c3 ?k3 ?a4 ?l4 ?c4 ?k4 ?a5 ?l5 ?c5 ?k5 ?a6 ?l6 ?c6 ?k6 ?a7 ?l7 ?c7 ?k7 ?a8 ?l8 ?c8 ?k8 ?a9 ?l9 ?c9 ?k9 ?a10 ?l10 ?c10 ?k10 ?pg_Plan ?hd_Plan ?po_Plan ?sa_Plan ?mk_Plan ?kc_Plan ?na_Plan_pages ?na_Plan_length ?na_Plan_sizes ?x_RoomError ?ke_RoomError ?bs_RoomError ?ty_RoomError ?ic_RoomError ?x_BadPlan ?ke_BadPlan ?bs_BadPlan ?ty_BadPlan ?ic_BadPlan ?x_BadWish ?ke_BadWish ?bs_BadWish ?ty_BadWish ?ic_BadWish ?x_TooLarge ?ke_TooLarge ?bs_TooLarge ?ty_TooLarge ?ic_TooLarge ?x_NoSize ?ke_NoSize ?bs_NoSize ?ty_NoSize ?ic_NoSize ?x_NoRoom ?ke_NoRoom ?bs_NoRoom ?ty_NoRoom ?ic_NoRoom ?x_NotOut ?ke_NotOut ?bs_NotOut ?ty_NotOut ?ic_NotOut ?x_OutOfThing ?ke_OutOfThing ?bs_OutOfThing ?ty_OutOfThing ?ic_OutOfThing ?g1_BadPlan ?g2_BadPlan ?g3_BadPlan ?g4_BadPlan ?g5_BadPlan ?g6_BadPlan ?oc1 ?oc2 ?sb_BadPlan_BadPlan ?sb_BadPlan_RoomError ?sb_BadPlan_BadWish ?sb_BadPlan_NoRoom ?sb_BadPlan_NoSize ?sb_BadPlan_NotOut ?sb_BadPlan_OutOfThing ?sb_BadPlan_TooLarge ?n_ValueError ?n_bool ?n_int ?n_isinstance ?n_len ?n_list ?n_range ?n_tuple ?v_MOST_LENGTH ?v_MOST_PAGES ?v_MOST_SIZES
    (case aC_Plan => k_is)
    (case aC_RoomError => k_is)
    (case aC_BadPlan => k_is)
    (case aC_BadWish => k_is)
    (case aC_TooLarge => k_is)
    (case aC_NoSize => k_is)
    (case aC_NoRoom => k_is)
    (case aC_NotOut => k_is)
    (case aC_OutOfThing => k_is)
    (case a0 => k_is)
    (case l0 => k_is)
    (case c0 => k_is)
    (case k0 => k_is)
    (case a1 => k_is)
    (case l1 => k_is)
    (case c1 => k_is)
    (case k1 => k_is)
    (case a2 => k_is)
    (case l2 => k_is)
    (case c2 => k_is)
    (case k2 => k_is)
    (case a3 => k_is)
    (case i3 => k_is)
    (case l3 => k_is)
    (case c3 => k_is)
    (case k3 => k_is)
    (case a4 => k_is)
    (case l4 => k_is)
    (case c4 => k_is)
    (case k4 => k_is)
    (case a5 => k_is)
    (case l5 => k_is)
    (case c5 => k_is)
    (case k5 => k_is)
    (case a6 => k_is)
    (case l6 => k_is)
    (case c6 => k_is)
    (case k6 => k_is)
    (case a7 => k_is)
    (case l7 => k_is)
    (case c7 => k_is)
    (case k7 => k_is)
    (case a8 => k_is)
    (case l8 => k_is)
    (case c8 => k_is)
    (case k8 => k_is)
    (case a9 => k_is)
    (case l9 => k_is)
    (case c9 => k_is)
    (case k9 => k_is)
    (case a10 => k_is)
    (case l10 => k_is)
    (case c10 => k_is)
    (case k10 => k_is)
    (case pg_Plan => k_is)
    (case hd_Plan => k_is)
    (case po_Plan => k_is)
    (case sa_Plan => k_is)
    (case mk_Plan => k_is)
    (case kc_Plan => k_is)
    (case na_Plan_pages => k_is)
    (case na_Plan_length => k_is)
    (case na_Plan_sizes => k_is)
    (case x_RoomError => k_exc)
    (case ke_RoomError => k_is)
    (case bs_RoomError => k_is)
    (case ty_RoomError => k_is)
    (case ic_RoomError => k_is)
    (case x_BadPlan => k_exc)
    (case ke_BadPlan => k_is)
    (case bs_BadPlan => k_is)
    (case ty_BadPlan => k_is)
    (case ic_BadPlan => k_is)
    (case x_BadWish => k_exc)
    (case ke_BadWish => k_is)
    (case bs_BadWish => k_is)
    (case ty_BadWish => k_is)
    (case ic_BadWish => k_is)
    (case x_TooLarge => k_exc)
    (case ke_TooLarge => k_is)
    (case bs_TooLarge => k_is)
    (case ty_TooLarge => k_is)
    (case ic_TooLarge => k_is)
    (case x_NoSize => k_exc)
    (case ke_NoSize => k_is)
    (case bs_NoSize => k_is)
    (case ty_NoSize => k_is)
    (case ic_NoSize => k_is)
    (case x_NoRoom => k_exc)
    (case ke_NoRoom => k_is)
    (case bs_NoRoom => k_is)
    (case ty_NoRoom => k_is)
    (case ic_NoRoom => k_is)
    (case x_NotOut => k_exc)
    (case ke_NotOut => k_is)
    (case bs_NotOut => k_is)
    (case ty_NotOut => k_is)
    (case ic_NotOut => k_is)
    (case x_OutOfThing => k_exc)
    (case ke_OutOfThing => k_is)
    (case bs_OutOfThing => k_is)
    (case ty_OutOfThing => k_is)
    (case ic_OutOfThing => k_is)
    (case g1_BadPlan => k_is)
    (case g2_BadPlan => k_is)
    (case g3_BadPlan => k_is)
    (case g4_BadPlan => k_is)
    (case g5_BadPlan => k_is)
    (case g6_BadPlan => k_is)
    (case oc1 => k_is)
    (case oc2 => k_is)
    (case sb_BadPlan_BadPlan => k_is)
    (case sb_BadPlan_RoomError => k_is)
    (case sb_BadPlan_BadWish => k_is)
    (case sb_BadPlan_NoRoom => k_is)
    (case sb_BadPlan_NoSize => k_is)
    (case sb_BadPlan_NotOut => k_is)
    (case sb_BadPlan_OutOfThing => k_is)
    (case sb_BadPlan_TooLarge => k_is)
    (case n_ValueError => k_is)
    (case n_bool => k_is)
    (case n_int => k_is)
    (case n_isinstance => k_is)
    (case n_len => k_is)
    (case n_list => k_is)
    (case n_range => k_is)
    (case n_tuple => k_is)
    (case v_MOST_LENGTH => k_is)
    (case v_MOST_PAGES => k_is)
    (case v_MOST_SIZES => k_is)
#print axioms PySem.Challenge.cw_slabroom_k02_plans_holds
